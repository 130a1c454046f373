import PyProof.Rows.All
import Wide.All
import OpenK.AllK
import Wide.FinOn
import Lean
import PyProof.EqAt
import PyProof.EqKinds
import PyProof.TupleCall
import PyProof.P3Eq
import PyProof.NeData
import PySem.Challenge.RW_allfirst_k51_forms_as_plans
set_option autoImplicit true
set_option relaxedAutoImplicit true
set_option Elab.async false
set_option linter.all false
set_option maxRecDepth 100000
open PySem PySem.Spec PyProof.Rows
theorem Zqi.{u} {α:Type u}{a b:α}(h:some a=some b):a=b:=Option.some.inj h
theorem Zqg.{u} {α:Type u}{l:List α}{i:Nat}(h:i<l.length):l[i]? = some l[i]:=List.getElem?_eq_getElem h
theorem Zqs.{u} {α:Type u}{a:α}{l:List α}:a∈a::l:=List.mem_cons_self
theorem Zqm.{u} {α:Type u}(y:α){a:α}{l:List α}(h:a∈l):a∈y::l:=List.mem_cons_of_mem y h
theorem Zql.{u,v} {α:Type u}{β:Type v}{l:List α}(f:α->β):(l.map f).length=l.length:=List.length_map f
abbrev Za:=@wpAny_bind
abbrev Zb:=@wpAny_pure
abbrev Zc:=@wpAny_mono
abbrev Zd:=@if_pos
abbrev Ze:=@if_neg
abbrev Zf:=@Nat.le_refl
abbrev Zg:=@Nat.lt_of_lt_of_le
abbrev Zh:=@Nat.le_trans
abbrev Zi:=@Nat.ne_of_lt
abbrev Zj:=@Bool.false_ne_true
abbrev Zk:=@Heap.lt_size
abbrev Zl:=@List.map_cons
abbrev Zm:=@List.size_toArray
abbrev Zn:=@absurd
abbrev Zo:=@decide_eq_false
abbrev Zp:=@decide_eq_true
abbrev Zq:=@Heap.get?_push_of_some
abbrev Zr:=@Heap.get?_push_size
abbrev Zs:=@iff_of_false
abbrev Zt:=@congrArg
abbrev Zu:=@List.length_cons
abbrev Zv:=@List.getElem?_map
abbrev Zw:=@List.map_map
abbrev Zx:=@List.getElem?_set_ne
abbrev Zy:=@Nat.lt_irrefl
abbrev Zz:=@Nat.le_of_lt
abbrev ZA:=@List.append_nil
abbrev ZB:=@List.length_range
abbrev ZC:=@List.length_nil
set_option maxHeartbeats 4000000
abbrev Ya:=PySem.Value->PySem.Shared->Prop
abbrev Yb:=List (PySem.Addr×PySem.Obj)
abbrev Yc:=PySem.Str->Option PySem.Value
abbrev Yd:=List PySem.Value
abbrev Ye:=List Int
abbrev Yf:=Array Nat
abbrev Yg:=List Nat
abbrev Yh:=List PySem.Str
abbrev Yi:=List PySem.Addr
abbrev Yj:=List PySem.Expr
abbrev Yk:=Array PySem.Value
abbrev Yl:=@PyProof.Rows.wpS_bind
abbrev Ym:=@PyProof.Rows.wpS_pure
abbrev Yn:=@PyProof.Rows.wpS_forRange
abbrev Yo:=@beq_iff_eq
abbrev Yp:=@Unit.unit
abbrev Yq:=@Nat.le_of_eq
abbrev Yr:=@PySem.F.plainAttrs_list
abbrev Ys:=@PySem.F.slot_list_append
abbrev Yt:=@PySem.F.type_list_append
abbrev Yu:=PySem.Shared->Prop
abbrev Yv:=PySem.SetTable
section
local macro_rules | `(tactic| trivial) => `(tactic| first|exact .inl rfl|exact .inr rfl|assumption)
local macro_rules | `(()) => `(by omega)
abbrev Ua:=@List.getD_eq_getElem?_getD
abbrev Ub:=@List.length_append
abbrev Uc:=@Bool.and_eq_true
abbrev Ud:=@List.mem_of_getElem?
abbrev Ue:=@Nat.zero_le
abbrev Uf:=@Bool.false_eq_true
abbrev Ug:=@List.map_append
abbrev Uh:=@Sum.inl
abbrev Ui:=@Array.length_toList
abbrev Uj:=@List.length_take
abbrev Ul:=@List.mem_append_right
abbrev Uo:=@List.all_eq_true
abbrev Uq:=@List.length_singleton
abbrev Ur:=@List.lookup_cons
abbrev Us:=@Array.getElem?_eq_getElem
abbrev Ut:=@Array.size_map
abbrev Uu:=@List.map_nil
abbrev Uv:=@Nat.blt_eq
abbrev Uw:=@Nat.not_lt_zero
abbrev Uy:=@List.take_succ
abbrev Uz:=@List.all_cons
abbrev UA:=@List.getElem_of_mem
abbrev UB:=@List.mem_cons
abbrev UC:=@List.append_assoc
abbrev UD:=@Nat.lt_succ_of_lt
abbrev UE:=@List.foldl_cons
abbrev UF:=@List.getElem?_eq_none
abbrev UG:=@List.getElem_mem
abbrev UH:=@Sum.inr
abbrev UI:=@Nat.blt
abbrev UJ:=@Nat.mod_lt
abbrev UK:=@List.take_length
abbrev UL:=@Nat.lt_trans
abbrev UM:=@List.not_mem_nil
abbrev UN:=@Nat.lt_trichotomy
abbrev UO:=@List.filterMap_cons
abbrev UP:=@List.mem_append_left
abbrev UQ:=@List.length_set
abbrev UR:=@Bool.not_true
abbrev US:=@List.foldl_append
abbrev UT:=@List.find?_cons
abbrev UU:=@Bool.or_eq_true
abbrev UV:=@Nat.mod_eq_of_lt
abbrev UW:=@Int.emod_lt_of_pos
abbrev UX:=@Int.emod_nonneg
abbrev UY:=@Array.getD_eq_getD_getElem?
abbrev UZ:=@List.all_map
abbrev U0:=@List.getElem?_set_self
abbrev U1:=@Nat.ne_of_gt
abbrev U4:=@Bool.eq_iff_iff
abbrev U5:=@List.zip_cons_cons
abbrev U6:=@List.drop_eq_getElem_cons
abbrev U7:=@Array.getElem?_map
abbrev U8:=@Nat.zero_add
abbrev U9:=@Nat.succ.inj
abbrev Va:=@List.getElem?_range
abbrev Vb:=@List.take_of_length_le
abbrev Vc:=@Int.toNat_natCast
abbrev Vd:=@Nat.le_succ
abbrev Ve:=@List.getElem?_append_right
abbrev Vf:=@List.getElem?_append_left
abbrev Vg:=@Array.getElem?_eq_none
abbrev Vh:=@List.nodup_nil
abbrev Vi:=@Nat.pow_succ
abbrev Vj:=@Nat.succ_pos
abbrev Vk:=@List.pairwise_map
abbrev Vl:=@List.any_eq_false
abbrev Vm:=@Nat.lt_succ_self
abbrev Vn:=@List.any_cons
abbrev Vo:=@List.nodup_append
abbrev Vp:=@List.any_map
abbrev Vq:=@List.map_congr_left
abbrev Vr:=@List.drop_length
abbrev Vs:=@Nat.ble_eq
abbrev Vt:=@Array.forIn_toList
abbrev Vu:=@List.mem_singleton
abbrev Vv:=@List.mem_of_mem_take
abbrev Vw:=@Bool.and_false
abbrev Vx:=@Bool.false_and
abbrev Vy:=@Nat.lt_of_le_of_lt
abbrev Vz:=@Nat.min_self
abbrev VA:=@Array.getElem?_range
abbrev VB:=@List.Perm.refl
abbrev VC:=@List.pairwise_singleton
abbrev VD:=@Nat.mul_assoc
abbrev VE:=@List.ext_getElem?
abbrev VF:=@Nat.lt_or_ge
abbrev VG:=@Int.zero_add
abbrev VH:=@List.take_sublist
abbrev VI:=@Option.isSome_map
abbrev VJ:=@List.getElem?_zip_eq_some
abbrev VL:=@Array.swapIfInBounds_def
abbrev VM:=@Nat.lt_of_le_of_ne
abbrev VN:=@Nat.le_of_lt_succ
abbrev VO:=@List.getElem_map
abbrev VP:=@List.any_eq_true
abbrev VQ:=@Nat.eq_zero_or_pos
abbrev VR:=@Nat.succ_le_succ
abbrev VS:=@Classical.byContradiction
abbrev VT:=@Array.mem_toList_iff
abbrev VU:=@Array.getElem_mem
abbrev VV:=@List.take_append_drop
abbrev VW:=@List.drop_eq_nil_of_le
abbrev VX:=@List.Nodup.length_le_of_subset
abbrev Ja:=@List.mem_map
abbrev Jb:=@List.getElem?_eq_some_iff
abbrev Jc:=@List.mem_append
abbrev Jd:=@List.mem_range
abbrev Je:=@List.mem_filter
abbrev Jf:=@List.length_eq_zero_iff
abbrev Jg:=@Option.bind_eq_some_iff
abbrev Jh:=@List.nodup_cons
abbrev Ji:=@Option.map_eq_some_iff
abbrev Jj:=@List.pairwise_cons
abbrev Jk:=@List.length_pos_iff
abbrev Jl:=@List.pairwise_iff_getElem
abbrev Jm:=@Nat.lt_succ_iff
abbrev Jn:=@List.getElem?_eq_none_iff
abbrev Jo:=@Option.isSome_iff_exists
abbrev Jp:=@Bool.and_eq_true_iff
abbrev Jq:=@List.mem_filterMap
abbrev Jr:=@Array.perm_iff_toList_perm
abbrev Js:=@List.find?_eq_none
abbrev Jt:=@List.pairwise_append
abbrev Ju:=@Array.getElem?_eq_some_iff
abbrev Jv:=@List.find?_range_eq_none
abbrev Jw:=@List.nodup_iff_pairwise_ne
abbrev Jx:=List (Int×Int)
abbrev Jy:=List Jx
namespace L2
abbrev Key:=Sum Int Str
def K3:Key->Value->Bool
 | .inl k,v=>Value.isInt k v
 | .inr x,v=>Value.isStrOf x v
def keyH (w:World):Key->Int
 | .inl k=>hashInt k
 | .inr x=>hashStr w x
def Kv:∀{k:Key} {v:Value},K3 k v=true->(∃i t,k=Uh i/\v=Value.int i t)\/(∃x t,k=UH x/\v=Value.str x t)
 | .inl i,v,h=>by
  obtain⟨t,e⟩:=Value.isInt_shape (k:=i) (v:=v) h;exact .inl ⟨i,t,rfl,e⟩
 | .inr x,v,h=>by
  obtain⟨t,e⟩:=Value.isStrOf_shape (x:=x) (v:=v) h;exact .inr ⟨x,t,rfl,e⟩
def DQ (i:Int)(t:Tok):K3 (.inl i) (.int i t)=true:=by simp[K3,Value.isInt]
def IS (x:Str)(t:Tok):K3 (.inr x) (.str x t)=true:=by simp[K3,Value.isStrOf]
def IT (a b:Int):decide ((Uh a:Key)=Uh b)=(a == b):=by
 by_cases e:a=b
 .subst e;simp
 .have h:¬(Uh a:Key)=Uh b:=λq=>e (Sum.inl.inj q);rw[Zo h];exact(beq_eq_false_iff_ne.mpr e).symm
def IU (a b:Str):decide ((UH a:Key)=UH b)=decide (a=b):=by
 by_cases e:a=b
 .subst e;simp
 .have h:¬(UH a:Key)=UH b:=λq=>e (Sum.inr.inj q);rw[Zo h,Zo e]
def IV (a:Int)(b:Str):decide ((Uh a:Key)=UH b)=false:=Zo (λq=>nomatch q)
def IW (a:Str)(b:Int):decide ((UH a:Key)=Uh b)=false:=Zo (λq=>nomatch q)
def Qg (prog:Program)(w:World):PySem.KeyKind prog w Key where
 is:=K3
 hash:=keyH w
 inj:=λv a b ha hb=>by
  rcases Kv ha with ⟨i,t,rfl,rfl⟩|⟨x,t,rfl,rfl⟩
  .rcases Kv hb with ⟨j,u,rfl,e⟩|⟨y,u,rfl,e⟩
   .injection e with e1 _;rw[e1]
   .exact nomatch e
  .rcases Kv hb with ⟨j,u,rfl,e⟩|⟨y,u,rfl,e⟩
   .exact nomatch e
   .injection e with e1 _;rw[e1]
 byValue:=λk v h=>by
  rcases Kv h with ⟨i,t,rfl,rfl⟩|⟨x,t,rfl,rfl⟩<;>rfl
 pyHash:=λhv h=>by
  rcases Kv hv with ⟨i,t,rfl,rfl⟩|⟨x,t,rfl,rfl⟩
  .exact wpAny_pyHash_int h
  .exact wpAny_pyHash_str h
 eqBool:=λhu hv h=>by
  rcases Kv hu with ⟨i,t,rfl,rfl⟩|⟨x,t,rfl,rfl⟩
  .rcases Kv hv with ⟨j,u,rfl,rfl⟩|⟨y,u,rfl,rfl⟩
   .rw[IT] at h;exact wpAny_eqBool_int h
   .rw[IV] at h;exact SeqAt.EqAt.int_str i t y u _ _ _ _ h
  .rcases Kv hv with ⟨j,u,rfl,rfl⟩|⟨y,u,rfl,rfl⟩
   .rw[IW] at h;exact SeqAt.EqAt.str_int x t j u _ _ _ _ h
   .rw[IU] at h;exact wpAny_eqBool_str h
 «strs»:=λk x t v h=>by
  rcases Kv h with ⟨i,u,rfl,e⟩|⟨y,u,rfl,e⟩
  .exact nomatch e
  .injection e with e1 _
   subst e1;cases v<;>rfl
def IX (prog:Program)(w:World)(i:Int)(t:Tok):(Qg prog w).is (.inl i) (.int i t)=true:=DQ i t
def IY (prog:Program)(w:World)(x:Str)(t:Tok):(Qg prog w).is (.inr x) (.str x t)=true:=IS x t
inductive V where
 |non|bl (b:Bool)|int (i:Int)|str (x:Str)|byt (b:Array UInt8)|flt (b:UInt64)|ref (a:Addr)|ty (n:String)
 deriving DecidableEq
abbrev _root_.Yw:=List V
abbrev _root_.Yx:=Option V
def RelV:V->Value->Prop
 | .non,u=>u=Value.none
 | .bl b,u=>u=Value.bool b
 | .int i,u=>∃t,u=Value.int i t
 | .str x,u=>∃t,u=Value.str x t
 | .byt b,u=>∃t,u=Value.bytes b t
 | .flt b,u=>∃t,u=Value.float b t
 | .ref a,u=>u=Value.ref a
 | .ty n,u=>u=Value.type n
abbrev Vals:Yw->List Value->Prop:=Paired RelV
theorem Vals.length {xs:Yw}{us:Yd}(r:Vals xs us):xs.length=us.length:=Paired.length r
theorem Vals.get:∀{xs:Yw} {us:Yd} {i:Nat} {x:V},Vals xs us->xs[i]? = some x->∃u,us[i]? = some u/\RelV x u
 |_,_,_,_,.nil,e=>by simp at e
 |_,_,0,_,.cons r _,e=>by simp at e;subst e;exact⟨_,rfl,r⟩
 |_,_,i+1,x,.cons _ t,e=>by
  obtain⟨u,h1,h2⟩:=Vals.get (i:=i) (x:=x) t (by simpa using e);exact⟨u,by simpa using h1,h2⟩
theorem Vals.set {x:V}{u:Value}(r:RelV x u):∀{xs:Yw} {us:Yd} (i:Nat),Vals xs us->Vals (xs.set i x) (us.set i u)
 |_,_,_,.nil=>.nil
 |_,_,0,.cons _ t=>.cons r t
 |_,_,i+1,.cons q t=>.cons q (Vals.set r i t)
def Vals.append:∀{xs ys:Yw} {us ws:Yd},Vals xs us->Vals ys ws->Vals (xs++ys) (us++ws):=λh s=>by
 induction h with
 |nil=>exact s
 |cons r _ ih=>exact .cons r ih
def Vals.none_of:∀{xs:Yw} {us:Yd} {i:Nat},Vals xs us->xs[i]? = none->us[i]? = none:=λ{xs us i} r e=>by
 have h1:=r.length;have h2:xs.length<=i:=Jn.mp e;exact Jn.mpr ()
def RelO:Yx->Option Value->Prop
 |some v,some u=>RelV v u
 |none,none=>True
 |_,_=>False
def KV {κ: Type}:List (κ × V)->List (κ × Value)->Prop:=Paired λ(p:κ × V) (q:κ × Value)=>p.1=q.1/\RelV p.2 q.2
def kV:Key->V
 | .inl i=>.int i
 | .inr x=>.str x
inductive HO where
 |lst (xs:Yw)
 |tup (xs:Yw)
 |dK (kvs:List (Key×V))|dT (kvs:List (List Key×V))
 |set (S:Int->Bool) (n:Nat)
 |ins (C dx:Addr) (fs:List (Str×V))
 |own (x:Addr)
 |xd (fs:List (Str×V))
 |met (f x:Addr)
 |rng (lo hi:Int)
 |frz (o:Obj) (u:HO)
 |tbl (ps:Yk)
 |ext (φ: Heap->Prop)
abbrev Hp:=Addr->Option HO
def upd (H:Hp)(a:Addr)(o:HO):Hp:=λb=>if b=a then some o else H b
def JL {H:Hp}{a:Addr}{o:HO}:upd H a o a=some o:=by unfold upd;rw[Zd rfl]
def JC {H:Hp}{a b:Addr}{o:HO}(h:b≠a):upd H a o b=H b:=by unfold upd;rw[Ze h]
def ne_of {H:Hp}{a b:Addr}{o u:HO}(h:H a=some o)(h':H b=some u)(d:o≠u):a≠b:=by
 intro e;subst e;rw[h] at h';exact d (Zqi h')
def Kf {H:Hp}{a b:Addr}{o:HO}(h:H a=some o)(h':H b=none):a≠b:=by
 intro e;subst e;rw[h] at h';cases h'
section
variable (P:Program)(w:World)
def zbj (H:Hp)(h:Heap)(a:Addr):HO->Prop
 | .lst xs=>xs.length<=sizeLine/\∃(its:Yd) (n:Nat),Vals xs its/\h.get? a=some { cls:=.type "list",data:=.seq its.toArray n }
 | .tup xs=>(xs.length<=sizeLine/\∃o,h.get? a=some o/\o.dict=none)/\∃its:Yd,Vals xs its/\IsTup h a its.toArray
 | .dK kvs=>kvs.length<=sizeLine/\(a == sysModules)=false/\∃vs,KV kvs vs/\h.DictOf (Qg P w) a vs
 | .dT kvs=>kvs.length<=sizeLine/\(a == sysModules)=false/\∃xs:List (List Key×Addr×Value),
  Paired (λ(p:List Key×V) (q:List Key×Addr×Value)=>p.1=q.1/\H q.2.1=some (.tup (p.1.map kV))/\RelV p.2 q.2.2) kvs xs /\
  ∃o es ep,h.get? a=some o/\o.ExactDict/\o.data=.dict es ep/\es.toList=xs.map (entryOfKey (tupleKind (Qg P w)))/\(xs.map (·.1)).Nodup
 | .set S n=>h.SetOf (intKind P w) a S n
 | .ins C dx fs=>H dx=some (.own a)/\fs.length<=1000/\dx≠a/\h.get? a=some (W.instObj C dx) /\
  ∃mA,h.Ns1 dx mA/\(∀f,RelO (fs.lookup f) (mA f))/\PySem.Within mA (fs.map (·.1))
 | .own _=>∃o,h.get? a=some o
 | .xd fs=>∃mA,h.Ns1 a mA/\∀f,RelO (fs.lookup f) (mA f)
 | .rng lo hi=>∃t u v,h.get? a=some { cls:=.type "range",data:=.fields #[.int lo t,.int hi u,.int 1 v] }
 | .frz o u=>h.get? a=some o/\zbj H h a u
 | .tbl ps=>h.get? a=some { cls:=.none,data:=.fields ps }
 | .met f x=>h.get? a=some (W.methodObj (.ref f) (.ref x))
 | .ext φ => φ h/\(∃o,h.get? a=some o)/\∀h1 h2:Heap,φ h1->(∀o,h1.get? a=some o->h2.get? a=some o) -> φ h2
def HOk (H:Hp)(h:Heap):Prop:=∀a o,H a=some o->zbj P w H h a o
end
section
variable {P:Program}{w:World}{H H':Hp}{h h':Heap}{a:Addr}{o:HO}
theorem zbj.lt (x:zbj P w H h a o):a<h.objs.size:=by
 cases o with
 |lst xs=>obtain⟨_,_,_,_,e⟩:=x;exact Zk e
 |tup xs=>obtain⟨_,_,_,p⟩:=x;exact p.lt
 |dK kvs=>obtain⟨_,_,_,_,o,_,_,e,_⟩:=x;exact Zk e
 |dT kvs=>obtain⟨_,_,_,_,o,_,_,e,_⟩:=x;exact Zk e
 |set S n=>obtain⟨o,_,_,_,e,_⟩:=x;exact Zk e
 |ins C dx fs=>obtain⟨_,_,_,e,_⟩:=x;exact Zk e
 |own y=>obtain⟨_,e⟩:=x;exact Zk e
 |xd fs=>obtain⟨_,⟨_,_,_,e,_⟩,_⟩:=x;exact Zk e
 |rng lo hi=>obtain⟨_,_,_,e⟩:=x;exact Zk e
 |frz ob u=>obtain⟨e,_⟩:=x;exact Zk e
 |tbl ps=>exact Zk (show h.get? a=some _ from x)
 |met f y=>exact Zk (show h.get? a=some _ from x)
 |ext φ => obtain⟨_,⟨_,e⟩,_⟩:=x;exact Zk e
def Paired.mapP {α β: Type}{F G:α -> β -> Prop}:∀{l₁:List α} {l₂:List β},Paired F l₁ l₂->(∀a b,F a b->G a b)->Paired G l₁ l₂:=λh f=>by
 induction h with
 |nil=>exact .nil
 |cons r _ ih=>exact .cons (f _ _ r) ih
def zbj.stay (x:zbj P w H h a o)(k:∀b u,(b=a\/H b=some (.own a))->h.get? b=some u->h'.get? b=some u)
 (ho:∀b,H b=some (.own a)->H' b=some (.own a)) (ht:∀b xs,H b=some (.tup xs)->H' b=some (.tup xs)):zbj P w H' h' a o:=by
 induction o with
 |lst xs=>obtain⟨z,its,n,r,e⟩:=x;exact⟨z,its,n,r,k _ _ (.inl rfl) e⟩
 |tup xs=>obtain⟨⟨z,od,ed,dd⟩,its,r,ob,e,c⟩:=x;exact⟨⟨z,od,k _ _ (.inl rfl) ed,dd⟩,its,r,ob,k _ _ (.inl rfl) e,c⟩
 |dK kvs=>obtain⟨z,y,vs,r,ob,es,ep,e,c⟩:=x;exact⟨z,y,vs,r,ob,es,ep,k _ _ (.inl rfl) e,c⟩
 |dT kvs =>
  obtain⟨z,y,xs,r,ob,es,ep,e,c⟩:=x;exact⟨z,y,xs,Paired.mapP r λp q z=>⟨z.1,ht _ _ z.2.1,z.2.2⟩,ob,es,ep,k _ _ (.inl rfl) e,c⟩
 |set S n=>obtain⟨ob,es,ep,t,e,c⟩:=x;exact⟨ob,es,ep,t,k _ _ (.inl rfl) e,c⟩
 |ins C dx fs =>
  obtain⟨d,z,ne,e,mA,⟨od,es,ep,e2,c⟩,r⟩:=x;exact⟨ho _ d,z,ne,k _ _ (.inl rfl) e,mA,⟨od,es,ep,k _ _ (.inr d) e2,c⟩,r⟩
 |own y=>obtain⟨ob,e⟩:=x;exact⟨ob,k _ _ (.inl rfl) e⟩
 |xd fs=>obtain⟨mA,⟨od,es,ep,e,c⟩,r⟩:=x;exact⟨mA,⟨od,es,ep,k _ _ (.inl rfl) e,c⟩,r⟩
 |rng lo hi=>obtain⟨t,u,v,e⟩:=x;exact⟨t,u,v,k _ _ (.inl rfl) e⟩
 |frz ob u ih=>obtain⟨e,q⟩:=x;exact⟨k _ _ (.inl rfl) e,ih q⟩
 |tbl ps =>
  have e:h.get? a=some { cls:=.none,data:=.fields ps }:=x;show h'.get? a=some { cls:=.none,data:=.fields ps };exact k a _ (.inl rfl) e
 |met f y =>
  have e:h.get? a=some (W.methodObj (.ref f) (.ref y)):=x;show h'.get? a=some (W.methodObj (.ref f) (.ref y));exact k a _ (.inl rfl) e
 |ext φ => obtain⟨p,⟨o,e⟩,st⟩:=x;exact⟨st _ _ p λo q=>k _ _ (.inl rfl) q,⟨o,k _ _ (.inl rfl) e⟩,st⟩
theorem HOk.lt (x:HOk P w H h)(e:H a=some o):a<h.objs.size:=(x a o e).lt
def HOk.fresh (x:HOk P w H h)(e:h.objs.size<=a):H a=none:=by
 cases q:H a with
 |none=>rfl
 |some u=>exact Zn (Zg (x.lt q) e) (Zy _)
def HOk.kept (x:HOk P w H h)(k:∀b u,h.get? b=some u->h'.get? b=some u):HOk P w H h':=λa o e =>
 (x a o e).stay (λb u _ q=>k b u q) (λ_ q=>q) λ_ _ q=>q
def HOk.laid (x:HOk P w H h)(k:∀b u,h.get? b=some u->h'.get? b=some u)(hp:h.objs.size<=a)(new:zbj P w (upd H a o) h' a o):HOk P w (upd H a o) h':=λb u e=>by
 have hn:=x.fresh hp;by_cases hb:b=a
 .subst hb;rw[JL] at e;cases e;exact new
 .rw[JC hb] at e;exact(x b u e).stay (λc v _ q=>k c v q) (λc q=>by rw[JC (Kf q hn)];exact q) λc xs q=>by rw[JC (Kf q hn)];exact q
end
def Rd (H:Hp)(a:Addr)(u:HO):Prop:=H a=some u\/∃o,H a=some (.frz o u)
def Rd.ok {P:Program}{w:World}{H:Hp}{h:Heap}{a:Addr}{u:HO}(r:Rd H a u)(x:HOk P w H h):zbj P w H h a u:=by
 rcases r with r|⟨o,r⟩
 .exact x a u r
 .obtain⟨_,q⟩:=x a _ r;exact q
def Mut:Option HO->Prop
 |some (.lst _)=>True
 |some (.dK _)=>True
 |some (.dT _)=>True
 |some (.set _ _)=>True
 |some (.ins _ _ _)=>True
 |some (.ext _)=>True
 |_=>False
section
variable {P:Program}{w:World}{H:Hp}{h h':Heap}{x e:Addr}{o':HO}
def HOk.write (ok:HOk P w H h)(mu:Mut (H x))(he:e=x\/H e=some (.own x))(k:∀b u,b≠e->h.get? b=some u->h'.get? b=some u)(heo:∃u,h'.get? e=some u)
 (new:zbj P w (upd H x o') h' x o'):HOk P w (upd H x o') h':=λb u q=>by
 have nown:∀c y,H c=some (.own y)->c≠x:=λc y r z=>by subst z;rw[r] at mu;exact mu
 have ntup:∀c xs,H c=some (.tup xs)->c≠x:=λc xs r z=>by subst z;rw[r] at mu;exact mu
 by_cases hb:b=x
 .subst hb;rw[JL] at q;cases q;exact new
 .rw[JC hb] at q;by_cases hbe:b=e
  .have q':H b=some (.own x):=by
    rcases he with z|z
    .exact Zn (hbe.trans z) hb
    .rw[hbe];exact z
   rw[q] at q';cases q';obtain⟨v,hv⟩:=heo;exact⟨v,by rw[hbe];exact hv⟩
  .refine(ok b u q).stay (λc v hc r=>k c v ?_ r) (λc r=>by rw[JC (nown c b r)];exact r) λc xs r=>by rw[JC (ntup c xs r)];exact r
   rcases hc with rfl|hc
   .exact hbe
   .rintro rfl;rcases he with z|z
    .exact nown c b hc z
    .rw[hc] at z;cases z;exact hb rfl
end
structure Un (fs ex:Yi)(H H':Hp)(h h':Heap):Prop where
 keep:∀b o,h.get? b=some o->H b=none->b∉fs->b∉ex->h'.get? b=some o
 slot:∀b o,h.get? b=some o->H b=none->b∈fs->b∉ex->∃sl,h'.get? b=some { o with slots:=sl }
 free:∀b o,h.get? b=some o->H b=none->b∉ex->H' b=none
 there:∀b o,h.get? b=some o->b∉ex->∃o',h'.get? b=some o'
 tups:∀b xs,H b=some (.tup xs)->H' b=some (.tup xs)
 frzs:∀b o u,H b=some (.frz o u)->H' b=some (.frz o u)
 tbls:∀b ps,H b=some (.tbl ps)->∃more,H' b=some (.tbl (ps++more))
section
variable {fs fs' ex ex':Yi}{H H1 H2:Hp}{h h1 h2 h':Heap}{a x e:Addr}{o:HO}
def Un.any (u:Un fs ex H H1 h h1){b:Addr}{ob:Obj}(q:h.get? b=some ob)(n:H b=none)(hx:b∉ex):∃sl,h1.get? b=some { ob with slots:=sl }:=by
 by_cases hb:b∈fs
 .exact u.slot b ob q n hb hx
 .exact⟨ob.slots,u.keep b ob q n hb hx⟩
def Un.kept (k:∀b u,h.get? b=some u->h'.get? b=some u):Un fs ex H H h h':=
 ⟨λb ob q _ _ _=>k b ob q,λb ob q _ _ _=>⟨ob.slots,k b ob q⟩,λ_ _ _ n _=>n,λb ob q _=>⟨ob,k b ob q⟩,λ_ _ q=>q,λ_ _ _ q=>q,λ_ ps q=>⟨#[],by rw[q];simp⟩⟩
def Un.refl:Un fs ex H H h h:=Un.kept λ_ _ q=>q
def Un.laid (k:∀b u,h.get? b=some u->h'.get? b=some u)(hp:h.objs.size<=a)(hn:H a=none):Un fs ex H (upd H a o) h h' where
 keep:=λb u q _ _ _=>k b u q
 slot:=λb u q _ _ _=>⟨u.slots,k b u q⟩
 free:=λb u q n _=>by rw[JC (Zi (Zg (Zk q) hp))];exact n
 there:=λb u q _=>⟨u,k b u q⟩
 tups:=λb xs q=>by rw[JC (Kf q hn)];exact q
 frzs:=λb u xs q=>by rw[JC (Kf q hn)];exact q
 tbls:=λb ps q=>⟨#[],by rw[JC (Kf q hn),q];simp⟩
def Un.write (mu:Mut (H x))(he:e=x\/H e=some (.own x))(k:∀b u,b≠e->h.get? b=some u->h'.get? b=some u)(heo:∃u,h'.get? e=some u):Un fs ex H (upd H x o) h h':=by
 have hx:∀b,H b=none->b≠x:=λb n z=>by subst z;rw[n] at mu;exact mu
 have hb:∀b,H b=none->b≠e:=λb n z=>by
  subst z;rcases he with r|r
  .exact hx b n r
  .rw[n] at r;cases r
 have hm:∀b u,H b=some u->¬Mut (some u)->b≠x:=λb u q nm z=>by subst z;rw[q] at mu;exact nm mu
 refine⟨λb u q n _ _=>k b u (hb b n) q,λb u q n _ _=>⟨u.slots,k b u (hb b n) q⟩,λb u q n _=>by rw[JC (hx b n)];exact n,λb u q _=>?_,
  λb xs q=>by rw[JC (hm b _ q λz=>z)];exact q,λb u xs q=>by rw[JC (hm b _ q λz=>z)];exact q,λb ps q=>⟨#[],by rw[JC (hm b _ q λz=>z),q];simp⟩⟩
 by_cases hbe:b=e
 .subst hbe;exact heo
 .exact⟨u,k b u hbe q⟩
end
def trk (h:Heap)(H:Hp):Yi:=(List.range h.objs.size).filter λa=>(H a).isSome
def hidT (h:Heap)(H:Hp):Heap:=W.hideAll h (trk h H)
def IZ (h:Heap)(H:Hp):(hidT h H).objs.size=h.objs.size:=W.hideAll_size _ _
def La {h:Heap}{H:Hp}{b:Addr}{o:Obj}(e:h.get? b=some o)(n:H b=none):(hidT h H).get? b=some o:=
 W.hideAll_get _ e λhm=>by
  have q:(H b).isSome=true:=(Je.mp hm).2;rw[n] at q;simp at q
def Lb {h:Heap}{H:Hp}{b:Addr}{o:Obj}(e:(hidT h H).get? b=some o):h.get? b=some o/\H b=none:=by
 have e':h.get? b=some o:=W.of_hideAll (trk h H) e;refine⟨e',?_⟩;cases q:H b with
 |none=>rfl
 |some x =>
  have hm:b∈trk h H:=Je.mpr ⟨Jd.mpr (Zk e'),by simp[q]⟩;have z:(hidT h H).get? b=none:=W.hideAll_none (trk h H) hm;rw[z] at e;cases e
structure Mod (K:W.Frag)(mg:Yc)(base:Heap):Prop where
 kin:K.In base
 glob:base.Ns mainGlobals mg
 blt:∃mb,base.Ns builtinsNs mb/\∀x:Str,x ≠ "__name__" -> mb x=bootBuiltins x
 nolimit:base.NoLimit
structure Cx where
 prog:Program
 w:World
 K:W.Frag
 mg:Yc
 base:Heap
 A:Around
 N:Yh
 s₀:Shared
 H₀:Hp
 env:Env
 outer:List Env
 stack:List Env
 ex:Yi
 fn:Str->Bool
 calm:Bool
 pn:Yb
 xe:Ya
abbrev _root_.YA(X:Cx){α:Type}(m:Sem α):=wpAny (model X.prog X.w) X.A m
abbrev _root_.YB(P:Program)(w:World)(A:Around){α:Type}(m:Sem α):=wpAny (model P w) A m
abbrev _root_.YC(P:Program)(w:World)(A:Around)(E:Value->Shared->Prop)(s:Shared){α:Type}(m:StateT PyProof.Rows.SortSt Sem α):=PyProof.Rows.wpS (model P w) A E s m
def frs (l:List Env):Yi:=l.filterMap (·.frame)
abbrev Cx.fs (X:Cx):Yi:=frs X.outer
def Vis (sc:Scope)(x:Str):Prop:=sc.names.lookup x=some .local\/sc.names.lookup x=some .cell\/sc.names.lookup x=some .free
def Loc (sc:Scope)(x:Str):Prop:=sc.names.lookup x=some .local\/sc.names.lookup x=some .cell
def Look (env:Env)(h:Heap)(m:Yc)(x:Str)(u:Value):Prop:=
 (env.kindOf x=some .local/\m x=some u)\/((env.kindOf x=some .cell\/env.kindOf x=some .free)/\∃c,env.cells.lookup x=some c/\h.IsCell c (some u))
structure Cx.Ok (X:Cx):Prop where
 mod:Mod X.K X.mg X.base
 kind:X.env.scope.kind=.function
 glob:X.env.globals=mainGlobals
 blt:X.env.builtins=builtinsNs
 above:X.s₀.heap.objs.size<=X.env.locals
 inj:∀x y c,X.env.cells.lookup x=some c->X.env.cells.lookup y=some c->x=y
 has:∀x,(X.env.kindOf x=some .cell\/X.env.kindOf x=some .free)->∃c,X.env.cells.lookup x=some c
 cab:∀x c,X.fn x=true->X.env.cells.lookup x=some c->X.s₀.heap.objs.size<=c
 hd:X.calm=true->X.A.handled=none
 frames:X.A.frames=some X.stack
 stk:X.stack=X.outer\/(X.stack=X.env::X.outer/\X.env.frame=some X.env.locals)
 exf:∀b∈X.ex,b≠X.env.locals/\∀x c,X.env.cells.lookup x=some c->c≠b
 bs:∀b o,X.base.get? b=some o->X.s₀.heap.get? b=some o/\X.H₀ b=none
 bsz:X.base.objs.size<=X.s₀.heap.objs.size
 noex:∀b o,X.base.get? b=some o->b∉X.ex
 exfs:∀b∈X.ex,b∉X.fs
 funs:X.s₀.heap.FunFrames X.base X.outer
 frf:∀b∈X.fs,X.H₀ b=none
structure Inv (X:Cx)(Y:Yb)(Z: List Yx)(H:Hp)(s:Shared):Prop where
 ok:X.Ok
 os:s.os=X.s₀.os
 bare:AllBare s.gens
 base:Un X.fs X.ex X.H₀ H X.s₀.heap s.heap
 loc:∃m,s.heap.Ns X.env.locals m/\∀(i:Nat) (x:Str) (v:V),X.N[i]? = some x -> Z[i]? = some (some v)->Vis X.env.scope x->∃u,RelV v u/\Look X.env s.heap m x u
 cell:∀x c,X.env.cells.lookup x=some c->∃v,s.heap.IsCell c v
 free:H X.env.locals=none
 freeC:∀x c,X.env.cells.lookup x=some c->H c=none
 pin:∀p∈X.pn++Y,s.heap.get? p.1=some p.2/\H p.1=none/\p.1≠X.env.locals/\p.1∉X.fs/\∀v,p.2.data ≠ .cell v
 hok:HOk X.prog X.w H s.heap
 len:Z.length=X.N.length
section
variable {X:Cx}{Y:Yb}{Z: List Yx}{H H':Hp}{s:Shared}{h':Heap}
def Cx.Ok.nofr (ok:X.Ok){b:Addr}{o:Obj}(e:X.base.get? b=some o):b∉X.fs:=λhb=>by
 have:=(ok.funs.mem hb).1;rw[e] at this;cases this
theorem Inv.bs (I:Inv X Y Z H s):∀b o,X.base.get? b=some o->s.heap.get? b=some o/\H b=none:=λb o e =>
 ⟨I.base.keep b o (I.ok.bs b o e).1 (I.ok.bs b o e).2 (I.ok.nofr e) (I.ok.noex b o e),I.base.free b o (I.ok.bs b o e).1 (I.ok.bs b o e).2 (I.ok.noex b o e)⟩
def Inv.bk (I:Inv X Y Z H s):∀b o,X.base.get? b=some o->s.heap.get? b=some o:=λb o e=>(I.bs b o e).1
theorem Inv.mod (I:Inv X Y Z H s):Mod X.K X.mg X.base:=I.ok.mod
def Inv.kIn (I:Inv X Y Z H s):X.K.In s.heap:=I.ok.mod.kin.keeps I.bk
theorem Inv.lt (I:Inv X Y Z H s):X.env.locals<s.heap.objs.size:=let ⟨_,hn,_⟩:=I.loc;hn.lt
def Inv.sz (I:Inv X Y Z H s):X.s₀.heap.objs.size<=s.heap.objs.size:=Zh I.ok.above (Zz I.lt)
def Inv.nofs (I:Inv X Y Z H s){a:Addr}(h:s.heap.objs.size<=a):a∉X.fs:=λhb=>by
 obtain⟨_,o,ho,_⟩:=I.ok.funs.mem hb;exact Zn (Zg (Zk ho) (Zh I.sz h)) (Zy _)
def Inv.cne (I:Inv X Y Z H s):∀x c,X.env.cells.lookup x=some c->c≠X.env.locals:=λx c e z=>by
 obtain⟨v,o,ho,hd⟩:=I.cell x c e;obtain⟨m,⟨o',es,ep,ho',hd',_⟩,_⟩:=I.loc;rw[z,ho'] at ho;cases ho;rw[hd'] at hd;cases hd
theorem Inv.funs (I:Inv X Y Z H s):s.heap.FunFrames X.base X.outer:=by
 have all:∀(l:List Env),(∀b∈frs l,b∈X.fs)->X.s₀.heap.FunFrames X.base l->s.heap.FunFrames X.base l:=by
  intro l
  induction l with
  |nil=>intro _ _;trivial
  |cons env r ih =>
   intro hs hl;obtain⟨hk,⟨L,o,hf,hn,ho,hd⟩,hr⟩:=hl;have hL:L∈X.fs:=hs L (by unfold frs;rw[UO,hf];exact Zqs);obtain⟨sl,e⟩:=I.base.slot L o ho (I.ok.frf L hL) hL λz=>I.ok.exfs L z hL;exact⟨hk,⟨L,_,hf,hn,e,hd⟩,ih (λb hb=>hs b (by unfold frs;rw[UO,hf];exact Zqm _ hb)) hr⟩
 exact all X.outer (λ_ hb=>hb) I.ok.funs
theorem Inv.stack (I:Inv X Y Z H s):s.heap.FunFrames X.base X.stack:=by
 rcases I.ok.stk with e|⟨e,hf⟩
 .rw[e];exact I.funs
 .rw[e];obtain⟨m,hn,_⟩:=I.loc;refine .cons (by rw[I.ok.kind];decide) hf hn ?_ I.funs;exact Heap.get?_none_of_le (Zh I.ok.bsz I.ok.above)
def Inv.stkSub (I:Inv X Y Z H s):∀b∈frs X.stack,b∈X.env.locals::X.fs:=λb hb=>by
 rcases I.ok.stk with e|⟨e,hf⟩
 .rw[e] at hb;exact Zqm _ hb
 .rw[e] at hb;unfold frs at hb;rw[UO,hf] at hb;exact hb
def Inv.stkFree (I:Inv X Y Z H s):∀b∈frs X.stack,H b=none:=λb hb=>by
 rcases UB.mp (I.stkSub b hb) with e|hb
 .rw[e];exact I.free
 .obtain⟨_,o,ho,_⟩:=I.ok.funs.mem hb;exact I.base.free b o ho (I.ok.frf b hb) λz=>I.ok.exfs b z hb
def Inv.step {g':Array GenState}{t':Nat}{d':Drawn}{ch:Yi}(I:Inv X Y Z H s)
 (hch:∀b∈ch,(b∈X.ex\/X.s₀.heap.objs.size<=b)/\b≠X.env.locals/\(∀x c,X.env.cells.lookup x=some c->c≠b)/\∀p∈X.pn++Y,p.1≠b)
 (keep:∀b o,b≠X.env.locals->b∉X.fs->b∉ch->s.heap.get? b=some o->H b=none->h'.get? b=some o)
 (slot:∀b o,b≠X.env.locals->b∈X.fs->b∉ch->s.heap.get? b=some o->H b=none->∃sl,h'.get? b=some { o with slots:=sl }) (free:∀b o,b∉ch->s.heap.get? b=some o->H b=none->H' b=none)
 (there:∀b o,b∉ch->s.heap.get? b=some o->∃o',h'.get? b=some o')
 (tups:∀b xs,H b=some (.tup xs)->H' b=some (.tup xs)) (frzs:∀b o u,H b=some (.frz o u)->H' b=some (.frz o u)) (tbls:∀b ps,H b=some (.tbl ps)->∃more,H' b=some (.tbl (ps++more)))
 (ns:∀m,s.heap.Ns X.env.locals m->h'.Ns X.env.locals m) (hok:HOk X.prog X.w H' h') (hg:AllBare g'):
 Inv X Y Z H' { s with heap:=h',gens:=g',drawn:=d',toks:=t' }:=by
 have neL:∀b o,X.s₀.heap.get? b=some o->b≠X.env.locals:=λb o e=>Zi (Zg (Zk e) I.ok.above);have neC:∀b o,X.s₀.heap.get? b=some o->b∉X.ex->b∉ch:=λb o e hx hb=>by
  rcases(hch b hb).1 with z|z
  .exact hx z
  .exact Zn (Zg (Zk e) z) (Zy _)
 have cellK:∀x c,X.env.cells.lookup x=some c->∀v,s.heap.IsCell c v->h'.IsCell c v:=λx c e v ⟨o,ho,hd⟩=>by
  have nch:c∉ch:=λz=>(hch c z).2.2.1 x c e rfl;by_cases hc:c∈X.fs
  .obtain⟨sl,q⟩:=slot c o (I.cne x c e) hc nch ho (I.freeC x c e);exact⟨_,q,hd⟩
  .exact⟨o,keep c o (I.cne x c e) hc nch ho (I.freeC x c e),hd⟩
 refine⟨I.ok,I.os,hg,⟨λb o e n hb hx=>?_,λb o e n hb hx=>?_,λb o e n hx=>?_,λb o e hx=>?_,λb xs e=>tups b xs (I.base.tups b xs e),λb o xs e=>frzs b o xs (I.base.frzs b o xs e),λb ps e=>?_⟩,?_,λx c e=>?_,?_,λx c e=>?_,λp hp=>?_,hok,I.len⟩
 .exact keep b o (neL b o e) hb (neC b o e hx) (I.base.keep b o e n hb hx) (I.base.free b o e n hx)
 .obtain⟨sl,e1⟩:=I.base.slot b o e n hb hx;obtain⟨sl',e2⟩:=slot b _ (neL b o e) hb (neC b o e hx) e1 (I.base.free b o e n hx);exact⟨sl',e2⟩
 .obtain⟨o',e1⟩:=I.base.there b o e hx;exact free b o' (neC b o e hx) e1 (I.base.free b o e n hx)
 .obtain⟨o',e1⟩:=I.base.there b o e hx;exact there b o' (neC b o e hx) e1
 .obtain⟨m1,e1⟩:=I.base.tbls b ps e;obtain⟨m2,e2⟩:=tbls b _ e1;exact⟨m1++m2,by rw[e2,Array.append_assoc]⟩
 .obtain⟨m,hn,hl⟩:=I.loc;refine⟨m,ns m hn,λi x v e1 e2 e3=>?_⟩;obtain⟨u,r,l⟩:=hl i x v e1 e2 e3;refine⟨u,r,?_⟩;rcases l with l|⟨k,c,e,z⟩
  .exact .inl l
  .exact .inr ⟨k,c,e,cellK x c e _ z⟩
 .obtain⟨v,z⟩:=I.cell x c e;exact⟨v,cellK x c e v z⟩
 .obtain⟨m,⟨o,_,_,ho,_⟩,_⟩:=I.loc;exact free _ o (λz=>(hch _ z).2.1 rfl) ho I.free
 .obtain⟨v,o,ho,hd⟩:=I.cell x c e;exact free c o (λz=>(hch c z).2.2.1 x c e rfl) ho (I.freeC x c e)
 .obtain⟨e,n,ne,nf,d⟩:=I.pin p hp;have nch:p.1∉ch:=λz=>(hch p.1 z).2.2.2 p hp rfl;exact⟨keep p.1 p.2 ne nf nch e n,free p.1 p.2 nch e n,ne,nf,d⟩
def Inv.un {t':Nat}(I:Inv X Y Z H s)(u:Un X.fs [] H H' s.heap h')(hok:HOk X.prog X.w H' h'):Inv X Y Z H' { s with heap:=h',toks:=t' }:=by
 obtain⟨m,⟨o,es,ep,ho,r⟩,_⟩:=id I.loc;obtain⟨sl,hL⟩:=u.any ho I.free (by simp);exact I.step (g':=s.gens) (d':=s.drawn) (ch:=[]) (λ_ z=>nomatch z) (λb o _ hb _ e n=>u.keep b o e n hb (by simp)) (λb o _ hb _ e n=>u.slot b o e n hb (by simp)) (λb o _ e n=>u.free b o e n (by simp)) (λb o _ e=>u.there b o e (by simp)) u.tups u.frzs u.tbls (λm' hm=>by
  obtain⟨o',es',ep',ho',r'⟩:=hm;rw[ho] at ho';cases ho';exact⟨_,es',ep',hL,r'⟩) hok I.bare
def Inv.call {g':Array GenState}{t':Nat}{d':Drawn}{ch:Yi}(I:Inv X Y Z H s)(u:Un (frs X.stack) ch H H' s.heap h')(hok:HOk X.prog X.w H' h')(hg:AllBare g')
 (hch:∀b∈ch,(b∈X.ex\/X.s₀.heap.objs.size<=b)/\b≠X.env.locals/\(∀x c,X.env.cells.lookup x=some c->c≠b)/\∀p∈X.pn++Y,p.1≠b):
 Inv X Y Z H' { s with heap:=h',gens:=g',drawn:=d',toks:=t' }:=by
 obtain⟨m,⟨o,es,ep,ho,r⟩,_⟩:=id I.loc;obtain⟨sl,hL⟩:=u.any ho I.free λz=>(hch _ z).2.1 rfl;exact I.step (ch:=ch) hch (λb o hL hb hc e n=>u.keep b o e n (λz=>(UB.mp (I.stkSub b z)).elim hL hb) hc) (λb o _ _ hc e n=>u.any e n hc) (λb o hc e n=>u.free b o e n hc) (λb o hc e=>u.there b o e hc) u.tups u.frzs u.tbls (λm' hm=>by
  obtain⟨o',es',ep',ho',r'⟩:=hm;rw[ho] at ho';cases ho';exact⟨_,es',ep',hL,r'⟩) hok hg
def Inv.turned {t':Nat}{it:Addr}(I:Inv X Y Z H s)(k:∀b o,b≠it->s.heap.get? b=some o->h'.get? b=some o)(hn:H it=none)(hL:it≠X.env.locals)
 (h1:it∈X.ex\/X.s₀.heap.objs.size<=it) (h2:∀x c,X.env.cells.lookup x=some c->c≠it) (h3:∀p∈X.pn++Y,p.1≠it):Inv X Y Z H { s with heap:=h',toks:=t' }:=by
 have nit:∀b u,H b=some u->b≠it:=λb u e z=>by rw[z,hn] at e;cases e
 refine I.step (g':=s.gens) (d':=s.drawn) (ch:=[it]) (λb hb=>?_) (λb o _ _ hc e _=>k b o (λz=>hc (by simp[z])) e) (λb o _ _ hc e _=>⟨o.slots,k b o (λz=>hc (by simp[z])) e⟩) (λ_ _ _ _ n=>n)
  (λb o hc e=>⟨o,k b o (λz=>hc (by simp[z])) e⟩) (λ_ _ e=>e) (λ_ _ _ e=>e) (λb ps e=>⟨#[],by rw[e];simp⟩) (λm hm=>?_) (λb u e=>?_) I.bare
 .have e:b=it:=by simpa using hb
  subst e;exact⟨h1,hL,h2,h3⟩
 .obtain⟨o,es,ep,ho,r⟩:=hm;exact⟨o,es,ep,k _ o (Ne.symm hL) ho,r⟩
 .refine(I.hok b u e).stay (λc v hc q=>k c v ?_ q) (λ_ q=>q) λ_ _ q=>q;rcases hc with z|z
  .rw[z];exact nit b u e
  .exact nit c _ z
def Inv.tok (I:Inv X Y Z H s)(t:Nat):Inv X Y Z H { s with toks:=t }:=I.un (h':=s.heap) (t':=t) Un.refl I.hok
theorem Inv.kept {t':Nat}(I:Inv X Y Z H s)(k:∀b u,s.heap.get? b=some u->h'.get? b=some u):Inv X Y Z H { s with heap:=h',toks:=t' }:=I.un (Un.kept k) (I.hok.kept k)
theorem Inv.laid {a:Addr}{o:HO}{t':Nat}(I:Inv X Y Z H s)(k:∀b u,s.heap.get? b=some u->h'.get? b=some u)(hp:s.heap.objs.size<=a)(new:zbj X.prog X.w (upd H a o) h' a o):
 Inv X Y Z (upd H a o) { s with heap:=h',toks:=t' }:=I.un (Un.laid k hp (I.hok.fresh hp)) (I.hok.laid k hp new)
theorem Inv.write {x e:Addr}{o:HO}{t':Nat}(I:Inv X Y Z H s)(mu:Mut (H x))(he:e=x\/H e=some (.own x))(k:∀b u,b≠e->s.heap.get? b=some u->h'.get? b=some u)(heo:∃u,h'.get? e=some u)
 (new:zbj X.prog X.w (upd H x o) h' x o):Inv X Y Z (upd H x o) { s with heap:=h',toks:=t' }:=I.un (Un.write mu he k heo) (I.hok.write mu he k heo new)
def Inv.pins_of {Y':Yb}(I:Inv X Y Z H s)(h:∀p∈Y',s.heap.get? p.1=some p.2/\H p.1=none/\p.1≠X.env.locals/\p.1∉X.fs/\∀v,p.2.data ≠ .cell v):Inv X Y' Z H s:=
 ⟨I.ok,I.os,I.bare,I.base,I.loc,I.cell,I.free,I.freeC,λp hp=>(Jc.mp hp).elim (λz=>I.pin p (UP _ z)) (h p),I.hok,I.len⟩
def DR {N:Yh}(hN:N.Nodup){i j:Nat}{x:Str}(a:N[i]? = some x)(b:N[j]? = some x):i=j:=by
 obtain⟨h1,e1⟩:=Jb.mp a;obtain⟨h2,e2⟩:=Jb.mp b;exact(List.getElem_inj hN).mp (e1.trans e2.symm)
def Lc {M:Model}{A:Around}{E:Ya}{i:Nat}{x:Str}{v:V}{u:Value}{Q:Unit->Yu}(I:Inv X Y Z H s)(hN:X.N.Nodup)(hi:X.N[i]? = some x)(hx:Loc X.env.scope x)(r:RelV v u)
 (h:∀s',Inv X Y (Z.set i (some v)) H s'->(∃a,Heap.SameBut a s.heap s'.heap/\(a=X.env.locals\/X.env.cells.lookup x=some a))->Q Yp s') (hf:X.fn x=true\/X.env.scope.names.lookup x=some .local:=by trivial):wpAny M A (storeName X.env x u) Q E s:=by
 obtain⟨m,hn,hl⟩:=id I.loc;have hcls:(X.env.scope.kind == .class||(X.env.scope.kind == .module&&X.env.locals != X.env.globals))=false:=by rw[I.ok.kind];rfl
 have hiσ: i < Z.length:=by rw[I.len];exact(Jb.mp hi).1
 have cne:=I.cne;have tracked:∀{a:Addr} {h':Heap},(∃o,s.heap.get? a=some o/\H a=none)->Heap.SameBut a s.heap h'->HOk X.prog X.w H h':=λ{a h'} ha hs b ob e=>by
  obtain⟨_,_,hfree⟩:=ha;refine(I.hok b ob e).stay (λc w' hc q=>(hs.2 c ?_).trans q) (λ_ q=>q) λ_ _ q=>q;rintro rfl;rcases hc with rfl|hc
  .rw[hfree] at e;cases e
  .rw[hfree] at hc;cases hc
 rcases hx with hk|hk
 .refine wpAny_storeName_local hk hn (λh' hn' hs=>?_) hcls;obtain⟨oL,_,_,hoL,_⟩:=id hn;refine h _ ⟨I.ok,I.os,I.bare,⟨λb o e n hb hx=>?_,λb o e n hb hx=>?_,I.base.free,λb o e hx=>?_,I.base.tups,I.base.frzs,I.base.tbls⟩,⟨_,hn',λj y v' e1 e2 e3=>?_⟩,λy c e=>?_,I.free,I.freeC,λp hp=>?_,tracked ⟨oL,hoL,I.free⟩ hs,by simpa using I.len⟩ ⟨_,hs,.inl rfl⟩
  .exact(hs.2 b (Zi (Zg (Zk e) I.ok.above))).trans (I.base.keep b o e n hb hx)
  .obtain⟨sl,e1⟩:=I.base.slot b o e n hb hx;exact⟨sl,(hs.2 b (Zi (Zg (Zk e) I.ok.above))).trans e1⟩
  .obtain⟨o',e1⟩:=I.base.there b o e hx;exact⟨o',(hs.2 b (Zi (Zg (Zk e) I.ok.above))).trans e1⟩
  .by_cases hj:j=i
   .subst hj;rw[hi] at e1;cases e1;rw[U0 hiσ] at e2;cases e2;exact⟨u,r,.inl ⟨hk,by simp⟩⟩
   .rw[Zx (Ne.symm hj)] at e2;obtain⟨u',r',q⟩:=hl j y v' e1 e2 e3;refine⟨u',r',?_⟩;rcases q with ⟨k,e⟩|⟨k,c,e,z⟩
    .refine .inl ⟨k,?_⟩;have:y≠x:=λe=>hj (DR hN e1 (e ▸ hi));simp[this,e]
    .exact .inr ⟨k,c,e,z.sameBut hs (cne y c e)⟩
  .obtain⟨w',z⟩:=I.cell y c e;exact⟨w',z.sameBut hs (cne y c e)⟩
  .obtain⟨e,n,ne,nf,d⟩:=I.pin p hp;exact⟨(hs.2 p.1 ne).trans e,n,ne,nf,d⟩
 .have hfn:X.fn x=true:=by
   rcases hf with z|z
   .exact z
   .rw[z] at hk;cases hk
  obtain⟨c,hc⟩:=I.ok.has x (.inl hk);obtain⟨w',z⟩:=I.cell x c hc;refine wpAny_storeName_cell I.ok.kind hk hc z (λh' hc' hs=>?_);obtain⟨oc,hoc,hocd⟩:=id z;refine h { s with heap:=h' } ⟨I.ok,I.os,I.bare,⟨λb o e n hb hx=>?_,λb o e n hb hx=>?_,I.base.free,λb o e hx=>?_,I.base.tups,I.base.frzs,I.base.tbls⟩,⟨m,hn.sameBut hs (Ne.symm (cne x c hc)),λj y v' e1 e2 e3=>?_⟩,λy c' e=>?_,I.free,I.freeC,λp hp=>?_,tracked ⟨oc,hoc,I.freeC x c hc⟩ hs,by simpa using I.len⟩ ⟨c,hs,.inr hc⟩
  .exact(hs.2 b (Zi (Zg (Zk e) (I.ok.cab x c hfn hc)))).trans (I.base.keep b o e n hb hx)
  .obtain⟨sl,e1⟩:=I.base.slot b o e n hb hx;exact⟨sl,(hs.2 b (Zi (Zg (Zk e) (I.ok.cab x c hfn hc)))).trans e1⟩
  .obtain⟨o',e1⟩:=I.base.there b o e hx;exact⟨o',(hs.2 b (Zi (Zg (Zk e) (I.ok.cab x c hfn hc)))).trans e1⟩
  .by_cases hj:j=i
   .subst hj;rw[hi] at e1;cases e1;rw[U0 hiσ] at e2;cases e2;exact⟨u,r,.inr ⟨.inl hk,c,hc,hc'⟩⟩
   .rw[Zx (Ne.symm hj)] at e2;obtain⟨u',r',q⟩:=hl j y v' e1 e2 e3;refine⟨u',r',?_⟩;rcases q with q|⟨k,c',e,z'⟩
    .exact .inl q
    .refine .inr ⟨k,c',e,z'.sameBut hs ?_⟩;rintro rfl;exact hj (DR hN e1 (I.ok.inj _ _ _ e hc ▸ hi))
  .by_cases hcc:c'=c
   .subst hcc;exact⟨_,hc'⟩
   .obtain⟨w2,z2⟩:=I.cell y c' e;exact⟨w2,z2.sameBut hs hcc⟩
  .obtain⟨e,n,ne,nf,d⟩:=I.pin p hp;refine⟨(hs.2 p.1 ?_).trans e,n,ne,nf,d⟩;intro q;rw[q,hoc] at e;have q':oc=p.2:=Zqi e;exact d w' (by rw[<- q'];exact hocd)
def ZK {M:Model}{A:Around}{E:Ya}{i:Nat}{x:Str}{v:V}{u:Value}{Q:Unit->Yu}(I:Inv X Y Z H s)(hN:X.N.Nodup)(hi:X.N[i]? = some x)(hx:Loc X.env.scope x)(r:RelV v u)
 (h:∀s',Inv X Y (Z.set i (some v)) H s'->Q Yp s') (hf:X.fn x=true\/X.env.scope.names.lookup x=some .local:=by trivial):wpAny M A (storeName X.env x u) Q E s:=
 Lc I hN hi hx r (λs' I' _=>h s' I') hf
def Inv.call' {s':Shared}{ch:Yi}(I:Inv X Y Z H s)(ho:s'.os=s.os)(u:Un (frs X.stack) ch H H' s.heap s'.heap)(hok:HOk X.prog X.w H' s'.heap)(hg:AllBare s'.gens)
 (hch:∀b∈ch,(b∈X.ex\/X.s₀.heap.objs.size<=b)/\b≠X.env.locals/\(∀x c,X.env.cells.lookup x=some c->c≠b)/\∀p∈X.pn++Y,p.1≠b):Inv X Y Z H' s':=by
 obtain⟨h',g',d',t',o'⟩:=s';have e:o'=s.os:=ho;subst e;exact I.call (g':=g') (t':=t') (d':=d') u hok hg hch
end
abbrev XK:=Value->Option Addr->Hp->Prop
abbrev St:=List Yx
abbrev VK:=V->Hp->Prop
abbrev TE:=St->Hp->VK->Prop
abbrev TT:=St->Hp->(Bool->Hp->Prop)->Prop
abbrev TA:=St->Hp->(Yw->Hp->Prop)->Prop
structure Ends where
 nx:St->Hp->Prop
 rt:VK
 bk:St->Hp->Prop:=λ_ _=>False
 ct:St->Hp->Prop:=λ_ _=>False
abbrev TS:=Ends->St->Hp->Prop
def EP (X:Cx)(Y:Yb)(Z: St)(Q:VK)(u:Value)(s':Shared):Prop:=∃v H',Inv X Y Z H' s'/\RelV v u/\Q v H'
def TP (X:Cx)(Y:Yb)(Z: St)(Q:Bool->Hp->Prop)(b:Bool)(s':Shared):Prop:=∃H',Inv X Y Z H' s'/\Q b H'
def AP (X:Cx)(Y:Yb)(Z: St)(Q:Yw->Hp->Prop)(us:Yd)(s':Shared):Prop:=∃vs H',Inv X Y Z H' s'/\Vals vs us/\Q vs H'
def SP (X:Cx)(Y:Yb)(D:Ends)(f:Flow)(s':Shared):Prop:=
 match f with
 | .next=>∃Z' H',Inv X Y Z' H' s'/\D.nx Z' H'
 | .brk=>∃Z' H',Inv X Y Z' H' s'/\D.bk Z' H'
 | .cont=>∃Z' H',Inv X Y Z' H' s'/\D.ct Z' H'
 | .ret u=>∃v Z' H',Inv X Y Z' H' s'/\RelV v u/\D.rt v H'
def PE (X:Cx)(e:Expr)(t:TE):Prop:=
 ∀(Y:Yb) (s:Shared) (Z: St) (H:Hp) (Q:VK),Inv X Y Z H s->t Z H Q->YA X (eval e X.env) (EP X Y Z Q) X.xe s
def PT (X:Cx)(e:Expr)(t:TT):Prop:=
 ∀(Y:Yb) (s:Shared) (Z: St) (H:Hp) (Q:Bool->Hp->Prop),Inv X Y Z H s->t Z H Q->YA X (isTrue e X.env (eval e X.env)) (TP X Y Z Q) X.xe s
def PW (X:Cx)(e:Expr)(t:TT):Prop:=
 ∀(whole:Sem Value) (Y:Yb) (s:Shared) (Z: St) (H:Hp) (Q:Bool->Hp->Prop),Inv X Y Z H s->t Z H Q->YA X (isTrue e X.env whole) (TP X Y Z Q) X.xe s
def PW.pt {X:Cx}{e:Expr}{t:TT}(h:PW X e t):PT X e t:=h _
def PA (X:Cx)(es:Yj)(t:TA):Prop:=
 ∀(pos:Pos) (Y:Yb) (s:Shared) (Z: St) (H:Hp) (Q:Yw->Hp->Prop),Inv X Y Z H s->t Z H Q->YA X (spliced (backTo pos (starEach es X.env))) (AP X Y Z Q) X.xe s
def PS (X:Cx)(st:Stmt)(t:TS):Prop:=
 ∀(Y:Yb) (s:Shared) (Z: St) (H:Hp) (D:Ends),Inv X Y Z H s->t D Z H->YA X (exec st X.env) (SP X Y D) X.xe s
def PSs (X:Cx)(st:List Stmt)(t:TS):Prop:=
 ∀(Y:Yb) (s:Shared) (Z: St) (H:Hp) (D:Ends),Inv X Y Z H s->t D Z H->YA X (execs st X.env) (SP X Y D) X.xe s
def thn {α: Type}{t:Sem α}{Q Q': α -> Yu}{M:Model}{A:Around}{E:Ya}{s:Shared}(h:wpAny M A t Q E s)(hQ:∀a s,Q a s->Q' a s):wpAny M A t Q' E s:=Zc h hQ λ_ _ x=>x
section
variable {X:Cx}
def tVar (i:Nat):TE:=λZ H Q=>∃v,Z[i]? = some (some v)/\Q v H
def tC (v:V):TE:=λ_ H Q=>Q v H
def Ld {i:Nat}{x:Str}{pos:Pos}(hN:X.N[i]? = some x)(hv:Vis X.env.scope x)(hd:(x == ("__debug__" : Str))=false:=by decide)(hcd:(x == ("__classdict__" : Str))=false:=by decide):PE X (.Name x pos) (tVar i):=by
 intro Y s Z H Q I h;obtain⟨v,e,h⟩:=h;obtain⟨m,hn,hl⟩:=I.loc;obtain⟨u,r,l⟩:=hl i x v hN e hv;have fin:EP X Y Z Q u s:=⟨v,H,I,r,h⟩;rcases l with ⟨hk,hm⟩|⟨hk,c,hc,hcell⟩
 .exact wpAny_Name (wpAny_loadName_local I.ok.kind hk hn hm fin) hd
 .rcases hk with hk|hk
  .exact wpAny_Name (wpAny_loadName_cell I.ok.kind hk hc hcell fin) hd
  .exact wpAny_Name (wpAny_loadName_free I.ok.kind hk hc hcell fin hcd) hd
def Le {i j pos}:PE X (.Constant (.int i) j pos) (tC (.int i)):=λ_ _ _ H _ I h=>wpAny_Constant_int ⟨.int i,H,I.tok _,⟨_,rfl⟩,h⟩
def pe_bl {b j pos}:PE X (.Constant (.bool b) j pos) (tC (.bl b)):=λ_ _ _ H _ I h=>Constant_bool ⟨.bl b,H,I,rfl,h⟩
def Lf {j pos}:PE X (.Constant .none j pos) (tC .non):=λ_ _ _ H _ I h=>Constant_none ⟨.non,H,I,rfl,h⟩
def DS {x j pos}:PE X (.Constant (.str x) j pos) (tC (.str x)):=λ_ _ _ H _ I h=>Calls.Constant_str ⟨.str x,H,I.tok _,⟨_,rfl⟩,h⟩
def Gl (X:Cx)(x:Str):Prop:=X.env.kindOf x=some .globalImplicit
def Bz {E:Ya}{Y:Yb}{s:Shared}{Z: St}{H:Hp}{x:Str}{u:Value}{pos:Pos}{Q:Ya}(I:Inv X Y Z H s)(hg:Gl X x)(hm:X.mg x=some u)(h:Q u s)
 (hd:(x == ("__debug__" : Str))=false:=by decide):YA X (eval (.Name x pos) X.env) Q E s:=
 Calls.Name_function_global I.ok.kind hg (Calls.loadGlobal_global (by rw[I.ok.glob];exact I.mod.glob.keeps I.bk) hm h) hd
def WT {E:Ya}{Y:Yb}{s:Shared}{Z: St}{H:Hp}{x:Str}{u:Value}{pos:Pos}{Q:Ya}(I:Inv X Y Z H s)(hg:Gl X x)(hm:X.mg x=none)(hv:bootBuiltins x=some u)(h:Q u s)
 (hn:x ≠ "__name__" := by decide) (hd:(x == ("__debug__" : Str))=false:=by decide):YA X (eval (.Name x pos) X.env) Q E s:=by
 obtain⟨mb,h1,h2⟩:=I.mod.blt;exact Calls.Name_function_global I.ok.kind hg (Calls.loadGlobal_builtin (by rw[I.ok.glob];exact I.mod.glob.keeps I.bk) hm (by rw[I.ok.blt];exact h1.keeps I.bk) ((h2 x hn).trans hv) h) hd
def DT {x:Str}{v:V}{u:Value}{pos:Pos}(hg:Gl X x)(hm:X.mg x=some u)(r:RelV v u)(hd:(x == ("__debug__" : Str))=false:=by decide):PE X (.Name x pos) (tC v):=
 λ_ _ _ H _ I h=>Bz I hg hm ⟨v,H,I,r,h⟩ hd
variable {a b:Expr}{ta tb:TE}{pos:Pos}
def PC (X:Cx)(op:CmpOp)(a b:Expr)(t:TE):Prop:=
 ∀(Y:Yb) (s:Shared) (Z: St) (H:Hp) (Q:VK),Inv X Y Z H s->t Z H Q ->
  YA X (eval a X.env) (λv s₁=>YA X (eval b X.env) (λu s₂=>YA X (compareOp op v u) (EP X Y Z Q) X.xe s₂) X.xe s₁) X.xe s
def DU (b:Expr){op:CmpOp}(h:op ≠ .In)(h2:op ≠ .NotIn):behindInMarks op b=false:=by
 have e1:(op == CmpOp.In)=false:=by cases op<;>first|rfl|exact Zn rfl h
 have e2:(op == CmpOp.NotIn)=false:=by cases op<;>first|rfl|exact Zn rfl h2
 cases b<;>first|rfl|(show(_&&(_||_)&&_)=false;rw[e1,e2,Bool.or_self,Vw,Vx])
def tIsN (ta:TE):TE:=λZ H Q=>ta Z H λx H1=>Q (.bl (decide (x=.non))) H1
def DV (ta:TE):TE:=λZ H Q=>ta Z H λx H1=>Q (.bl (!decide (x=.non))) H1
def RelV.none_iff {x:V}{v:Value}(r:RelV x v):(v == Value.none)=decide (x=.non):=by
 cases x with
 |non=>cases r;rfl
 |bl _=>cases r;rfl
 |int _=>obtain⟨t,rfl⟩:=r;rfl
 |str _=>obtain⟨t,rfl⟩:=r;rfl
 |byt _=>obtain⟨t,rfl⟩:=r;rfl
 |flt _=>obtain⟨t,rfl⟩:=r;rfl
 |ref _=>cases r;rfl
 |ty _=>cases r;rfl
def Lg {j pos'}(ha:PE X a ta):PC X .Is a (.Constant .none j pos') (tIsN ta):=by
 intro Y s Z H Q I h;refine thn (ha Y s Z H _ I h) λv s1 ⟨x,H1,I1,r1,q1⟩=>?_;exact Constant_none (is_none_gen ⟨.bl _,H1,I1,by rw[r1.none_iff];rfl,q1⟩)
def Lh {j pos'}(ha:PE X a ta):PC X .IsNot a (.Constant .none j pos') (DV ta):=by
 intro Y s Z H Q I h;refine thn (ha Y s Z H _ I h) λv s1 ⟨x,H1,I1,r1,q1⟩=>?_;exact Constant_none (isnot_none_gen ⟨.bl _,H1,I1,by rw[r1.none_iff];rfl,q1⟩)
def tB (t:TE):TT:=λZ H Q=>t Z H λx H1=>∃c,x=.bl c/\Q c H1
def Li {op:CmpOp}{t:TE}(h:PC X op a b t)(h1:behindInMarks op b=false:=by first|exact DU _ (by decide) (by decide)|rfl):PE X (.Compare a [op] [b] pos) t:=λY s Z H Q I hw=>wpAny_Compare1 (h Y s Z H Q I hw) h1
def ZL {op:CmpOp}{t:TE}(h:PC X op a b t)(h1:behindInMarks op b=false:=by first|exact DU _ (by decide) (by decide)|rfl):PT X (.Compare a [op] [b] pos) (tB t):=by
 intro Y s Z H Q I hw;refine wpAny_isTrue_Compare1 (thn (h Y s Z H _ I hw) λv s1 h1=>thn h1 λu s2 h2=>thn h2 λc s3 ⟨x,H1,I1,r1,q1⟩=>?_) h1;obtain⟨d,rfl,q⟩:=q1;cases r1;exact wpAny_truthy_bool ⟨H1,I1,q⟩
def Lj {e:Expr}{t:TE}(h:PE X e t)(he:∀whole,isTrue e X.env whole=(do let v <- whole;standAt e.pos;holding [v] (truthy v)):=by intro _;rfl):PT X e (tB t):=by
 intro Y s Z H Q I hw;refine isTrue_plain (thn (h Y s Z H _ I hw) λv s1 ⟨x,H1,I1,r1,q1⟩=>?_) (he _);obtain⟨d,rfl,q⟩:=q1;cases r1;exact wpAny_truthy_bool ⟨H1,I1,q⟩
variable {tA tB':TT}{rest:Yj}
def tAnd (t u:TT):TT:=λZ H Q=>t Z H λc H1=>if c=true then u Z H1 Q else Q false H1
def tOr (t u:TT):TT:=λZ H Q=>t Z H λc H1=>if c=true then Q true H1 else u Z H1 Q
def tNot (t:TT):TT:=λZ H Q=>t Z H λc H1=>Q (!c) H1
def Ll (ha:PT X a tA):PW X (.BoolOp .And [a] pos) tA:=by
 intro wh Y s Z H Q I h;refine isTrue_and (thn (ha Y s Z H Q I h) λc s1 e=>?_);cases c with
 |true=>exact isTrue_and_nil e
 |false=>exact e
def Ln (ha:PT X a tA):PW X (.BoolOp .Or [a] pos) tA:=by
 intro wh Y s Z H Q I h;refine isTrue_or (thn (ha Y s Z H Q I h) λc s1 e=>?_);cases c with
 |false=>exact isTrue_or_nil e
 |true=>exact e
def Lo (ha:PT X a tA)(hb:PW X (.BoolOp .And (b::rest) pos) tB'):PW X (.BoolOp .And (a::b::rest) pos) (tAnd tA tB'):=by
 intro wh Y s Z H Q I h;refine isTrue_and (thn (ha Y s Z H _ I h) λc s1 ⟨H1,I1,q1⟩=>?_);cases c with
 |true=>exact hb wh Y s1 Z H1 Q I1 q1
 |false=>exact⟨H1,I1,q1⟩
def pw_or (ha:PT X a tA)(hb:PW X (.BoolOp .Or (b::rest) pos) tB'):PW X (.BoolOp .Or (a::b::rest) pos) (tOr tA tB'):=by
 intro wh Y s Z H Q I h;refine isTrue_or (thn (ha Y s Z H _ I h) λc s1 ⟨H1,I1,q1⟩=>?_);cases c with
 |true=>exact⟨H1,I1,q1⟩
 |false=>exact hb wh Y s1 Z H1 Q I1 q1
def Lp (ha:PT X a tA):PT X (.UnaryOp .Not a pos) (tNot tA):=by
 intro Y s Z H Q I h;exact isTrue_not (ha Y s Z H (λc H1=>Q (!c) H1) I h)
def tAndV (ta tb:TE):TE:=λZ H Q=>ta Z H λx H1=>∃c,x=.bl c/\if c=true then tb Z H1 Q else Q (.bl false) H1
def tOrV (ta tb:TE):TE:=λZ H Q=>ta Z H λx H1=>∃c,x=.bl c/\if c=true then Q (.bl true) H1 else tb Z H1 Q
def Lq {op}{t:TE}(h:PE X a t):PE X (.BoolOp op [a] pos) t:=λY s Z H Q I hw=>BoolOp_one (h Y s Z H Q I hw)
def Lr (ha:PE X a ta)(hb:PE X (.BoolOp .And (b::rest) pos) tb):PE X (.BoolOp .And (a::b::rest) pos) (tAndV ta tb):=by
 intro Y s Z H Q I h;refine BoolOp_and (thn (ha Y s Z H _ I h) λv s1 ⟨x,H1,I1,r1,q1⟩=>?_);obtain⟨c,rfl,q1⟩:=q1;cases r1;refine wpAny_truthy_bool ?_;cases c with
 |true=>exact hb Y s1 Z H1 Q I1 q1
 |false=>exact⟨.bl false,H1,I1,rfl,q1⟩
def pe_or (ha:PE X a ta)(hb:PE X (.BoolOp .Or (b::rest) pos) tb):PE X (.BoolOp .Or (a::b::rest) pos) (tOrV ta tb):=by
 intro Y s Z H Q I h;refine BoolOp_or (thn (ha Y s Z H _ I h) λv s1 ⟨x,H1,I1,r1,q1⟩=>?_);obtain⟨c,rfl,q1⟩:=q1;cases r1;refine wpAny_truthy_bool ?_;cases c with
 |false=>exact hb Y s1 Z H1 Q I1 q1
 |true=>exact⟨.bl true,H1,I1,rfl,q1⟩
end
def SqL (K:W.Frag)(H:Hp)(a:Addr)(xs:Yw):Prop:=
 Rd H a (.lst xs) \/
  ∃(o:Obj) (its:Yk) (n:Nat),K.lookup a=some o/\o.cls=.type "list" /\ o.dict=none/\o.data=.seq its n/\its.size<=sizeLine/\Vals xs its.toList
def SqT (K:W.Frag)(H:Hp)(a:Addr)(xs:Yw):Prop:=
 Rd H a (.tup xs) \/
  ∃(o:Obj) (its:Yk) (n:Nat),K.lookup a=some o/\o.cls=.type "tuple" /\ o.data=.seq its n/\its.size<=sizeLine/\Vals xs its.toList
def absV:Value->Yx
 | .none=>some .non
 | .bool b=>some (.bl b)
 | .int i _=>some (.int i)
 | .str x _=>some (.str x)
 | .bytes b _=>some (.byt b)
 | .float b _=>some (.flt b)
 | .ref a=>some (.ref a)
 | .type n=>some (.ty n)
 |_=>none
def RelV.abs {x:V}{u:Value}(r:RelV x u):absV u=some x:=by
 cases x with
 |non=>cases r;rfl
 |bl _=>cases r;rfl
 |int _=>obtain⟨t,rfl⟩:=r;rfl
 |str _=>obtain⟨t,rfl⟩:=r;rfl
 |byt _=>obtain⟨t,rfl⟩:=r;rfl
 |flt _=>obtain⟨t,rfl⟩:=r;rfl
 |ref _=>cases r;rfl
 |ty _=>cases r;rfl
def RelV.inj {x y:V}{u:Value}(r:RelV x u)(q:RelV y u):x=y:=Zqi (r.abs.symm.trans q.abs)
theorem Vals.inj:∀{xs ys:Yw} {us:Yd},Vals xs us->Vals ys us->xs=ys:=λ{xs ys us} g h=>by
 induction g generalizing ys with
 |nil=>cases h;rfl
 |cons r _ ih =>
  cases h with
  |cons r' t'=>rw[r.inj r',ih t']
section
variable {X:Cx}{Y:Yb}{Z: St}{H:Hp}{s:Shared}{a:Addr}{xs ys:Yw}
def SqL.of {K:W.Frag}(h:H a=some (.lst xs)):SqL K H a xs:=.inl (.inl h)
def SqT.of {K:W.Frag}(h:H a=some (.tup xs)):SqT K H a xs:=.inl (.inl h)
def Inv.list (I:Inv X Y Z H s)(h:SqL X.K H a xs):∃its:Yd,Vals xs its/\PlainL s.heap a its.toArray/\xs.length<=sizeLine:=by
 rcases h with h|⟨o,its,n,hk,hc,hd,hs,hz,r⟩
 .obtain⟨z,its,n,r,e⟩:=h.ok I.hok;exact⟨its,r,⟨_,n,e,rfl,rfl,rfl⟩,z⟩
 .refine⟨its.toList,r,⟨o,n,I.kIn a o hk,hc,hd,by simpa using hs⟩,?_⟩;have e:=r.length;simp only[Ui] at e;omega
def Inv.tuple (I:Inv X Y Z H s)(h:SqT X.K H a xs):∃its:Yd,Vals xs its/\IsTup s.heap a its.toArray/\xs.length<=sizeLine:=by
 rcases h with h|⟨o,its,n,hk,hc,hs,hz,r⟩
 .obtain⟨z,its,r,p⟩:=h.ok I.hok;exact⟨its,r,p,z.1⟩
 .refine⟨its.toList,r,⟨o,I.kIn a o hk,hc,n,by simpa using hs⟩,?_⟩;have e:=r.length;simp only[Ui] at e;omega
def Inv.list_inj (I:Inv X Y Z H s)(h:SqL X.K H a xs)(h':SqL X.K H a ys):xs=ys:=by
 obtain⟨its,r,⟨o,n,e,_,_,d⟩,_⟩:=I.list h;obtain⟨its',r',⟨o',n',e',_,_,d'⟩,_⟩:=I.list h';rw[e] at e';cases e';rw[d] at d';injection d' with d1 _
 have:its=its':=by simpa using Zt Array.toList d1
 subst this;exact r.inj r'
def Inv.tuple_inj (I:Inv X Y Z H s)(h:SqT X.K H a xs)(h':SqT X.K H a ys):xs=ys:=by
 obtain⟨its,r,⟨o,e,_,n,d⟩,_⟩:=I.tuple h;obtain⟨its',r',⟨o',e',_,n',d'⟩,_⟩:=I.tuple h';rw[e] at e';cases e';rw[d] at d';injection d' with d1 _
 have:its=its':=by simpa using Zt Array.toList d1
 subst this;exact r.inj r'
end
abbrev Cx.wish (X:Cx)(E:Ya):Cx:={ X with xe:=E }
abbrev Cx.nox (X:Cx):Cx:=X.wish λ_ _=>False
theorem Cx.Ok.wish {X:Cx}(ok:X.Ok)(E:Ya):(X.wish E).Ok:=
 ⟨ok.mod,ok.kind,ok.glob,ok.blt,ok.above,ok.inj,ok.has,ok.cab,ok.hd,ok.frames,ok.stk,ok.exf,ok.bs,ok.bsz,ok.noex,ok.exfs,ok.funs,ok.frf⟩
def Cx.Ok.unwish {X:Cx}{E:Ya}(ok:(X.wish E).Ok):X.Ok:=
 ⟨ok.mod,ok.kind,ok.glob,ok.blt,ok.above,ok.inj,ok.has,ok.cab,ok.hd,ok.frames,ok.stk,ok.exf,ok.bs,ok.bsz,ok.noex,ok.exfs,ok.funs,ok.frf⟩
section
variable {X:Cx}{Y:Yb}{Z: St}{H:Hp}{s:Shared}{E:Ya}
theorem Inv.wish (I:Inv X Y Z H s)(E:Ya):Inv (X.wish E) Y Z H s:=⟨I.ok.wish E,I.os,I.bare,I.base,I.loc,I.cell,I.free,I.freeC,I.pin,I.hok,I.len⟩
theorem Inv.unwish (I:Inv (X.wish E) Y Z H s):Inv X Y Z H s:=⟨I.ok.unwish,I.os,I.bare,I.base,I.loc,I.cell,I.free,I.freeC,I.pin,I.hok,I.len⟩
theorem SP.unwish {D:Ends}{f:Flow}{s':Shared}(h:SP (X.wish E) Y D f s'):SP X Y D f s':=by
 cases f with
 |next=>obtain⟨Z',H',I,q⟩:=h;exact⟨Z',H',I.unwish,q⟩
 |brk=>obtain⟨Z',H',I,q⟩:=h;exact⟨Z',H',I.unwish,q⟩
 |cont=>obtain⟨Z',H',I,q⟩:=h;exact⟨Z',H',I.unwish,q⟩
 |ret u=>obtain⟨v,Z',H',I,r,q⟩:=h;exact⟨v,Z',H',I.unwish,r,q⟩
theorem PSs.nox {st:List Stmt}{t:TS}(h:PSs X.nox st t):PSs X st t:=λY s Z H D I hw =>
 Zc (h Y s Z H D (I.wish _) hw) (λ_ _ q=>q.unwish) λ_ _ z=>False.elim z
end
section
variable {X:Cx}{st:Stmt}{rest:List Stmt}{t u:TS}{e:Expr}{te:TE}{pos:Pos}
def tNext:TS:=λD Z H=>D.nx Z H
def tSeq (t u:TS):TS:=λD Z H=>t { D with nx:=u D } Z H
def DW:PSs X [] tNext:=λ_ _ Z H _ I h=>wpAny_execs_nil ⟨Z,H,I,h⟩
def DX (h1:PS X st t)(h2:PSs X rest u):PSs X (st::rest) (tSeq t u):=by
 intro Y s Z H D I h;refine wpAny_execs_cons (thn (h1 Y s Z H { D with nx:=u D } I h) λf s1 q=>?_);cases f with
 |next =>
  obtain⟨Z',H',I',q⟩:=q;exact h2 Y s1 Z' H' D I' q
 |ret v=>exact q
 |brk=>exact q
 |cont=>exact q
def Ls (h1:PS X st t):PSs X [st] t:=by
 intro Y s Z H D I h;refine wpAny_execs_cons (thn (h1 Y s Z H D I h) λf s1 q=>?_);cases f with
 |next=>exact wpAny_execs_nil q
 |ret v=>exact q
 |brk=>exact q
 |cont=>exact q
def Lu:TS:=λD Z H=>D.bk Z H
def Lv:PS X (.Break pos) Lu:=λ_ _ Z H _ I h=>wpAny_Break ⟨Z,H,I,h⟩
def Inv.quiet {Y:Yb}{Z: St}{H:Hp}{s:Shared}(I:Inv X Y Z H s):interactive X.env=false:=by simp[interactive,I.ok.kind]
def tDrop (te:TE):TS:=λD Z H=>te Z H λ_ H1=>D.nx Z H1
def B0 (he:PE X e te)(hs:swapsWith e none pos.line X.env=pure false:=by rfl):PS X (.Expr e pos) (tDrop te):=by
 intro Y s Z H D I h;exact wpAny_Expr_any (thn (he Y s Z H _ I h) λv s1 ⟨x,H1,I1,r1,q1⟩=>⟨Z,H1,I1,q1⟩) I.quiet hs
def tRet (te:TE):TS:=λD Z H=>te Z H D.rt
def B1 (he:PE X e te):PS X (.Return (some e) pos) (tRet te):=by
 intro Y s Z H D I h;exact wpAny_Return_some (thn (he Y s Z H _ I h) λv s1 ⟨x,H1,I1,r1,q1⟩=>⟨x,Z,H1,I1,r1,q1⟩)
def tIfS (c:TT)(t u:TS):TS:=λD Z H=>c Z H λb H1=>if b=true then t D Z H1 else u D Z H1
def ps_if {c:Expr}{a b:List Stmt}{tc:TT}(hc:PT X c tc)(ha:PSs X a t)(hb:PSs X b u):PS X (.If c a b pos) (tIfS tc t u):=by
 intro Y s Z H D I h;refine wpAny_If (thn (hc Y s Z H _ I h) λd s1 ⟨H1,I1,q1⟩=>?_);cases d with
 |true=>exact ha Y s1 Z H1 D I1 q1
 |false=>exact hb Y s1 Z H1 D I1 q1
end
abbrev TG:=V->St->Hp->(St->Hp->Prop)->Prop
abbrev TGs:=Yw->St->Hp->(St->Hp->Prop)->Prop
def PG (X:Cx)(target:Expr)(t:TG):Prop:=
 ∀(Y:Yb) (s:Shared) (Z: St) (H:Hp) (v:V) (u:Value) (Q:St->Hp->Prop),Inv X Y Z H s->RelV v u->t v Z H Q ->
  YA X (assign target X.env u) (λ_ s'=>∃Z' H',Inv X Y Z' H' s'/\Q Z' H') X.xe s
def PGs (X:Cx)(ts:Yj)(t:TGs):Prop:=
 ∀(Y:Yb) (s:Shared) (Z: St) (H:Hp) (vs:Yw) (us:Yd) (Q:St->Hp->Prop),Inv X Y Z H s->Vals vs us->t vs Z H Q ->
  YA X (assignInOrder ((assignEach ts X.env).map (·.2)) us) (λ_ s'=>∃Z' H',Inv X Y Z' H' s'/\Q Z' H') X.xe s
abbrev TSet:=V->V->V->Hp->(Hp->Prop)->Prop
def PSet (X:Cx)(t:TSet):Prop:=
 ∀(Y:Yb) (s:Shared) (Z: St) (H:Hp) (o i v:V) (ov iv u:Value) (Q:Hp->Prop),Inv X Y Z H s->RelV o ov->RelV i iv->RelV v u->t o i v H Q ->
  YA X (setItem ov iv u) (λ_ s'=>∃H',Inv X Y Z H' s'/\Q H') X.xe s
abbrev TIp:=V->V->Hp->VK->Prop
def PIp (X:Cx)(op:Operator)(t:TIp):Prop:=
 ∀(Y:Yb) (s:Shared) (Z: St) (H:Hp) (x y:V) (v u:Value) (Q:VK),Inv X Y Z H s->RelV x v->RelV y u->t x y H Q ->
  YA X (inplaceOp op v u) (EP X Y Z Q) X.xe s
section
variable {X:Cx}{pos:Pos}
def KM (i:Nat):TG:=λv Z H Q=>Q (Z.set i (some v)) H
def JM {i:Nat}{x:Str}(hN:X.N.Nodup)(hi:X.N[i]? = some x)(hx:Loc X.env.scope x)(hf:X.fn x=true\/X.env.scope.names.lookup x=some .local:=by trivial):PG X (.Name x pos) (KM i):=by
 intro Y s Z H v u Q I r h;exact wpAny_assign_Name (ZK I hN hi hx r (λs' I'=>⟨_,H,I',h⟩) hf)
def gNil:TGs:=λvs Z H Q=>vs=[]/\Q Z H
def DY (t:TG)(u:TGs):TGs:=λvs Z H Q=>∃v r,vs=v::r/\t v Z H λZ' H'=>u r Z' H' Q
def QV:PGs X [] gNil:=by
 intro Y s Z H vs us Q I r h;obtain⟨e,h⟩:=h;subst e;cases r;exact assignInOrder_nil ⟨Z,H,I,h⟩
def JW {e:Expr}{es:Yj}{t:TG}{u:TGs}(h1:PG X e t)(h2:PGs X es u)
 (hs:(assignEach (e::es) X.env).map (·.2)=assign e X.env::(assignEach es X.env).map (·.2):=by rfl):PGs X (e::es) (DY t u):=by
 intro Y s Z H vs us Q I r h;obtain⟨v,vr,e1,h⟩:=h;subst e1;cases r with
 |cons r rr =>
  rw[hs];refine assignInOrder_cons (thn (h1 Y s Z H _ _ _ I r h) λ_ s1 ⟨Z1,H1,I1,q1⟩=>?_);exact h2 Y s1 Z1 H1 _ _ Q I1 rr q1
def gTup (K:W.Frag)(n:Nat)(t:TGs):TG:=λv Z H Q=>∃a xs,v=.ref a/\SqT K H a xs/\xs.length=n/\t xs Z H Q
def QX {es:Yj}{k:Nat}{t:TGs}{n:Nat}(hc:X.calm=true)(h:PGs X es t)
 (hn:(assignEach es X.env).length=n:=by rfl) (hst:(assignEach es X.env).findIdx? (·.1)=none:=by rfl):PG X (.Tuple es k pos) (gTup X.K n t):=by
 intro Y s Z H v u Q I r hw;obtain⟨a,xs,e1,hq,hl,hw⟩:=hw;subst e1;cases r;obtain⟨its,rv,ht,hz⟩:=I.tuple hq;refine assign_Tuple_tuple (I.ok.hd hc) ht (by simp[hn,<- hl,rv.length]) hst λh' hx=>?_;have I1:Inv X Y Z H { s with heap:=h' }:=I.kept (t':=s.toks) λb o e=>hx b o (Zi (Zk e)) e;exact h Y _ Z H xs _ Q I1 (by simpa using rv) hw
def gSub (to ti:TE)(t:TSet):TG:=λv Z H Q=>to Z H λo H1=>ti Z H1 λi H2=>t o i v H2 λH3=>Q Z H3
def Lw {o i:Expr}{to ti:TE}{t:TSet}(ho:PE X o to)(hi:PE X i ti)(hs:PSet X t)
 (ha:∀v,assign (.Subscript o i pos) X.env v=(do
  let ov <- holding [v] (eval o X.env)
  let iv <- holding [v,ov] (eval i X.env)
  standAt pos
  holding [v,ov,iv] (setItem ov iv v)
  release [v,ov,iv] []):=by intro _;rfl):PG X (.Subscript o i pos) (gSub to ti t):=by
 intro Y s Z H v u Q I r h;rw[ha];refine Za (wpAny_holding (thn (ho Y s Z H _ I h) λov s1 ⟨x,H1,I1,r1,q1⟩=>?_));refine Za (wpAny_holding (thn (hi Y s1 Z H1 _ I1 q1) λiv s2 ⟨y,H2,I2,r2,q2⟩=>?_));refine Za (wpAny_standAt (Za (wpAny_holding (thn (hs Y s2 Z H2 x y v ov iv u _ I2 r1 r2 r q2) λ_ s3 ⟨H3,I3,q3⟩=>?_))));exact wpAny_release ⟨Z,H3,I3,q3⟩
def tAsg (te:TE)(g:TG):TS:=λD Z H=>te Z H λx H1=>g x Z H1 D.nx
def Ly {tg e:Expr}{te:TE}{g:TG}(he:PE X e te)(hg:PG X tg g)(hs:swapsWithSole [tg] e pos.line X.env=pure false:=by rfl)(hw:swappedStores [tg] e X.env=pure none:=by rfl)
 (h1:(assignEach [tg] X.env).map (·.2)=[assign tg X.env]:=by rfl):PS X (.Assign [tg] e pos) (tAsg te g):=by
 intro Y s Z H D I h;refine wpAny_Assign_stores (thn (he Y s Z H _ I h) λv s1 ⟨x,H1,I1,r1,q1⟩=>?_) hs hw;rw[h1];exact thn (hg Y s1 Z H1 x v _ I1 r1 q1) λ_ s2 q=>q
def DZ {i:Nat}{x:Str}{e:Expr}{te:TE}{pos':Pos}(hN:X.N.Nodup)(hi:X.N[i]? = some x)(hx:Loc X.env.scope x)(he:PE X e te)(hs:swapsWith e (some (.Name x pos')) pos.line X.env=pure false:=by rfl)(hf:X.fn x=true\/X.env.scope.names.lookup x=some .local:=by trivial):
 PS X (.Assign [.Name x pos'] e pos) (tAsg te (KM i)):=by
 intro Y s Z H D I h;refine wpAny_Assign_Name (thn (he Y s Z H _ I h) λv s1 ⟨y,H1,I1,r1,q1⟩=>?_) hs;exact ZK I1 hN hi hx r1 (λs2 I2=>⟨_,H1,I2,q1⟩) hf
def tAug (i:Nat)(te:TE)(ti:TIp):TS:=λD Z H=>∃x,Z[i]? = some (some x)/\te Z H λy H1=>ti x y H1 λz H2=>D.nx (Z.set i (some z)) H2
def Lz {i:Nat}{x:Str}{e:Expr}{te:TE}{op:Operator}{ti:TIp}{pos':Pos}(hN:X.N.Nodup)(hi:X.N[i]? = some x)(hx:Loc X.env.scope x)(he:PE X e te)(ho:PIp X op ti)(hf:X.fn x=true\/X.env.scope.names.lookup x=some .local:=by trivial):
 PS X (.AugAssign (.Name x pos') op e pos) (tAug i te ti):=by
 intro Y s Z H D I h;obtain⟨v,e1,h⟩:=h;obtain⟨m,hn,hl⟩:=I.loc;have vis:Vis X.env.scope x:=by rcases hx with k|k;exact .inl k;exact .inr (.inl k)
 obtain⟨u,r,l⟩:=hl i x v hi e1 vis;refine wpAny_AugAssign_Name ?_;have go:YA X (eval e X.env) (λw s₂=>YA X (inplaceOp op u w) (λr s₃=>YA X (storeName X.env x r) (λ_=>SP X Y D .next) X.xe s₃) X.xe s₂) X.xe s:=by
  refine thn (he Y s Z H _ I h) λw s1 ⟨y,H1,I1,r1,q1⟩=>?_;refine thn (ho Y s1 Z H1 v y u w _ I1 r r1 q1) λz s2 ⟨zv,H2,I2,r2,q2⟩=>?_;exact ZK I2 hN hi hx r2 (λs3 I3=>⟨_,H2,I3,q2⟩) hf
 rcases l with ⟨hk,hm⟩|⟨hk,c,hc,hcell⟩
 .exact wpAny_loadName_local I.ok.kind hk hn hm go
 .rcases hk with hk|hk
  .exact wpAny_loadName_cell I.ok.kind hk hc hcell go
  .rcases hx with k|k
   .have:X.env.scope.names.lookup x=some .free:=hk;rw[k] at this;cases this
   .have:X.env.scope.names.lookup x=some .free:=hk;rw[k] at this;cases this
def ipI (f:Int->Int->Int):TIp:=λx y H Q=>∃i j,x=.int i/\y=.int j/\Q (.int (f i j)) H
def L1:PIp X .Add (ipI λi j=>i+j):=by
 intro Y s Z H x y v u Q I r1 r2 h;obtain⟨i,j,e1,e2,q⟩:=h;subst e1;subst e2;obtain⟨t,rfl⟩:=r1;obtain⟨t',rfl⟩:=r2;exact iadd_int ⟨.int _,H,I.tok _,⟨_,rfl⟩,q⟩
end
structure It where
 go:Nat->Hp->Prop
 yld:Nat->Hp->V->Hp->Prop
 stop:Nat->Hp->Prop
def FpOk (X:Cx)(Y:Yb)(H:Hp)(b:Addr):Prop:=
 H b=none/\b≠X.env.locals/\b∉X.fs/\(b∈X.ex\/X.s₀.heap.objs.size<=b)/\(∀x c,X.env.cells.lookup x=some c->c≠b)/\∀p∈X.pn++Y,p.1≠b
def Inv.fpOk {X:Cx}{Y:Yb}{Z: St}{H H':Hp}{s:Shared}{b:Addr}(I:Inv X Y Z H s)(hb:s.heap.objs.size<=b)(hn:H' b=none):FpOk X Y H' b:=by
 refine⟨hn,U1 (Zg I.lt hb),I.nofs hb,.inr (Zh I.sz hb),λx c e z=>?_,λp hp z=>?_⟩
 .obtain⟨v,q⟩:=I.cell x c e;exact Zn (Zg q.lt (by rw[z];exact hb)) (Zy _)
 .exact Zn (Zg (Zk (I.pin p hp).1) (by rw[z];exact hb)) (Zy _)
structure Turn (P:Program)(w:World)(K:W.Frag)(tg:Expr)(J:It)(fp:Yi)(it:Addr)(tn:Nat->Heap->Prop):Prop where
 mem:it∈fp
 obj:∀i h,tn i h->∀b∈fp,∃o,h.get? b=some o/\∀v,o.data ≠ .cell v
 keep:∀i h h',tn i h->(∀b∈fp,∀o,h.get? b=some o->h'.get? b=some o)->tn i h'
 item:∀(X:Cx),X.prog=P->X.w=w->X.K=K->X.calm=true->∀(i:Nat) (Y:Yb) (s:Shared) (Z: St) (H:Hp) (E:Ya),Inv X Y Z H s->(∀b∈fp,FpOk X Y H b)->tn i s.heap->J.go i H ->
  wpAny (model P w) X.A (pyNext (.ref it)) (λr s1=>∃u,r=some u /\
   wpAny (model P w) X.A (letOwnedTupleGo tg (.ref it) u) (λ_ s2=>∃x H',Inv X Y Z H' s2/\RelV x u/\J.yld i H x H'/\tn (i+1) s2.heap/\∀b∈fp,H' b=none) E s1) E s
 done:∀(X:Cx),X.prog=P->X.w=w->X.K=K->X.calm=true->∀(i:Nat) (Y:Yb) (s:Shared) (Z: St) (H:Hp) (E:Ya),Inv X Y Z H s->(∀b∈fp,FpOk X Y H b)->tn i s.heap->J.stop i H ->
  wpAny (model P w) X.A (pyNext (.ref it)) (λr s1=>r=none/\Inv X Y Z H s1) E s
 self:∀(A:Around) (i:Nat) (s:Shared) (Q:Ya) (E:Ya),tn i s.heap->Q (.ref it) s->wpAny (model P w) A (pyIter (.ref it)) Q E s
abbrev TI:=St->Hp->(It->Hp->Prop)->Prop
def PIE (X:Cx)(Y:Yb)(Z: St)(tg:Expr)(R:It->Hp->Prop)(itv:Value)(s2:Shared):Prop:=
 ∃(it:Addr) (fp:Yi) (tn:Nat->Heap->Prop) (J:It) (H':Hp),itv=.ref it/\Inv X Y Z H' s2/\Turn X.prog X.w X.K tg J fp it tn/\tn 0 s2.heap/\(∀b∈fp,FpOk X Y H' b)/\R J H'
def PI (X:Cx)(tg iter:Expr)(wi:TI):Prop:=
 ∀(Y:Yb) (s:Shared) (Z: St) (H:Hp) (R:It->Hp->Prop),Inv X Y Z H s->wi Z H R ->
  YA X (eval iter X.env) (λv s1=>YA X (pyIter v) (PIE X Y Z tg R) X.xe s1) X.xe s
def ZM {M:Model}{A:Around}{E:Ya}{s:Shared}{tg:Expr}{it:Addr}{u:Value}{o:Obj}{n:String}{vs:Yk}{Q:Unit->Yu}(ho:s.heap.get? it=some o)(hc:o.cls=.type n)(hd:o.data=.fields vs)
 (hn: ["enumerate", "zip", "dict_itemiterator", "dict_reverseitemiterator", "odict_iterator", "itertools.zip_longest", "itertools.pairwise"].contains n=false) (hQ:Q Yp s):wpAny M A (letOwnedTupleGo tg (.ref it) u) Q E s:=by
 unfold letOwnedTupleGo;cases tg<;>first
  |exact Zb hQ
  | (cases u<;>first
   |exact Zb hQ
   | (
    refine Za (wpAny_load ho ?_);rw[hc,hd];show wpAny M A (if(["enumerate", "zip", "dict_itemiterator", "dict_reverseitemiterator", "odict_iterator", "itertools.zip_longest", "itertools.pairwise"].contains n&&vs[0]? == some (rawInt _))=true then _ else _) Q E s;rw[Ze (by intro h;rw[hn,Vx] at h;cases h)];exact Zb hQ))
def Itl (K:W.Frag)(a:Addr):It:=
 ⟨λi H=>∃xs x,SqL K H a xs/\xs[i]? = some x,λi H x H'=>H'=H/\∀xs,SqL K H a xs->xs[i]? = some x,λi H=>∃xs,SqL K H a xs/\xs.length<=i⟩
def Itt (K:W.Frag)(a:Addr):It:=
 ⟨λi H=>∃xs x,SqT K H a xs/\xs[i]? = some x,λi H x H'=>H'=H/\∀xs,SqT K H a xs->xs[i]? = some x,λi H=>∃xs,SqT K H a xs/\xs.length<=i⟩
def Itr (lo:Int)(n:Nat):It:=⟨λi _=>i<n,λi H x H'=>H'=H/\x=.int (lo+i),λi _=>n<=i⟩
def L4 {P:Program}{w:World}{K:W.Frag}{tg:Expr}(a it:Addr):Turn P w K tg (Itl K a) [it] it (λi h=>h.IsListIter it a i) where
 mem:=by simp
 obj:=λi h st b hb=>by
  have e:b=it:=by simpa using hb
  subst e;obtain⟨o,e,c,d⟩:=st;exact⟨o,e,λv z=>by rw[d] at z;cases z⟩
 keep:=λi h h' st k=>st.at λo e=>k it (by simp) o e
 item:=by
  intro X hP hw hK hc i Y s Z H E I hf st hg;subst hP hw hK;obtain⟨xs,x,hq,hx⟩:=hg;obtain⟨its,rv,p,hz⟩:=I.list hq;obtain⟨u,hu,ru⟩:=rv.get hx;obtain⟨f0,f1,f2,f3,f4,f5⟩:=hf it (by simp);refine wpAny_pyNext_list_item st p.isList (x:=u) (by simpa using hu) λh' st' sb=>?_;have I1:Inv X Y Z H { s with heap:=h' }:=I.turned (t':=s.toks) (λb o hb e=>(sb.2 b hb).trans e) f0 f1 f3 f4 f5;obtain⟨o,e,c,d⟩:=id st';exact⟨u,rfl,ZM (s:={ s with heap:=h' }) e c d (by decide) ⟨x,H,I1,ru,⟨rfl,λys hy=>by rw[I.list_inj hy hq];exact hx⟩,st',λb hb=>(hf b hb).1⟩⟩
 done:=by
  intro X hP hw hK hc i Y s Z H E I hf st hg;subst hP hw hK;obtain⟨xs,hq,hx⟩:=hg;obtain⟨its,rv,p,hz⟩:=I.list hq;obtain⟨f0,f1,f2,f3,f4,f5⟩:=hf it (by simp);have hl:=rv.length;exact wpAny_pyNext_list_end (I.ok.hd hc) st p.isList (by simp;omega) λh' eb=>⟨rfl,I.turned (t':=s.toks) (λb o hb e=>eb b o hb e) f0 f1 f3 f4 f5⟩
 self:=λ_ _ _ _ _ st h=>wpAny_pyIter_listiter st h
def L5 {P:Program}{w:World}{K:W.Frag}{tg:Expr}(a it:Addr):Turn P w K tg (Itt K a) [it] it (λi h=>h.IsTupleIter it a i) where
 mem:=by simp
 obj:=λi h st b hb=>by
  have e:b=it:=by simpa using hb
  subst e;obtain⟨o,e,c,d⟩:=st;exact⟨o,e,λv z=>by rw[d] at z;cases z⟩
 keep:=λi h h' st k=>st.at λo e=>k it (by simp) o e
 item:=by
  intro X hP hw hK hc i Y s Z H E I hf st hg;subst hP hw hK;obtain⟨xs,x,hq,hx⟩:=hg;obtain⟨its,rv,p,hz⟩:=I.tuple hq;obtain⟨u,hu,ru⟩:=rv.get hx;obtain⟨f0,f1,f2,f3,f4,f5⟩:=hf it (by simp);refine wpAny_pyNext_tuple_item st (show s.heap.IsTuple a its.toArray from p) (x:=u) (by simpa using hu) λh' st' sb=>?_;have I1:Inv X Y Z H { s with heap:=h' }:=I.turned (t':=s.toks) (λb o hb e=>(sb.2 b hb).trans e) f0 f1 f3 f4 f5;obtain⟨o,e,c,d⟩:=id st';exact⟨u,rfl,ZM (s:={ s with heap:=h' }) e c d (by decide) ⟨x,H,I1,ru,⟨rfl,λys hy=>by rw[I.tuple_inj hy hq];exact hx⟩,st',λb hb=>(hf b hb).1⟩⟩
 done:=by
  intro X hP hw hK hc i Y s Z H E I hf st hg;subst hP hw hK;obtain⟨xs,hq,hx⟩:=hg;obtain⟨its,rv,p,hz⟩:=I.tuple hq;obtain⟨f0,f1,f2,f3,f4,f5⟩:=hf it (by simp);have hl:=rv.length;exact wpAny_pyNext_tuple_end (I.ok.hd hc) st (show s.heap.IsTuple a its.toArray from p) (by simp;omega) λh' eb=>⟨rfl,I.turned (t':=s.toks) (λb o hb e=>eb b o hb e) f0 f1 f3 f4 f5⟩
 self:=λ_ _ _ _ _ st h=>wpAny_pyIter_tupleiter st h
def L6 {P:Program}{w:World}{K:PySem.W.Frag}{tg:Expr}(it:Addr)(lo:Int)(n:Nat):Turn P w K tg (Itr lo n) [it] it (λi h=>IsRangeIter h it (lo+(i:Nat)*1) ((n:Int)-(i:Nat)) 1) where
 mem:=by simp
 obj:=λi h st b hb=>by
  have e:b=it:=by simpa using hb
  subst e;exact⟨_,st,λv z=>by
   have z':Data.fields _=Data.cell v:=z;cases z'⟩
 keep:=λi h h' st k=>k it (by simp) _ st
 item:=by
  intro X hP hw hK hc i Y s Z H E I hf st hg;subst hP hw hK;obtain⟨f0,f1,f2,f3,f4,f5⟩:=hf it (by simp);have W:=Walks.range (prog:=X.prog) (w:=X.w) (I.ok.hd hc) it lo 1 n;refine W.item i s _ _ hg st λv h' tk hv st' kk=>?_;obtain⟨t,rfl⟩:=hv;have I1:Inv X Y Z H { s with heap:=h',toks:=tk }:=I.turned (λb o hb e=>kk b o (by simpa using hb) e) f0 f1 f3 f4 f5;refine⟨_,rfl,ZM (s:={ s with heap:=h',toks:=tk }) (n:= "range_iterator") st' rfl rfl (by decide) ⟨.int (lo+i),H,I1,⟨t,?_⟩,⟨rfl,rfl⟩,st',λb hb=>(hf b hb).1⟩⟩;rw[Int.mul_one]
 done:=by
  intro X hP hw hK hc i Y s Z H E I hf st hg;subst hP hw hK;obtain⟨f0,f1,f2,f3,f4,f5⟩:=hf it (by simp);exact wpAny_pyNext_range_end (I.ok.hd hc) st (by have:n<=i:=hg;omega) λh' eb=>⟨rfl,I.turned (t':=s.toks) (λb o hb e=>eb b o hb e) f0 f1 f3 f4 f5⟩
 self:=λ_ _ _ _ _ st h=>wpAny_pyIter_rangeiter st h
section
variable {X:Cx}{tg:Expr}
def iList (K:W.Frag)(tl:TE):TI:=λZ H R=>tl Z H λx H1=>∃a,x=.ref a/\(∃xs,SqL K H1 a xs)/\R (Itl K a) H1
def iTup (K:W.Frag)(tl:TE):TI:=λZ H R=>tl Z H λx H1=>∃a,x=.ref a/\(∃xs,SqT K H1 a xs)/\R (Itt K a) H1
def L7 {l:Expr}{tl:TE}(hl:PE X l tl):PI X tg l (iList X.K tl):=by
 intro Y s Z H R I h;refine thn (hl Y s Z H _ I h) λv s1 ⟨x,H1,I1,r1,q1⟩=>?_;obtain⟨a,e,⟨xs,hq⟩,q⟩:=q1;subst e;cases r1;obtain⟨its,rv,p,hz⟩:=I1.list hq;refine wpAny_pyIter_list p.isList ?_;refine⟨s1.heap.objs.size,[s1.heap.objs.size],_,_,H1,rfl,I1.kept (t':=s1.toks) λb o e=>Zq _ e,L4 a _,⟨_,Zr _ rfl,rfl,rfl⟩,λb hb=>?_,q⟩;have e:b=s1.heap.objs.size:=by simpa using hb
 subst e;exact I1.fpOk (Zf _) (I1.hok.fresh (Zf _))
def L8 {l:Expr}{tl:TE}(hl:PE X l tl):PI X tg l (iTup X.K tl):=by
 intro Y s Z H R I h;refine thn (hl Y s Z H _ I h) λv s1 ⟨x,H1,I1,r1,q1⟩=>?_;obtain⟨a,e,⟨xs,hq⟩,q⟩:=q1;subst e;cases r1;obtain⟨its,rv,p,hz⟩:=I1.tuple hq;refine wpAny_pyIter_tuple (show s1.heap.IsTuple a its.toArray from p) ?_;refine⟨s1.heap.objs.size,[s1.heap.objs.size],_,_,H1,rfl,I1.kept (t':=s1.toks) λb o e=>Zq _ e,L5 a _,⟨_,Zr _ rfl,rfl,rfl⟩,λb hb=>?_,q⟩;have e:b=s1.heap.objs.size:=by simpa using hb
 subst e;exact I1.fpOk (Zf _) (I1.hok.fresh (Zf _))
def L9 {Y:Yb}{Z: St}{H:Hp}{s:Shared}{R:It->Hp->Prop}{E:Ya}{lo hi:Int}{t u v:Tok}{tk:Nat}(I:Inv X Y Z H s)(h1: -(2 ^ 62)<=lo)(h2:lo<2 ^ 62)(h3: -(2 ^ 62)<=hi)(h4:hi<2 ^ 62)
 (q:R (Itr lo (hi-lo).toNat) H):YA X (pyIter (.ref s.heap.objs.size)) (PIE X Y Z tg R) E { s with heap:=s.heap.push { cls:=.type "range",data:=.fields #[.int lo t,.int hi u,.int 1 v] },toks:=tk }:=by
 refine wpAny_pyIter_range (IsRange.new ..) (small_one h1 h2 h3 h4) ?_;have I1:Inv X Y Z H { s with heap:=s.heap.push { cls:=.type "range",data:=.fields #[.int lo t,.int hi u,.int 1 v] },toks:=tk }:=I.kept λb o e=>Zq _ e;refine⟨(s.heap.push { cls:=.type "range",data:=.fields #[.int lo t,.int hi u,.int 1 v] }).objs.size,[(s.heap.push { cls:=.type "range",data:=.fields #[.int lo t,.int hi u,.int 1 v] }).objs.size],_,_,H,rfl,
  I1.kept (t':=tk) λb o e=>Zq _ e,L6 _ lo (hi-lo).toNat,?_,λb hb=>?_,q⟩
 .have e1:lo+((0:Nat):Int)*1=lo:=by simp
  have e2:(((hi-lo).toNat:Nat):Int)-((0:Nat):Int)=Builtin.Range.rangeSize lo hi 1:=by rw[rangeSize_one];split<;>omega
  show IsRangeIter _ _ (lo+((0:Nat):Int)*1) ((((hi-lo).toNat:Nat):Int)-((0:Nat):Int)) 1;rw[e1,e2];exact Zr _ rfl
 .have e:b=(s.heap.push { cls:=.type "range",data:=.fields #[.int lo t,.int hi u,.int 1 v] }).objs.size:=by simpa using hb
  subst e;exact I1.fpOk (Zf _) (I1.hok.fresh (Zf _))
def iRng1 (ta:TA):TI:=λZ H R=>ta Z H λvs H1=>∃j:Int,vs=[.int j] /\ -(2 ^ 62)<=j/\j<2 ^ 62/\R (Itr 0 j.toNat) H1
def LA {a:Expr}{ta:TA}{p pos:Pos}(hg:Gl X "range")(hm:X.mg "range" = none)(ha:PA X [a] ta)(hs:starEach [a] X.env=[(false,eval a X.env)]:=by rfl):PI X tg (.Call (.Name "range" p) [a] [] pos) (iRng1 ta):=by
 intro Y s Z H R I h;refine Call_ (WT I hg hm boot_range (PyProof.Rows.callWith_type1 (thn (ha pos Y s Z H _ I h) λus s1 ⟨vs,H1,I1,r1,q1⟩=>?_) hs rfl));obtain⟨j,e,q1,q2,q⟩:=q1;subst e;cases r1 with
 |cons r rr =>
  cases rr;obtain⟨t,rfl⟩:=r;exact call_range_1 (L9 I1 () () q1 q2 (by simpa using q))
def tFor (wi:TI)(g:TG)(tb:TS):TS:=λD Z H=>wi Z H λJ H1=>∃W:Nat->Nat->St->Hp->Prop,(∃m,W 0 m Z H1)/\∀i m Z H,W i m Z H ->
 (J.stop i H/\D.nx Z H)\/(J.go i H/\∃N:St->Hp->Prop,(∀Z' H',N Z' H'->∃m',m'<m/\W (i+1) m' Z' H')/\∀x H',J.yld i H x H'->g x Z H' λZ2 H2=>tb { D with nx:=N,ct:=N,bk:=D.nx } Z2 H2)
def X6 (fp:Yi)(h:Heap):Yb:=fp.filterMap λb=>(h.get? b).map λo=>(b,o)
def ZN {fp:Yi}{h:Heap}{b:Addr}{o:Obj}(hb:b∈fp)(e:h.get? b=some o):(b,o)∈X6 fp h:=Jq.mpr ⟨b,hb,by rw[e];rfl⟩
def LC {fp:Yi}{h:Heap}{p:Addr×Obj}(hp:p∈X6 fp h):p.1∈fp/\h.get? p.1=some p.2:=by
 obtain⟨b,hb,e⟩:=Jq.mp hp;cases q:h.get? b with
 |none=>rw[q] at e;cases e
 |some o =>
  rw[q] at e;have e':(b,o)=p:=Zqi e;subst e';exact⟨hb,q⟩
def Inv.pinned {Y:Yb}{Z: St}{H:Hp}{s:Shared}{fp:Yi}(I:Inv X Y Z H s)(hf:∀b∈fp,FpOk X Y H b)(ho:∀b∈fp,∃o,s.heap.get? b=some o/\∀v,o.data ≠ .cell v):Inv X (Y++X6 fp s.heap) Z H s:=
 I.pins_of λp hp=>(Jc.mp hp).elim (λz=>I.pin p (Ul _ z)) λz=>by
  obtain⟨hb,e⟩:=LC z;obtain⟨f0,f1,f2,_⟩:=hf p.1 hb;obtain⟨o,e',d⟩:=ho p.1 hb;rw[e] at e';cases e';exact⟨e,f0,f1,f2,d⟩
def Inv.unpinned {Y pl:Yb}{Z: St}{H:Hp}{s:Shared}(I:Inv X (Y++pl) Z H s):Inv X Y Z H s:=I.pins_of λp hp=>I.pin p (Ul _ (UP _ hp))
def LD {iter:Expr}{body:List Stmt}{wi:TI}{g:TG}{tb:TS}{pos:Pos}(hp:PassesOwn (model X.prog X.w) X.A X.env X.xe)(hc:X.calm=true)(hi:PI X tg iter wi)(hg:PG X tg g)(hb:PSs X body tb)
 (hs:∀x,foldedSetIterable iter X.env x=pure x:=by intro _;rfl):PS X (.For tg iter body [] pos) (tFor wi g tb):=by
 intro Y s Z H D I h;refine wpAny_For (thn (hi Y s Z H _ I h) λv s1 h1=>thn h1 λitv s2 h2=>?_) hs;obtain⟨it,fp,tn,J,H2,e,I2,T,st2,f2,W,⟨m0,w0⟩,turn⟩:=h2;subst e;have stat:∀{H':Hp},(∀b∈fp,H' b=none)->∀b∈fp,FpOk X Y H' b:=λhn b hb=>⟨hn b hb,(f2 b hb).2⟩;refine codeAny_forLoop_any (λn s'=>∃i Z' H',Inv X Y Z' H' s'/\tn i s'.heap/\(∀b∈fp,H' b=none)/\W i n Z' H') ?_ m0 ⟨0,Z,H2,I2,st2,λb hb=>(f2 b hb).1,w0⟩;rintro n s3 ⟨i,Z3,H3,I3,st3,fr3,w3⟩;rcases turn i n Z3 H3 w3 with ⟨stop,qn⟩|⟨go,N,hN,step⟩
 .refine wpAny_passesOwn hp (thn (T.done X rfl rfl rfl hc i Y s3 Z3 H3 X.xe I3 (stat fr3) st3 stop) λr s4 ⟨hr,I4⟩=>?_);subst hr;exact wpAny_execs_nil ⟨Z3,H3,I4,qn⟩
 .refine wpAny_passesOwn hp (thn (T.item X rfl rfl rfl hc i Y s3 Z3 H3 X.xe I3 (stat fr3) st3 go) λr s4 ⟨u,hr,h4⟩=>?_);subst hr;refine wpAny_passesOwn hp (thn h4 λ_ s5 ⟨x,H5,I5,r5,y5,st5,fr5⟩=>?_);have I5':=I5.pinned (stat fr5) (T.obj _ _ st5);refine wpAny_passesOwn hp (thn (hg _ s5 Z3 H5 x u _ I5' r5 (step x H5 y5)) λ_ s6 ⟨Z6,H6,I6,q6⟩=>?_);refine wpAny_passesOwn hp (thn (hb _ s6 Z6 H6 _ I6 q6) λf s7 q7=>?_);have again:∀{Z7:St} {H7:Hp},Inv X (Y++X6 fp s5.heap) Z7 H7 s7->N Z7 H7->∃m,m<n/\∃i Z' H',Inv X Y Z' H' s7/\tn i s7.heap/\(∀b∈fp,H' b=none)/\W i m Z' H':=λ{Z7 H7} I7 n7=>by
   obtain⟨m',hm,w7⟩:=hN Z7 H7 n7;refine⟨m',hm,i+1,Z7,H7,I7.unpinned,T.keep _ _ _ st5 λb hb o e=>(I7.pin (b,o) (Ul _ (Ul _ (ZN hb e)))).1,λb hb=>?_,w7⟩;obtain⟨o,e,d⟩:=T.obj _ _ st5 b hb;exact(I7.pin (b,o) (Ul _ (Ul _ (ZN hb e)))).2.1
  cases f with
  |next=>obtain⟨Z7,H7,I7,n7⟩:=q7;exact again I7 n7
  |cont=>obtain⟨Z7,H7,I7,n7⟩:=q7;exact again I7 n7
  |brk=>obtain⟨Z7,H7,I7,q7⟩:=q7;exact⟨Z7,H7,I7.unpinned,q7⟩
  |ret v=>obtain⟨x7,Z7,H7,I7,r7,q7⟩:=q7;exact⟨x7,Z7,H7,I7.unpinned,r7,q7⟩
end
abbrev R2:=V->V->Hp->VK->Prop
def OpR (X:Cx)(f:Value->Value->Sem Value)(r:R2):Prop:=
 ∀(Y:Yb) (s:Shared) (Z: St) (H:Hp) (x y:V) (v u:Value) (Q:VK),Inv X Y Z H s->RelV x v->RelV y u->r x y H Q ->
  YA X (f v u) (EP X Y Z Q) X.xe s
def UnR (X:Cx)(f:Value->Sem Value)(r:V->Hp->VK->Prop):Prop:=
 ∀(Y:Yb) (s:Shared) (Z: St) (H:Hp) (x:V) (v:Value) (Q:VK),Inv X Y Z H s->RelV x v->r x H Q ->
  YA X (f v) (EP X Y Z Q) X.xe s
def za1 (X:Cx)(f:Value)(r:Yw->Hp->VK->Prop):Prop:=
 ∀(Y:Yb) (s:Shared) (Z: St) (H:Hp) (xs:Yw) (us:Yd) (Q:VK),Inv X Y Z H s->Vals xs us->r xs H Q ->
  YA X (call f us) (EP X Y Z Q) X.xe s
def tOp (r:R2)(ta tb:TE):TE:=λZ H Q=>ta Z H λx H1=>tb Z H1 λy H2=>r x y H2 Q
def tUn (r:V->Hp->VK->Prop)(ta:TE):TE:=λZ H Q=>ta Z H λx H1=>r x H1 Q
def rI (C:Int->Int->Prop)(g:Int->Int->V):R2:=λx y H Q=>∃i j,x=.int i/\y=.int j/\C i j/\Q (g i j) H
def rI0 (g:Int->Int->V):R2:=λx y H Q=>∃i j,x=.int i/\y=.int j/\Q (g i j) H
def rU (g:Int->V):V->Hp->VK->Prop:=λx H Q=>∃i,x=.int i/\Q (g i) H
section
variable {X:Cx}{a b c:Expr}{ta tb tc:TE}{pos:Pos}
def binT (ha:PE X a ta)(hb:PE X b tb){Y:Yb}{s:Shared}{Z: St}{H:Hp}{R:V->V->Hp->Prop}(I:Inv X Y Z H s)
 (h:ta Z H λx H1=>tb Z H1 λy H2=>R x y H2) {Q:Ya} {f:Value->Value->Sem Value}
 (hf:∀v u s2 x y H2,Inv X Y Z H2 s2->RelV x v->RelV y u->R x y H2->YA X (f v u) Q X.xe s2):
 YA X (eval a X.env) (λv s₁=>YA X (eval b X.env) (λu s₂=>YA X (f v u) Q X.xe s₂) X.xe s₁) X.xe s:=by
 refine thn (ha Y s Z H _ I h) λv s1 ⟨x,H1,I1,r1,q1⟩=>?_;refine thn (hb Y s1 Z H1 _ I1 q1) λu s2 ⟨y,H2,I2,r2,q2⟩=>?_;exact hf v u s2 x y H2 I2 r1 r2 q2
def Ea {op:Operator}{r:R2}(ho:OpR X (binaryOp op) r)(ha:PE X a ta)(hb:PE X b tb):PE X (.BinOp a op b pos) (tOp r ta tb):=by
 intro Y s Z H Q I h;exact wpAny_BinOp (binT ha hb I h λv u s2 x y H2 I2 rx ry q=>ho Y s2 Z H2 x y v u Q I2 rx ry q)
def pe_un {op:UnaryOp}{r:V->Hp->VK->Prop}(ho:UnR X (unaryOp op) r)(ha:PE X a ta):PE X (.UnaryOp op a pos) (tUn r ta):=by
 intro Y s Z H Q I h;exact UnaryOp_ (thn (ha Y s Z H _ I h) λv s1 ⟨x,H1,I1,r1,q1⟩=>ho Y s1 Z H1 x v Q I1 r1 q1)
def opI {f:Value->Value->Sem Value}{C:Int->Int->Prop}{g:Int->Int->Int}
 (rule:∀(i j:Int) (t u:Tok) (s:Shared) (Q:Ya) (E:Ya),C i j->Q (.int (g i j) s.toks) { s with toks:=s.toks+1 }->YA X (f (.int i t) (.int j u)) Q E s):
 OpR X f (rI C λi j=>.int (g i j)):=by
 intro Y s Z H x y v u Q I rx ry h;obtain⟨i,j,rfl,rfl,hc,q⟩:=h;obtain⟨t,rfl⟩:=rx;obtain⟨t',rfl⟩:=ry;exact rule i j t t' s _ _ hc ⟨.int (g i j),H,I.tok _,⟨_,rfl⟩,q⟩
def opI0 {f:Value->Value->Sem Value}{g:Int->Int->Int}
 (rule:∀(i j:Int) (t u:Tok) (s:Shared) (Q:Ya) (E:Ya),Q (.int (g i j) s.toks) { s with toks:=s.toks+1 }->YA X (f (.int i t) (.int j u)) Q E s):
 OpR X f (rI0 λi j=>.int (g i j)):=by
 intro Y s Z H x y v u Q I rx ry h;obtain⟨i,j,rfl,rfl,q⟩:=h;obtain⟨t,rfl⟩:=rx;obtain⟨t',rfl⟩:=ry;exact rule i j t t' s _ _ ⟨.int (g i j),H,I.tok _,⟨_,rfl⟩,q⟩
def opB0 {f:Value->Value->Sem Value}{g:Int->Int->Bool}
 (rule:∀(i j:Int) (t u:Tok) (s:Shared) (Q:Ya) (E:Ya),Q (.bool (g i j)) s->YA X (f (.int i t) (.int j u)) Q E s):
 OpR X f (rI0 λi j=>.bl (g i j)):=by
 intro Y s Z H x y v u Q I rx ry h;obtain⟨i,j,rfl,rfl,q⟩:=h;obtain⟨t,rfl⟩:=rx;obtain⟨t',rfl⟩:=ry;exact rule i j t t' s _ _ ⟨.bl (g i j),H,I,rfl,q⟩
def CDiv (i j:Int):Prop:=0<j/\j<1073741824
def CPow (i j:Int):Prop:=0<=j/\j<=1000000/\i.natAbs<2 ^ 64
def LF:OpR X (binaryOp .Add) (rI0 λi j=>.int (i+j)):=opI0 λ_ _ _ _ _ _ _ q=>add_int q
def LG:OpR X (binaryOp .Sub) (rI0 λi j=>.int (i-j)):=opI0 λ_ _ _ _ _ _ _ q=>sub_int q
def LH:OpR X (binaryOp .FloorDiv) (rI CDiv λi j=>.int (i / j)):=opI λi j _ _ _ _ _ hc q=>by
 have h1:(0:Int)<j:=hc.1;have h2:j<1073741824:=hc.2;exact floordiv_int () (by rw[Int.fdiv_eq_ediv_of_nonneg i ()];exact q) (.inl (PyProof.noPylong_small ()))
def LI:OpR X (binaryOp .Mod) (rI (λ_ j=>0<j) λi j=>.int (i % j)):=opI λi j _ _ _ _ _ hc q=>by
 have h1:(0:Int)<j:=hc;exact mod_int' () (by rw[Int.fmod_eq_emod_of_nonneg i ()];exact q)
def LJ:OpR X (binaryOp .Pow) (rI CPow λi j=>.int (i ^ j.toNat)):=opI λ_ _ _ _ _ _ _ hc q=>pow_int_small hc.1 hc.2.1 hc.2.2 q
def unI {f:Value->Sem Value}{g:Int->Int}
 (rule:∀(i:Int) (t:Tok) (s:Shared) (Q:Ya) (E:Ya),Q (.int (g i) s.toks) { s with toks:=s.toks+1 }->YA X (f (.int i t)) Q E s):
 UnR X f (rU λi=>.int (g i)):=by
 intro Y s Z H x v Q I rx h;obtain⟨i,rfl,q⟩:=h;obtain⟨t,rfl⟩:=rx;exact rule i t s _ _ ⟨.int (g i),H,I.tok _,⟨_,rfl⟩,q⟩
def LK:UnR X (unaryOp .USub) (rU λi=>.int (-i)):=unI λ_ _ _ _ _ q=>neg_int q
end
def scal:V->V->Bool
 | .non,.non=>true | .non,.int _=>true | .int _,.non=>true | .non,.bl _=>true | .bl _,.non=>true | .non,.str _=>true | .str _,.non=>true
 | .int _,.int _=>true | .bl _,.bl _=>true | .str _,.str _=>true | .byt _,.byt _=>true
 | .int _,.str _=>true | .str _,.int _=>true | .bl _,.str _=>true | .str _,.bl _=>true
 |_,_=>false
def rEq:R2:=λx y H Q=>scal x y=true/\Q (.bl (decide (x=y))) H
def rNe:R2:=λx y H Q=>scal x y=true/\Q (.bl (!decide (x=y))) H
def Eb {i j:Int}:decide (V.int i=V.int j)=(i == j):=by
 rw[U4];simp
def Ec {i j:Bool}:decide (V.bl i=V.bl j)=(i == j):=by
 rw[U4];simp
def Ed {i j:Str}:decide (V.str i=V.str j)=(i == j):=by
 rw[U4];simp
def Ee {i j:Array UInt8}:decide (V.byt i=V.byt j)=(i.toList == j.toList):=by
 rw[U4];cases i;cases j;simp
section
variable {X:Cx}{a b c:Expr}{ta tb tc:TE}{pos:Pos}
def Qc {Y:Yb}{Z: St}{H:Hp}{s:Shared}{Q:VK}{k k':Bool}(I:Inv X Y Z H s)(q:Q (.bl k) H)(e:k=k'):EP X Y Z Q (.bool k') s:=by
 subst e;exact⟨.bl k,H,I,rfl,q⟩
def op_eq:OpR X (compareOp .Eq) rEq:=by
 intro Y s Z H x y v u Q I rx ry h;obtain⟨hs,q⟩:=h;cases x with
 |non =>
  cases rx;cases y with
  |non=>cases ry;exact PySem.EqNone.eq_none_none (Qc I q (by simp))
  |bl j=>cases ry;exact PySem.EqNone.eq_none_bool (Qc I q (by simp))
  |int j=>obtain⟨t',rfl⟩:=ry;exact PySem.EqNone.eq_none_int (Qc I q (by simp))
  |str j=>obtain⟨t',rfl⟩:=ry;exact PySem.EqNone.eq_none_str (Qc I q (by simp))
  |_=>exact Zn (show false=true from hs) Zj
 |bl i =>
  cases rx;cases y with
  |non=>cases ry;exact PySem.EqNone.eq_bool_none (Qc I q (by simp))
  |bl j=>cases ry;exact eq_bool (Qc I q Ec)
  |str j=>obtain⟨t',rfl⟩:=ry;exact PySem.EqMixed.eq_bool_str (Qc I q (by simp))
  |_=>exact Zn (show false=true from hs) Zj
 |int i =>
  obtain⟨t,rfl⟩:=rx;cases y with
  |non=>cases ry;exact PySem.EqNone.eq_int_none (Qc I q (by simp))
  |int j=>obtain⟨t',rfl⟩:=ry;exact eq_int (Qc I q Eb)
  |str j=>obtain⟨t',rfl⟩:=ry;exact PySem.EqMixed.eq_int_str (Qc I q (by simp))
  |_=>exact Zn (show false=true from hs) Zj
 |str i =>
  obtain⟨t,rfl⟩:=rx;cases y with
  |non=>cases ry;exact PySem.EqNone.eq_str_none (Qc I q (by simp))
  |bl j=>cases ry;exact PySem.EqMixed.eq_str_bool (Qc I q (by simp))
  |int j=>obtain⟨t',rfl⟩:=ry;exact PySem.EqMixed.eq_str_int (Qc I q (by simp))
  |str j=>obtain⟨t',rfl⟩:=ry;exact eq_str (Qc I q Ed)
  |_=>exact Zn (show false=true from hs) Zj
 |byt i =>
  obtain⟨t,rfl⟩:=rx;cases y with
  |byt j=>obtain⟨t',rfl⟩:=ry;exact W.eq_bytes (Qc I q Ee)
  |_=>exact Zn (show false=true from hs) Zj
 |_=>cases y<;>exact Zn (show false=true from hs) Zj
def op_ne:OpR X (compareOp .NotEq) rNe:=by
 intro Y s Z H x y v u Q I rx ry h;obtain⟨hs,q⟩:=h;cases x with
 |non =>
  cases rx;cases y with
  |non=>cases ry;exact PySem.EqNone.ne_none_none (Qc I q (by simp))
  |bl j=>cases ry;exact PySem.EqNone.ne_none_bool (Qc I q (by simp))
  |int j=>obtain⟨t',rfl⟩:=ry;exact PySem.EqNone.ne_none_int (Qc I q (by simp))
  |str j=>obtain⟨t',rfl⟩:=ry;exact PySem.EqNone.ne_none_str (Qc I q (by simp))
  |_=>exact Zn (show false=true from hs) Zj
 |bl i =>
  cases rx;cases y with
  |non=>cases ry;exact PySem.EqNone.ne_bool_none (Qc I q (by simp))
  |bl j=>cases ry;exact ne_bool (Qc I q (Zt not Ec))
  |str j=>obtain⟨t',rfl⟩:=ry;exact PySem.EqMixed.ne_bool_str (Qc I q (by simp))
  |_=>exact Zn (show false=true from hs) Zj
 |int i =>
  obtain⟨t,rfl⟩:=rx;cases y with
  |non=>cases ry;exact PySem.EqNone.ne_int_none (Qc I q (by simp))
  |int j=>obtain⟨t',rfl⟩:=ry;exact ne_int (Qc I q (Zt not Eb))
  |str j=>obtain⟨t',rfl⟩:=ry;exact PySem.EqMixed.ne_int_str (Qc I q (by simp))
  |_=>exact Zn (show false=true from hs) Zj
 |str i =>
  obtain⟨t,rfl⟩:=rx;cases y with
  |non=>cases ry;exact PySem.EqNone.ne_str_none (Qc I q (by simp))
  |bl j=>cases ry;exact PySem.EqMixed.ne_str_bool (Qc I q (by simp))
  |int j=>obtain⟨t',rfl⟩:=ry;exact PySem.EqMixed.ne_str_int (Qc I q (by simp))
  |str j=>obtain⟨t',rfl⟩:=ry;exact ne_str (Qc I q (Zt not Ed))
  |_=>exact Zn (show false=true from hs) Zj
 |byt i =>
  obtain⟨t,rfl⟩:=rx;cases y with
  |byt j=>obtain⟨t',rfl⟩:=ry;exact W.ne_bytes (Qc I q (Zt not Ee))
  |_=>exact Zn (show false=true from hs) Zj
 |_=>cases y<;>exact Zn (show false=true from hs) Zj
def op_lt:OpR X (compareOp .Lt) (rI0 λi j=>.bl (decide (i<j))):=opB0 λ_ _ _ _ _ _ _ q=>lt_int q
def op_le:OpR X (compareOp .LtE) (rI0 λi j=>.bl (decide (i<=j))):=opB0 λ_ _ _ _ _ _ _ q=>le_int q
def op_gt:OpR X (compareOp .Gt) (rI0 λi j=>.bl (decide (j<i))):=opB0 λ_ _ _ _ _ _ _ q=>gt_int q
def op_ge:OpR X (compareOp .GtE) (rI0 λi j=>.bl (decide (j<=i))):=opB0 λ_ _ _ _ _ _ _ q=>ge_int q
def LM:OpR X (compareOp .In) (λx y H Q=>∃i j,x=.str i/\y=.str j/\Q (.bl (!(Builtin.Str.occurrences j i 0 j.length 1).isEmpty)) H):=by
 intro Y s Z H x y v u Q I rx ry h;obtain⟨i,j,rfl,rfl,q⟩:=h;obtain⟨t,rfl⟩:=rx;obtain⟨t',rfl⟩:=ry;exact in_str (Qc I q rfl)
def LN:OpR X (compareOp .NotIn) (λx y H Q=>∃i j,x=.str i/\y=.str j/\Q (.bl (!(!(Builtin.Str.occurrences j i 0 j.length 1).isEmpty))) H):=by
 intro Y s Z H x y v u Q I rx ry h;obtain⟨i,j,rfl,rfl,q⟩:=h;obtain⟨t,rfl⟩:=rx;obtain⟨t',rfl⟩:=ry;exact notIn_str (Qc I q rfl)
def JX (b:Expr){op:CmpOp}(h:op ≠ .In:=by decide)(h2:op ≠ .NotIn:=by decide):behindInMarks op b=false:=by
 have e1:(op == CmpOp.In)=false:=by cases op<;>first|rfl|exact Zn rfl h
 have e2:(op == CmpOp.NotIn)=false:=by cases op<;>first|rfl|exact Zn rfl h2
 cases b<;>first|rfl|(show(_&&(_||_)&&_)=false;rw[e1,e2,Bool.or_self,Vw,Vx])
def Ef {op:CmpOp}{r:R2}(ho:OpR X (compareOp op) r)(ha:PE X a ta)(hb:PE X b tb)(hm:behindInMarks op b=false):PE X (.Compare a [op] [b] pos) (tOp r ta tb):=by
 intro Y s Z H Q I h;exact wpAny_Compare1 (binT ha hb I h λv u s2 x y H2 I2 rx ry q=>ho Y s2 Z H2 x y v u Q I2 rx ry q) hm
def Eg (t:TE):TT:=λZ H Q=>t Z H λx H'=>∃k,x=.bl k/\Q k H'
def ZO {op:CmpOp}{r:R2}(ho:OpR X (compareOp op) r)(ha:PE X a ta)(hb:PE X b tb)(hm:behindInMarks op b=false):PT X (.Compare a [op] [b] pos) (Eg (tOp r ta tb)):=by
 intro Y s Z H Q I h;refine wpAny_isTrue_Compare1 (thn (ha Y s Z H _ I h) λv s1 ⟨x,H1,I1,r1,q1⟩=>thn (hb Y s1 Z H1 _ I1 q1) λu s2 ⟨y,H2,I2,r2,q2⟩ =>
  thn (ho Y s2 Z H2 x y v u _ I2 r1 r2 q2) λc s3 ⟨z,H3,I3,r3,k,e,q3⟩=>?_) hm
 subst e;cases r3;exact wpAny_truthy_bool ⟨H3,I3,q3⟩
def Eh (r r':R2)(ta tb tc:TE):TE:=λZ H Q=>ta Z H λx H1=>tb Z H1 λy H2=>r x y H2 λz H3=>∃k,z=.bl k /\
 (if k=true then tc Z H3 λw' H4=>r' y w' H4 Q else Q (.bl false) H3)
def LO {op op':CmpOp}{r r':R2}(ho:OpR X (compareOp op) r)(ho':OpR X (compareOp op') r')(ha:PE X a ta)(hb:PE X b tb)(hc:PE X c tc)
 (hm:lastMarks [op,op'] [b,c]=false:=by with_unfolding_all rfl):PT X (.Compare a [op,op'] [b,c] pos) (Eg (Eh r r' ta tb tc)):=by
 intro Y s Z H Q I h;refine isTrue_chain (thn (ha Y s Z H _ I h) λv s1 ⟨x,H1,I1,r1,q1⟩=>test_link (thn (hb Y s1 Z H1 _ I1 q1) λu s2 ⟨y,H2,I2,r2,q2⟩ =>
  thn (ho Y s2 Z H2 x y v u _ I2 r1 r2 q2) λd s3 ⟨z,H3,I3,r3,k,e,q3⟩=>?_)) hm
 subst e;cases r3;refine wpAny_truthy_bool ?_;cases k with
 |false =>
  obtain⟨k',e',q'⟩:=q3;cases e';exact ite_ff ⟨H3,I3,q'⟩
 |true =>
  refine ite_tt (test_last (thn (hc Y s3 Z H3 _ I3 q3) λw' s4 ⟨z',H4,I4,r4,q4⟩=>thn (ho' Y s4 Z H4 y z' u w' _ I4 r2 r4 q4) λd' s5 ⟨z2,H5,I5,r5,k2,e2,q5⟩=>?_));subst e2;cases r5;exact wpAny_truthy_bool ⟨H5,I5,q5⟩
def WU:(sizeLine:Nat)<2 ^ 63:=by rw[sizeLine_eq];decide
def LP:OpR X (binaryOp .Add) (λx y H Q=>∃i j,x=.str i/\y=.str j/\i.length+j.length<=sizeLine/\Q (.str (i++j)) H):=by
 intro Y s Z H x y v u Q I rx ry h;obtain⟨i,j,rfl,rfl,hz,q⟩:=h;obtain⟨t,rfl⟩:=rx;obtain⟨t',rfl⟩:=ry;exact add_str (λt' tk=>⟨.str (i++j),H,I.tok _,⟨_,rfl⟩,q⟩) hz
def Q7 {x:V}{us:Yd}(r:Vals [x] us):∃u,us=[u]/\RelV x u:=by
 cases r with
 |cons r1 r2=>cases r2;exact⟨_,rfl,r1⟩
def ZP {x y:V}{us:Yd}(r:Vals [x,y] us):∃u w',us=[u,w']/\RelV x u/\RelV y w':=by
 cases r with
 |cons r1 r2 =>
  cases r2 with
  |cons r3 r4=>cases r4;exact⟨_,_,rfl,r1,r3⟩
def LQ:za1 X (.builtin "abs") (λxs H Q=>∃i,xs=[.int i]/\Q (.int (if i<0 then -i else i)) H):=by
 intro Y s Z H xs us Q I r h;obtain⟨i,rfl,q⟩:=h;obtain⟨u,rfl,t,rfl⟩:=Q7 r;exact call_abs_int λu tk=>⟨.int (if i<0 then -i else i),H,I.tok _,⟨_,rfl⟩,q⟩
def LR (hc:X.calm=true):za1 X (.builtin "max") (λxs H Q=>∃i j,xs=[.int i,.int j]/\Q (.int (if j > i then j else i)) H):=by
 intro Y s Z H xs us Q I r h;obtain⟨i,j,rfl,q⟩:=h;obtain⟨u,w',rfl,⟨t,rfl⟩,⟨t',rfl⟩⟩:=ZP r;refine max_two_ints (I.ok.hd hc) λh' tk k=>⟨_,H,I.kept k,?_,q⟩;by_cases hj:j > i
 .rw[Zd hj,Zd hj];exact⟨_,rfl⟩
 .rw[Ze hj,Ze hj];exact⟨_,rfl⟩
def LS (hc:X.calm=true):za1 X (.builtin "min") (λxs H Q=>∃i j,xs=[.int i,.int j]/\Q (.int (if j<i then j else i)) H):=by
 intro Y s Z H xs us Q I r h;obtain⟨i,j,rfl,q⟩:=h;obtain⟨u,w',rfl,⟨t,rfl⟩,⟨t',rfl⟩⟩:=ZP r;refine min_two_ints (I.ok.hd hc) λh' tk k=>⟨_,H,I.kept k,?_,q⟩;by_cases hj:j<i
 .rw[Zd hj,Zd hj];exact⟨_,rfl⟩
 .rw[Ze hj,Ze hj];exact⟨_,rfl⟩
def LU:za1 X (.type "str") (λxs H Q=>∃i,xs=[.int i]/\i.natAbs.log2<1920/\Q (.str (toString i)) H):=by
 intro Y s Z H xs us Q I r h;obtain⟨i,rfl,hz,q⟩:=h;obtain⟨u,rfl,t,rfl⟩:=Q7 r;exact PySem.P.str_of_int hz ⟨.str _,H,I.tok _,⟨_,rfl⟩,q⟩
end
structure ObjM (h:Heap)(x dx C:Addr)(mA:Yc):Prop where
 obj:h.get? x=some (W.instObj C dx)
 ns:h.Ns1 dx mA
 ne:dx≠x
def LV {h:Heap}{dx:Addr}{mA:Yc}(n:h.Ns1 dx mA):∃od,h.get? dx=some od/\∀name,W.lookIn name od=some (mA name):=by
 obtain⟨o,es,ep,ho,hd,hk,_,hm⟩:=n;refine⟨o,ho,λname=>?_⟩;have e:=hm name;unfold nsFind findBy at e;rw[<- Array.find?_toList] at e;unfold W.lookIn;rw[hd];dsimp only
 split
 .rename_i y q;rw[q] at e;exact Zt some e
 .rename_i q;rw[q] at e;have a:es.toList.any (·.refKey)=false:=by
   rw[Vl];intro y hy;obtain⟨z,t,hkey⟩:=hk y (VT.mp hy);simp[DictEntry.refKey,hkey]
  have a':¬es.toList.any (·.refKey)=true:=by rw[a];exact Zj
  rw[Ze a'];exact Zt some e
def ObjM.look {h:Heap}{x dx C:Addr}{mA:Yc}(I:ObjM h x dx C mA):∃od,W.InstAt h x (W.instObj C dx) C (some od)/\∀name,W.lookIn name od=some (mA name):=
 let ⟨od,ho,hl⟩:=LV I.ns
 ⟨od,⟨I.obj,rfl,rfl,ho⟩,hl⟩
section
variable {prog:Program}{w:World}{A:Around}{E:Ya}{s:Shared}{K:W.Frag}{x dx C f:Addr}{mA:Yc}{name:Str}{v:Value}
def LW {expr:Bool}{Q:Ya}(X:K.In s.heap)(I:ObjM s.heap x dx C mA)(hg:W.plainGet K C name=true)(hh:W.hasDictIn K C=true)
 (ha:W.findIn K (.ref C) name=some none) (hv:mA name=some v) (hv':W.handedIn v=true) (h:Q v { s with toks:=s.toks+1 }):
 YB prog w A (getAttr (.ref x) name expr) Q E s:=by
 obtain⟨od,J,hl⟩:=I.look;exact W.get_value X J (W.plainGet_of hg).1 (W.findObj_own hh ha rfl (by rw[hl,hv])) hv' h
def LX {ns:Yh}{Q:Unit->Yu}(X:K.In s.heap)(I:ObjM s.heap x dx C mA)
 (hs:W.findIn K (.ref C) "__setattr__" = some (some (.builtin "object.__setattr__"))) (hp:W.plainOver K C=true) (ht:W.takerIn K C name=some none) (hh:W.hasDictIn K C=true)
 (hw:PySem.Within mA ns) (hsz:ns.length<=sizeLine)
 (h:∀h',ObjM h' x dx C (λy=>if y=name then some v else mA y)->Heap.SameBut dx s.heap h'->Q Yp { s with heap:=h',toks:=s.toks+2 }):
 YB prog w A (setAttr (.ref x) name v) Q E s:=by
 obtain⟨od,J,hl⟩:=I.look;refine W.set_plain X J hs (W.osa_open (s:={ s with toks:=s.toks+1 }) (r:=none) X J hp ht λb=>?_);obtain⟨cd,hc,hd'⟩:=W.any_some hh;have hx:s.heap.get? x=some ⟨.ref C,some dx,.plain,#[]⟩:=I.obj;refine Za (Zb (Za (Za (wpAny_loadPart hx (Za (W.Looks.here (s:={ s with toks:=s.toks+1 }) (W.looks_clsIn X hc) ?_))))));rw[hd'];refine Zb (a:=some dx) (Za (Zb (Za ?_)));refine wpAny_nsSet1 (s:={ s with toks:=s.toks+1 }) I.ns λh' hn2 hs2=>?_;obtain⟨oD,esD,epD,hoD,hdD,hcD⟩:=hn2.count (PySem.Within.cons name v hw);refine Za (wpAny_lookBehind hoD (by rw[hdD];exact pastItsLine_dict (Zh hcD (by rw[Zu];omega))) ?_);exact Zb (h _ ⟨(hs2.2 _ (Ne.symm I.ne)).trans I.obj,hn2,I.ne⟩ hs2)
def LY {R:Result->Yu}{vs:Yd}{kw:List (Str×Value)}(X:K.In s.heap)(hm:W.makesIn K C=true)
 (hi:W.findIn K (.ref C) "__init__" = some (some (.ref f))) (hf:W.typeIn K (.ref f)=some (.type "function"))
 (h:codeAny (model prog w) (A.under (.builtin "type.__call__" ⟨.ref C::vs,kw⟩)) (.call (.ref f) ⟨.ref (s.heap.objs.size+1)::vs,kw⟩) (W.InitBack (s.heap.objs.size+1) R)
  { s with heap:=(s.heap.push W.emptyDict).push (W.instObj C s.heap.objs.size) }):
 codeAny (model prog w) A (.call (.ref C) ⟨vs,kw⟩) R s:=by
 obtain⟨hh,g,d,t,os⟩:=s;exact W.make_core (W.makes_of X hm) (W.looks_findIn X hi) (λself=>W.bind_fn X self hf) (.inl rfl) h
end
def putF (f:Str)(v:V):List (Str×V)->List (Str×V)
 | []=>[(f,v)]
 | (g,x)::r=>if g=f then(g,v)::r else(g,x)::putF f v r
theorem Ei (f g:Str)(v:V):∀fs:List (Str×V),(putF f v fs).lookup g=if g=f then some v else fs.lookup g
 | []=>by
  show List.lookup g [(f,v)]=_;by_cases h:g=f
  .have hb:(g == f)=true:=Yo.mpr h;simp only[List.lookup,hb,Zd h]
  .have hb:(g == f)=false:=beq_eq_false_iff_ne.mpr h;simp only[List.lookup,hb,Ze h]
 | (k,x)::r=>by
  have ih:=Ei f g v r;rw[show putF f v ((k,x)::r)=(if k=f then(k,v)::r else(k,x)::putF f v r) from rfl];by_cases hk:k=f
  .rw[Zd hk];by_cases h:g=k
   .have hb:(g == k)=true:=Yo.mpr h;simp only[List.lookup,hb,Zd (h.trans hk)]
   .have hb:(g == k)=false:=beq_eq_false_iff_ne.mpr h;simp only[List.lookup,hb,Ze (λe:g=f=>h (e.trans hk.symm))]
  .rw[Ze hk];by_cases h:g=k
   .have hb:(g == k)=true:=Yo.mpr h;simp only[List.lookup,hb,Ze (λe:g=f=>hk (h.symm.trans e))]
   .have hb:(g == k)=false:=beq_eq_false_iff_ne.mpr h;simp only[List.lookup,hb];exact ih
theorem B4 (f:Str)(v:V):∀fs:List (Str×V),f∈(putF f v fs).map (·.1)/\∀g,g∈fs.map (·.1)->g∈(putF f v fs).map (·.1)
 | []=>⟨by simp[putF],λg h=>by simp at h⟩
 | (k,x)::r=>by
  obtain⟨i1,i2⟩:=B4 f v r;rw[show putF f v ((k,x)::r)=(if k=f then(k,v)::r else(k,x)::putF f v r) from rfl];by_cases hk:k=f
  .rw[Zd hk];subst hk;exact⟨by simp,λg h=>by simpa using h⟩
  .rw[Ze hk];refine⟨?_,λg h=>?_⟩
   .rw[Zl];exact Zqm _ i1
   .rw[Zl] at h ⊢;rcases UB.mp h with e|e
    .exact UB.mpr (.inl e)
    .exact Zqm _ (i2 g e)
theorem Ej (f:Str)(v:V):∀fs:List (Str×V),(putF f v fs).length<=fs.length+1
 | []=>by simp[putF]
 | (k,x)::r=>by
  have ih:=Ej f v r;rw[show putF f v ((k,x)::r)=(if k=f then(k,v)::r else(k,x)::putF f v r) from rfl];by_cases hk:k=f
  .rw[Zd hk,Zu,Zu];omega
  .rw[Ze hk,Zu,Zu];omega
def RelO.some_of {v:V}{o:Option Value}(r:RelO (some v) o):∃u,o=some u/\RelV v u:=by
 cases o with
 |none=>exact(show False from r).elim
 |some u=>exact⟨u,rfl,r⟩
def LZ {v:V}{u:Value}(r:RelV v u):W.handedIn u=true:=by
 cases v with
 |non=>cases (show u=Value.none from r);rfl
 |bl b=>cases (show u=Value.bool b from r);rfl
 |int i=>obtain⟨t,e⟩:=(show ∃t,u=Value.int i t from r);cases e;rfl
 |str x=>obtain⟨t,e⟩:=(show ∃t,u=Value.str x t from r);cases e;rfl
 |byt b=>obtain⟨t,e⟩:=(show ∃t,u=Value.bytes b t from r);cases e;rfl
 |flt b=>obtain⟨t,e⟩:=(show ∃t,u=Value.float b t from r);cases e;rfl
 |ref a=>cases (show u=Value.ref a from r);rfl
 |ty n=>cases (show u=Value.type n from r);rfl
section
variable {P:Program}{w:World}{H H':Hp}{h h':Heap}{a C dx:Addr}{fs fs':List (Str×V)}
def Ek (hok:HOk P w H h)(e:H a=some (.ins C dx fs)):∃mA,ObjM h a dx C mA/\(∀f,RelO (fs.lookup f) (mA f))/\PySem.Within mA (fs.map (·.1))/\fs.length<=1000/\H dx=some (.own a):=by
 obtain⟨d,z,ne,ob,mA,n,r,q⟩:=(show zbj P w H h a (.ins C dx fs) from hok a _ e);exact⟨mA,⟨ob,n,ne⟩,r,q,z,d⟩
end
structure Cls (K:W.Frag)(C:Addr):Prop where
 pg:W.plainGet K C Str.empty=true
 hd:W.hasDictIn K C=true
 po:W.plainOver K C=true
 sa:W.findIn K (.ref C) "__setattr__" = some (some (.builtin "object.__setattr__"))
def Cls.get {K:W.Frag}{C:Addr}(c:Cls K C)(f:Str):W.plainGet K C f=true:=c.pg
def zdU (K:W.Frag)(C:Addr)(f:Str):Prop:=W.findIn K (.ref C) f=some none
def zdU.taker {K:W.Frag}{C:Addr}{f:Str}(n:zdU K C f):W.takerIn K C f=some none:=by
 unfold W.takerIn;rw[show W.findIn K (.ref C) f=some none from n];rfl
section
variable {X:Cx}{Y:Yb}{Z: St}{H:Hp}{s:Shared}{a C dx:Addr}{fs:List (Str×V)}{f:Str}{v:V}{A:Around}{E:Ya}
def Ma {b:Bool}{Q:Ya}(I:Inv X Y Z H s)(e:H a=some (.ins C dx fs))(c:Cls X.K C)(n:zdU X.K C f)(l:fs.lookup f=some v)
 (h:∀u s',Inv X Y Z H s'->RelV v u->Q u s'):wpAny (model X.prog X.w) A (getAttr (.ref a) f b) Q E s:=by
 obtain⟨mA,O,r,_,_,_⟩:=Ek I.hok e;obtain⟨u,hu,ru⟩:=RelO.some_of (v:=v) (o:=mA f) (by rw[<- l];exact r f);exact LW I.kIn O (c.get f) c.hd n hu (LZ ru) (h u _ (I.tok _) ru)
def Mb {y:V}{u:Value}{Q:Unit->Yu}(I:Inv X Y Z H s)(e:H a=some (.ins C dx fs))(c:Cls X.K C)(n:zdU X.K C f)(hl:fs.length<1000)(ry:RelV y u)
 (h:∀s',Inv X Y Z (upd H a (.ins C dx (putF f y fs))) s'->Q Yp s'):wpAny (model X.prog X.w) A (setAttr (.ref a) f u) Q E s:=by
 obtain⟨mA,O,r,wi,_,ho⟩:=Ek I.hok e;have hz:(fs.map (·.1)).length<=sizeLine:=by rw[Zql,sizeLine_eq];omega
 refine LX I.kIn O c.sa c.po n.taker c.hd wi hz λh' O' sb=>h _ ?_;have hd:∃o,h'.get? dx=some o:=let ⟨o,_,_,e',_⟩:=O'.ns;⟨o,e'⟩
 refine I.write (x:=a) (e:=dx) (by rw[e];exact True.intro) (.inr ho) (λb q hb z=>(sb.2 b hb).trans z) hd ?_;refine⟨by rw[JC O.ne];exact ho,?_,O.ne,O'.obj,_,O'.ns,λg=>?_,λg hg=>?_⟩
 .have:=Ej f y fs;omega
 .show RelO ((putF f y fs).lookup g) (if g=f then some u else mA g);rw[Ei];by_cases q:g=f
  .rw[Zd q,Zd q];exact ry
  .rw[Ze q,Ze q];exact r g
 .by_cases q:g=f
  .rw[q];exact(B4 f y fs).1
  .refine(B4 f y fs).2 g (wi g λz=>hg ?_);show(if g=f then some u else mA g)=none;rw[Ze q];exact z
def Inv.made (I:Inv X Y Z H s):Inv X Y Z (upd (upd H s.heap.objs.size (.own (s.heap.objs.size+1))) (s.heap.objs.size+1) (.ins C s.heap.objs.size []))
 { s with heap:=(s.heap.push W.emptyDict).push (W.instObj C s.heap.objs.size) }:=by
 have e1:(s.heap.push W.emptyDict).get? s.heap.objs.size=some W.emptyDict:=Zr s.heap rfl;have e2:((s.heap.push W.emptyDict).push (W.instObj C s.heap.objs.size)).get? (s.heap.objs.size+1)=some (W.instObj C s.heap.objs.size):=by
  have:=Zr (s.heap.push W.emptyDict) (o:=W.instObj C s.heap.objs.size) rfl
  rwa [Heap.size_push] at this
 have e3:(s.heap.push W.emptyDict).Ns s.heap.objs.size (λ_=>none):=⟨W.emptyDict,#[],_,e1,rfl,(λe he=>Zn he (by simp)),λ_=>rfl⟩;have I1:=I.laid (a:=s.heap.objs.size) (o:=.own (s.heap.objs.size+1)) (h':=s.heap.push W.emptyDict) (t':=s.toks) (λb u q=>Zq _ q) (Zf _) ⟨_,e1⟩;refine I1.laid (a:=s.heap.objs.size+1) (o:=.ins C s.heap.objs.size []) (t':=s.toks) (λb u q=>Zq _ q) (Yq (Heap.size_push _ _)) ?_;have ne:s.heap.objs.size≠s.heap.objs.size+1:=Zi (Vm _);refine⟨by rw[JC ne,JL],Ue _,ne,e2,λ_=>none,(Heap.Ns1.of_empty e3).at λo q=>Zq _ q,λ_=>True.intro,λy hy=>Zn rfl hy⟩
def Mc {prog:Program}{w:World}{env:Env}{e:Expr}{f:Str}{pos:Pos}{s:Shared}{Q:Ya}(hb:attributeBase e f env (eval e env)=eval e env)
 (h:YB prog w A (eval e env) (λo s₁=>YB prog w A (getAttr o f true) Q E s₁) E s):YB prog w A (eval (.Attribute e f pos) env) Q E s:=
 Attribute_any_ h (by rw[arm_eval_Attribute,hb])
end
def tFld (K:W.Frag)(ta:TE)(f:Str):TE:=λZ H Q=>ta Z H λx H1=>∃a C dx fs v,x=.ref a/\H1 a=some (.ins C dx fs)/\Cls K C/\zdU K C f/\fs.lookup f=some v/\Q v H1
def sFld (K:W.Frag)(ta tv:TE)(f:Str):TS:=λD Z H=>tv Z H λy H1=>ta Z H1 λx H2=>∃a C dx fs,x=.ref a/\H2 a=some (.ins C dx fs)/\Cls K C/\zdU K C f/\fs.length<1000 /\
 D.nx Z (upd H2 a (.ins C dx (putF f y fs)))
section
variable {X:Cx}{o e value:Expr}{f:Str}{pos pos' tpos:Pos}{ta tv:TE}
def Md (he:PE X e ta)(hb:attributeBase e f X.env (eval e X.env)=eval e X.env):PE X (.Attribute e f pos) (tFld X.K ta f):=by
 intro Y s Z H Q I h;refine Mc hb (thn (he Y s Z H _ I h) λu s1 ⟨x,H1,I1,rx,a,C,dx,fs,v,ex,ea,c,n,l,q⟩=>?_);subst ex;obtain rfl:u=Value.ref a:=rx;exact Ma I1 ea c n l λu' s2 I2 ru=>⟨v,H1,I2,ru,q⟩
def Me (ha:PE X o ta)(hv:PE X value tv)(hs:swapsWith value (some (.Attribute o f pos')) pos.line X.env=pure false):PS X (.Assign [.Attribute o f pos'] value pos) (sFld X.K ta tv f):=by
 intro Y s Z H D I h;refine plainObj_wpAny_Assign_Attribute (thn (hv Y s Z H _ I h) λu s1 ⟨y,H1,I1,ry,q⟩=>thn (ha Y s1 Z H1 _ I1 q) λov s2 ⟨x,H2,I2,rx,a,C,dx,fs,ex,ea,c,n,l,q2⟩=>?_) hs;subst ex;obtain rfl:ov=Value.ref a:=rx;exact Mb I2 ea c n l ry λs3 I3=>⟨Z,_,I3,q2⟩
end
structure Room (k:Nat)(A:Around):Prop where
 hd:A.handled=none
 dp:A.depth+3*k+5<recursionLimit
 un:A.units+16*k+200<cLine
def Room.mono {j k:Nat}{A:Around}(r:Room k A)(h:j<=k):Room j A:=⟨r.hd,by have:=r.dp;omega,by have:=r.un;omega⟩
theorem Room.deeper {k:Nat}{A:Around}(r:Room (k+1) A)(env:Env):Room k (A.deeper env):=
 ⟨r.hd,by have:=r.dp;show A.depth+1+3*k+5<_;omega,by have:=r.un;show A.units+3+16*k+200<_;omega⟩
def Mf {A:Around}{C:Addr}{us:Yd}{kw:List (Str×Value)}:(A.under (.builtin "type.__call__" ⟨.ref C::us,kw⟩)).depth=A.depth+1:=by
 first|rfl|simp[Around.under,Code.weight,Code.isCreation,Code.isGuard,Code.isCaller,Code.frames,Code.isFrame,guardIds]
def Mh {A:Around}{C:Addr}{us:Yd}{kw:List (Str×Value)}:(A.under (.builtin "type.__call__" ⟨.ref C::us,kw⟩)).units=A.units+1:=by
 first|rfl|simp[Around.under,Code.cUnits,Code.frames,Code.isFrame]
def Room.make {k:Nat}{A:Around}(r:Room (k+1) A)(C:Addr)(us:Yd)(kw:List (Str×Value)):Room k (A.under (.builtin "type.__call__" ⟨.ref C::us,kw⟩)):=
 ⟨r.hd,by have:=r.dp;rw[Mf];omega,by have:=r.un;rw[Mh];omega⟩
theorem Room.depth {k:Nat}{A:Around}(r:Room k A):A.depth<recursionLimit:=by have:=r.dp;omega
theorem Room.units {k:Nat}{A:Around}(r:Room k A):A.units+64<cLine:=by have:=r.un;omega
def tNil:TA:=λ_ H Q=>Q [] H
def ZQ (ta:TE)(tr:TA):TA:=λZ H Q=>ta Z H λx H1=>tr Z H1 λxs H2=>Q (x::xs) H2
section
variable {X:Cx}{e:Expr}{es:Yj}{te:TE}{t:TA}{pos:Pos}
def X7:PA X [] tNil:=λ_ _ _ _ H Q I h=>Calls.spliced_nil ⟨[],H,I,.nil,h⟩
def X8 (ha:PE X e te)(hr:PA X es t)(hs:starEach (e::es) X.env=(false,eval e X.env)::starEach es X.env:=by rfl):PA X (e::es) (ZQ te t):=by
 intro pos Y s Z H Q I h;rw[hs];show wpAny _ _ (spliced ((false,eval e X.env)::backTo pos (starEach es X.env))) _ _ s;refine Calls.spliced_cons (thn (ha Y s Z H _ I h) λu s1 ⟨x,H1,I1,r1,q1⟩=>?_);exact thn (hr pos Y s1 Z H1 _ I1 q1) λus s2 ⟨xs,H2,I2,r2,q2⟩=>⟨x::xs,H2,I2,.cons r1 r2,q2⟩
def tTup (t:TA):TE:=λZ H Q=>t Z H λxs H1=>xs.length<=sizeLine/\∀p,H1 p=none->Q (.ref p) (upd H1 p (.tup xs))
def tLst (t:TA):TE:=λZ H Q=>t Z H λxs H1=>xs.length<=sizeLine/\∀p,H1 p=none->Q (.ref p) (upd H1 p (.lst xs))
def Mi {x1}(h:PA X es t):PE X (.Tuple es x1 pos) (tTup t):=by
 intro Y s Z H Q I hq;refine wpAny_Tuple_spliced (thn (h pos Y s Z H _ I hq) λus s1 ⟨xs,H1,I1,r,z,q⟩=>⟨by rw[<- r.length];exact z,?_⟩);have hf:H1 s1.heap.objs.size=none:=I1.hok.fresh (Zf _);refine⟨.ref s1.heap.objs.size,upd H1 s1.heap.objs.size (.tup xs),I1.laid (t':=s1.toks) (λb u e=>Zq _ e) (Zf _) ?_,rfl,q _ hf⟩;exact⟨⟨z,⟨_,Zr _ rfl,rfl⟩⟩,us,r,⟨_,Zr _ rfl,rfl,_,rfl⟩⟩
def Mj (h:PA X es t):PE X (.List es pos) (tLst t):=by
 intro Y s Z H Q I hq;refine wpAny_List_spliced (thn (h pos Y s Z H _ I hq) λus s1 ⟨xs,H1,I1,r,z,q⟩=>⟨by rw[<- r.length];exact z,?_⟩);have hf:H1 s1.heap.objs.size=none:=I1.hok.fresh (Zf _);refine⟨.ref s1.heap.objs.size,upd H1 s1.heap.objs.size (.lst xs),I1.laid (t':=s1.toks) (λb u e=>Zq _ e) (Zf _) ?_,rfl,q _ hf⟩;exact⟨z,us,0,r,Zr _ rfl⟩
end
abbrev Sp:=Yw->Hp->VK->XK->Prop
abbrev CXT:=List Env->Hp->Shared->XK->Ya
structure Env0 (P:Program)(w:World)(K:W.Frag)(mg:Yc)(base:Heap)(A:Around)(outer:List Env)(s:Shared)(H:Hp):Prop where
 frames:A.frames=some outer
 mod:Mod K mg base
 bs:∀b o,base.get? b=some o->s.heap.get? b=some o/\H b=none
 bsz:base.objs.size<=s.heap.objs.size
 funs:s.heap.FunFrames base outer
 frf:∀b∈frs outer,H b=none
 hok:HOk P w H s.heap
 bare:AllBare s.gens
def CE (outer:List Env)(P:Program)(w:World)(H:Hp)(s:Shared)(Q:VK)(u:Value)(s':Shared):Prop:=
 ∃v H',s'.os=s.os/\AllBare s'.gens/\Un (frs outer) [] H H' s.heap s'.heap/\HOk P w H' s'.heap/\RelV v u/\Q v H'
def CR (CX:CXT)(outer:List Env)(P:Program)(w:World)(H:Hp)(s:Shared)(Q:VK)(E:XK)(r:Result)(s':Shared):Prop:=
 match r with
 | .ok (.ret u)=>CE outer P w H s Q u s'
 | .ok _=>False
 | .error e=>CX outer H s E e s'
structure FnOk (P:Program)(w:World)(K:W.Frag)(mg:Yc)(base:Heap)(CX:CXT)(k:Nat)(f:Addr)(fd:FuncData)(ps:Yh)(sp:Sp):Prop where
 len:∀vs H Q E,sp vs H Q E->vs.length=ps.length
 run:∀(A:Around) (outer:List Env) (s:Shared) (H:Hp) (args:Args) (us:Yd) (vs:Yw) (Q:VK) (E:XK),Room k A->Env0 P w K mg base A outer s H->BindsTo s fd args (ps.zip us)->Vals vs us->sp vs H Q E ->
  codeAny (model P w) A (.call (.ref f) args) (CR CX outer P w H s Q E) s
theorem FnOk.mono {P:Program}{w:World}{K:W.Frag}{mg:Yc}{base:Heap}{CX:CXT}{j k:Nat}{f:Addr}{fd:FuncData}{ps:Yh}{sp:Sp}(F:FnOk P w K mg base CX j f fd ps sp)(h:j<=k):
 FnOk P w K mg base CX k f fd ps sp:=⟨F.len,λA outer s H args us vs Q E hr=>F.run A outer s H args us vs Q E (hr.mono h)⟩
def FnOk.imp {P:Program}{w:World}{K:W.Frag}{mg:Yc}{base:Heap}{CX:CXT}{k:Nat}{f:Addr}{fd:FuncData}{ps:Yh}{sp sp':Sp}(F:FnOk P w K mg base CX k f fd ps sp)
 (h:∀vs H Q E,sp' vs H Q E->sp vs H Q E):FnOk P w K mg base CX k f fd ps sp':=
 ⟨λvs H Q E q=>F.len vs H Q E (h _ _ _ _ q),λA outer s H args us vs Q E hr he hb hv hs=>F.run A outer s H args us vs Q E hr he hb hv (h _ _ _ _ hs)⟩
def Env0.make {P:Program}{w:World}{K:W.Frag}{mg:Yc}{base:Heap}{A:Around}{outer:List Env}{s:Shared}{H:Hp}(e:Env0 P w K mg base A outer s H)(C:Addr)(us:Yd)(kw:List (Str×Value)):
 Env0 P w K mg base (A.under (.builtin "type.__call__" ⟨.ref C::us,kw⟩)) outer s H:=⟨by first|exact e.frames|(simpa [Around.under,Code.envs,Code.isFrame,pushEnvs] using e.frames),e.mod,e.bs,e.bsz,e.funs,e.frf,e.hok,e.bare⟩
section
variable {X:Cx}{Y:Yb}{Z: St}{H:Hp}{s s':Shared}
def Inv.env0 (I:Inv X Y Z H s):Env0 X.prog X.w X.K X.mg X.base X.A X.stack s H:=
 ⟨I.ok.frames,I.ok.mod,I.bs,Zh I.ok.bsz I.sz,I.stack,I.stkFree,I.hok,I.bare⟩
def Inv.after {Q:VK}{u:Value}(I:Inv X Y Z H s)(h:CE X.stack X.prog X.w H s Q u s'):EP X Y Z Q u s':=by
 obtain⟨v,H',os,bare,un,hok,r,q⟩:=h;obtain⟨hh,g,d,t,os'⟩:=s';obtain rfl:os'=s.os:=os;exact⟨v,H',I.call (h':=hh) (g':=g) (d':=d) (t':=t) (ch:=[]) un hok bare (λb z=>Zn z (by simp)),r,q⟩
end
def El (sp:Sp)(dvs:Yw)(E:XK)(t:TA):TE:=λZ H Q=>t Z H λvs H1=>sp (vs++dvs) H1 Q E
def tMake (C:Addr)(sp:Sp)(dvs:Yw)(E:XK)(t:TA):TE:=λZ H Q=>t Z H λvs H1=>∀x dx,H1 x=none->H1 dx=none->dx≠x ->
 sp (.ref x::(vs++dvs)) (upd (upd H1 dx (.own x)) x (.ins C dx [])) (λv H2=>v=.non/\Q (.ref x) H2) E
def zgd (K:W.Frag)(fd:FuncData)(ps:Yh)(ds:Yd):Prop:=
 ∀(s:Shared) (us:Yd),K.In s.heap->(us++ds).length=ps.length->BindsTo s fd ⟨us,[]⟩ (ps.zip (us++ds))
def zgd.all {K:W.Frag}{fd:FuncData}{ps:Yh}(h:∀us:Yd,us.length=ps.length->bindArgs fd ⟨us,[]⟩=pure (ps.zip us)):zgd K fd ps []:=λs us _ hl=>by
 rw[ZA] at hl ⊢;exact .of_eq (h us hl)
def X9 (CX:CXT)(X:Cx)(E:XK):Prop:=∀(Y:Yb) (Z: St) (H:Hp) (s:Shared) (e:Value) (s':Shared),Inv X Y Z H s->CX X.stack H s E e s'->X.xe e s'
section
variable {X:Cx}{CX:CXT}{k:Nat}{f C:Addr}{fd:FuncData}{ps:Yh}{sp:Sp}{dvs:Yw}{ds:Yd}{E:XK}{x m:Str}{p pos apos:Pos}{e o:Expr}{es:Yj}{ta:TE}{t:TA}
def Ml {Y:Yb}{Z: St}{H:Hp}{s:Shared}{Q:VK}{us:Yd}{vs:Yw}(F:FnOk X.prog X.w X.K X.mg X.base CX k f fd ps sp)(hr:Room k X.A)(hb:zgd X.K fd ps ds)(hd:Vals dvs ds)(hx:X9 CX X E)
 (I:Inv X Y Z H s) (r:Vals vs us) (h:sp (vs++dvs) H Q E):YA X (call (.ref f) us) (EP X Y Z Q) X.xe s:=by
 have r2:Vals (vs++dvs) (us++ds):=r.append hd;have hl:(us++ds).length=ps.length:=by rw[<- r2.length];exact F.len _ _ _ _ h
 refine wpAny_call (codeAny_mono (F.run X.A X.stack s H ⟨us,[]⟩ (us++ds) (vs++dvs) Q E hr I.env0 (hb s us I.kIn hl) r2 h) λr s' hq=>?_);cases r with
 |error e=>exact hx Y Z H s e s' I hq
 |ok fl =>
  cases fl with
  |ret u=>exact I.after hq
  |next=>exact False.elim hq
  |brk=>exact False.elim hq
  |cont=>exact False.elim hq
def Mm (F:FnOk X.prog X.w X.K X.mg X.base CX k f fd ps sp)(hr:Room k X.A)(hg:Gl X x)(hm:X.mg x=some (.ref f))(hk:W.keepIn X.K (.ref f)=true)(hb:zgd X.K fd ps ds)(hd:Vals dvs ds)(hx:X9 CX X E)
 (ha:PA X (e::es) t) (hdb:(x == ("__debug__" : Str))=false:=by decide) (he:starEach (e::es) X.env=(false,eval e X.env)::starEach es X.env:=by rfl) (hpl:(backTo pos (starEach es X.env)).any (·.1)=false:=by rfl):
 PE X (.Call (.Name x p) (e::es) [] pos) (El sp dvs E t):=by
 intro Y s Z H Q I h;refine wpAny_Call_Name_kw (Bz I hg hm ?_ hdb);refine W.callWith_K (h₀:=X.base) I.ok.mod.kin hk (thn (ha pos Y s Z H _ I h) λus s1 ⟨vs,H1,I1,r,q⟩=>⟨I1.kIn,?_⟩) he hpl;exact Ml F hr hb hd hx I1 r q
structure Mk (K:W.Frag)(C f:Addr):Prop where
 makes:W.makesIn K C=true
 init:W.findIn K (.ref C) "__init__" = some (some (.ref f))
 fn:W.isFn K (.ref f)=true
 kp:W.keepIn K (.ref C)=true
def Mn {Y:Yb}{Z: St}{H:Hp}{s:Shared}{Q:VK}{us:Yd}{vs:Yw}(M:Mk X.K C f)(F:FnOk X.prog X.w X.K X.mg X.base CX k f fd ps sp)(hr:Room (k+1) X.A)(hb:zgd X.K fd ps ds)(hd:Vals dvs ds)
 (hx:X9 CX X E) (I:Inv X Y Z H s) (r:Vals vs us)
 (h:∀x dx,H x=none->H dx=none->dx≠x->sp (.ref x::(vs++dvs)) (upd (upd H dx (.own x)) x (.ins C dx [])) (λv H2=>v=.non/\Q (.ref x) H2) E):
 YA X (call (.ref C) us) (EP X Y Z Q) X.xe s:=by
 have hq:=h (s.heap.objs.size+1) s.heap.objs.size (I.hok.fresh (Vd _)) (I.hok.fresh (Zf _)) (Zi (Vm _));have I2:=Inv.made (C:=C) I;have r2:Vals (V.ref (s.heap.objs.size+1)::(vs++dvs)) (Value.ref (s.heap.objs.size+1)::(us++ds)):=.cons rfl (r.append hd);have hl:(Value.ref (s.heap.objs.size+1)::us++ds).length=ps.length:=by
  have e:=r2.length;rw[F.len _ _ _ _ hq] at e;exact e.symm
 refine wpAny_call (LY (f:=f) I.kIn M.makes M.init (Yo.mp M.fn) (codeAny_mono (F.run _ X.stack _ _ ⟨Value.ref (s.heap.objs.size+1)::us,[]⟩ (Value.ref (s.heap.objs.size+1)::(us++ds)) _ _ E (hr.make C us [])
  (I2.env0.make C us []) (hb _ (Value.ref (s.heap.objs.size+1)::us) I2.kIn hl) r2 hq) λr s' hq'=>?_))
 cases r with
 |error e=>exact hx Y Z _ _ e s' I2 hq'
 |ok fl =>
  cases fl with
  |ret u =>
   obtain⟨v,H',I3,rv,ev,q3⟩:=I2.after hq';subst ev;exact⟨rv,⟨V.ref (s.heap.objs.size+1),H',I3,rfl,q3⟩⟩
  |next=>exact False.elim hq'
  |brk=>exact False.elim hq'
  |cont=>exact False.elim hq'
def Mo (M:Mk X.K C f)(F:FnOk X.prog X.w X.K X.mg X.base CX k f fd ps sp)(hr:Room (k+1) X.A)(hg:Gl X x)(hm:X.mg x=some (.ref C))(hb:zgd X.K fd ps ds)(hd:Vals dvs ds)(hx:X9 CX X E)
 (ha:PA X (e::es) t) (hdb:(x == ("__debug__" : Str))=false:=by decide) (he:starEach (e::es) X.env=(false,eval e X.env)::starEach es X.env:=by rfl) (hpl:(backTo pos (starEach es X.env)).any (·.1)=false:=by rfl):
 PE X (.Call (.Name x p) (e::es) [] pos) (tMake C sp dvs E t):=by
 intro Y s Z H Q I h;refine wpAny_Call_Name_kw (Bz I hg hm ?_ hdb);refine W.callWith_K (h₀:=X.base) I.ok.mod.kin M.kp (thn (ha pos Y s Z H _ I h) λus s1 ⟨vs,H1,I1,r,q⟩=>⟨I1.kIn,?_⟩) he hpl;exact Mn M F hr hb hd hx I1 r q
end
structure FnScope (N P:Yh)(sc:Scope):Prop where
 kind:sc.kind=.function
 co:sc.isCoroutine=false
 gen:sc.isGenerator=false
 nd:N.Nodup
 pre:N.take P.length=P
 par:∀x∈P,sc.names.lookup x=some .local\/sc.names.lookup x=some .cell
 nofree:∀y∈sc.names,y.2 ≠ .free
theorem Em {kindOf:Str->Option NameKind}{x:Str}:∀{binds:List (Str×Value)} {m:Yc},(∀v,(x,v)∉binds)->bindL kindOf binds m x=m x
 | [],_,_=>rfl
 | (n,v)::r,m,h=>by
  unfold bindL;rw[Em λw hw=>h w (Zqm _ hw)]
  split
  .have:x≠n:=by rintro rfl;exact h v Zqs
   simp[this]
  .rfl
theorem En {kindOf:Str->Option NameKind}{x:Str}:∀{binds:List (Str×Value)} {m:Yc},(∀v,(x,v)∉binds)->bindC kindOf binds m x=m x
 | [],_,_=>rfl
 | (n,v)::r,m,h=>by
  unfold bindC;rw[En λw hw=>h w (Zqm _ hw)]
  split
  .rfl
  .have:x≠n:=by rintro rfl;exact h v Zqs
   simp[this]
theorem Eo {kindOf:Str->Option NameKind}{x:Str}{v:Value}:∀{P:Yh} {vs:Yd} {i:Nat} {m:Yc},P.Nodup->P[i]? = some x->vs[i]? = some v->kindOf x=some .local ->
 bindL kindOf (P.zip vs) m x=some v
 | [],_,_,_,_,h,_,_=>by simp at h
 |_::_,[],_,_,_,_,h,_=>by simp at h
 |p::P,w::vs,0,m,nd,h1,h2,hk=>by
  simp at h1 h2;subst h1;subst h2;show bindL kindOf ((p,w)::P.zip vs) m p=_;unfold bindL;rw[Em λv hv=>(Jh.mp nd).1 (List.of_mem_zip hv).1,Zd hk];simp
 |p::P,w::vs,i+1,m,nd,h1,h2,hk=>by
  show bindL kindOf ((p,w)::P.zip vs) m x=_;unfold bindL;exact Eo (i:=i) (Jh.mp nd).2 (by simpa using h1) (by simpa using h2) hk
theorem Ep {kindOf:Str->Option NameKind}{x:Str}{v:Value}:∀{P:Yh} {vs:Yd} {i:Nat} {m:Yc},P.Nodup->P[i]? = some x->vs[i]? = some v->kindOf x≠some .local ->
 bindC kindOf (P.zip vs) m x=some v
 | [],_,_,_,_,h,_,_=>by simp at h
 |_::_,[],_,_,_,_,h,_=>by simp at h
 |p::P,w::vs,0,m,nd,h1,h2,hk=>by
  simp at h1 h2;subst h1;subst h2;show bindC kindOf ((p,w)::P.zip vs) m p=_;unfold bindC;rw[En λv hv=>(Jh.mp nd).1 (List.of_mem_zip hv).1,Ze hk];simp
 |p::P,w::vs,i+1,m,nd,h1,h2,hk=>by
  show bindC kindOf ((p,w)::P.zip vs) m x=_;unfold bindC;exact Ep (i:=i) (Jh.mp nd).2 (by simpa using h1) (by simpa using h2) hk
def start (N:Yh)(vs:Yw):St:=vs.map some++List.replicate (N.length-vs.length) none
def cxOf (CX:CXT)(P:Program)(w:World)(K:W.Frag)(mg:Yc)(base:Heap)(N:Yh)(qual:Str)(scope:Scope)(f:Addr)(cd:Value)(A:Around)(outer:List Env)(s:Shared)(H:Hp)(E:XK):Cx where
 prog:=P
 w:=w
 K:=K
 mg:=mg
 base:=base
 A:=A.deeper (envOfC qual scope s.heap.objs.size f cd)
 N:=N
 s₀:=s
 H₀:=H
 env:=envOfC qual scope s.heap.objs.size f cd
 outer:=outer
 stack:=envOfC qual scope s.heap.objs.size f cd::outer
 ex:=[]
 calm:=true
 fn:=λ_=>true
 pn:=[]
 xe:=λe s'=>wpAny (model P w) (A.deeper (envOfC qual scope s.heap.objs.size f cd)) (leaving (envOfC qual scope s.heap.objs.size f cd) e) (λ_ s''=>CX outer H s E e s'') (λe' s''=>CX outer H s E e' s'') s'
def Er {sc:Scope}{n:Nat}{x:Str}(h:sc.names.lookup x=some .cell):∃c,(cellsFrom n sc.names []).lookup x=some c:=by
 have q:=W.cellsFrom_some sc.names n [] (.inl h);exact Jo.mp q
def Mp {CX:CXT}{P:Program}{w:World}{K:W.Frag}{mg:Yc}{base:Heap}{N ps:Yh}{qual:Str}{scope:Scope}{f:Addr}{cd:Value}{A:Around}{outer:List Env}{s s1:Shared}{H:Hp}{E:XK}{us:Yd}{vs:Yw}
 (S:FnScope N ps scope) (hd:A.handled=none) (e0:Env0 P w K mg base A outer s H) (hl:vs.length=ps.length) (r:Vals vs us)
 (x:InCallC s s.heap.objs.size (bindL (envOfC qual scope s.heap.objs.size f cd).kindOf (ps.zip us) λ_=>none) (cellsFrom (s.heap.objs.size+1) scope.names []) (bindC (envOfC qual scope s.heap.objs.size f cd).kindOf (ps.zip us) λ_=>none) s1):
 Inv (cxOf CX P w K mg base N qual scope f cd A outer s H E) [] (start N vs) H s1:=by
 have hpl:ps.length<=N.length:=by have:=Zt List.length S.pre;rw[Uj] at this;omega
 obtain⟨h1,tk,rfl,hk⟩:=x.done;have noA:∀b:Addr,b∉(cxOf CX P w K mg base N qual scope f cd A outer s H E).ex:=λb z=>Zn (show b∈([]:Yi) from z) (by simp);refine⟨⟨e0.mod,S.kind,rfl,rfl,Zf _,λy z c h1 h2=>?_,λy hy=>?_,λy c _ h=>?_,λ_=>hd,Around.frames_deeper e0.frames,.inr ⟨rfl,rfl⟩,λb z=>Zn z (noA b),e0.bs,e0.bsz,λb _ _=>noA b,λb z=>Zn z (noA b),e0.funs,e0.frf⟩,
  rfl,e0.bare,Un.kept hk,⟨_,x.toInCall.ns,λi y v h1 h2 h3=>?_⟩,λy c h=>⟨_,x.cell y c h⟩,e0.hok.fresh (Zf _),λy c h=>?_,λp hp=>Zn (show p∈([]:Yb) from hp) (by simp),e0.hok.kept hk,?_⟩
 .exact name_of_addr x.apart (PySem.mem_of_lookup h1) (PySem.mem_of_lookup h2)
 .have hy:scope.names.lookup y=some .cell\/scope.names.lookup y=some .free:=hy;rcases hy with hy|hy
  .exact Er hy
  .exact Zn rfl (S.nofree _ (PySem.mem_of_lookup hy))
 .exact Zz (x.above y c (PySem.mem_of_lookup h))
 .have hi:i<vs.length:=by
   unfold start at h2;by_cases hi:i<vs.length
   .exact hi
   .rw[Ve (by simpa using hi)] at h2;rw[List.getElem?_replicate] at h2
    split at h2<;>cases h2
  have ha:vs[i]? = some v:=by
   unfold start at h2;rw[Vf (by simpa using hi),Zv] at h2;cases e:vs[i]? with
   |none=>rw[e] at h2;cases h2
   |some a=>rw[e] at h2;cases h2;rfl
  obtain⟨u,hu,rv⟩:=r.get ha;have hp:ps[i]? = some y:=by
   rw[<- S.pre,List.getElem?_take_of_lt ()];exact h1
  have ndP:ps.Nodup:=by rw[<- S.pre];exact S.nd.sublist (VH _ _)
  refine⟨u,rv,?_⟩;rcases S.par y (Ud hp) with k|k
  .exact .inl ⟨k,Eo ndP hp hu k⟩
  .obtain⟨c,e⟩:=Er (n:=s.heap.objs.size+1) k;refine .inr ⟨.inl k,c,e,?_⟩;have q:=x.cell y c e;rw[Ep ndP hp hu (by show scope.names.lookup y≠_;rw[k];decide)] at q;exact q
 .exact e0.hok.fresh (Zz (x.above y c (PySem.mem_of_lookup h)))
 .unfold start;show _=N.length;rw[Ub,Zql,List.length_replicate];omega
def fn_of {CX:CXT}{P:Program}{w:World}{K:W.Frag}{mg:Yc}{base:Heap}{k:Nat}{f:Addr}{name qual:Str}{params:Arguments}{body:List Stmt}{scope:Scope}{dV kV doc pm cdv ct oc:Value}{an od:Option Addr}
 {osl:Array (Option Value)} {N ps:Yh} {sp:Sp} (lk:K.lookup f=some ⟨oc,od,.func (W.fnOf name qual params body scope dV kV doc pm an cdv ct),osl⟩) (hcd:W.codeIn K cdv qual=true) (S:FnScope N ps scope)
 (len:∀vs H Q E,sp vs H Q E->vs.length=ps.length)
 (hbody:∀(A:Around) (outer:List Env) (s:Shared) (H:Hp) (vs:Yw) (Q:VK) (E:XK),Room k (A.deeper (envOfC qual scope s.heap.objs.size f cdv))->sp vs H Q E ->
  ∃t,PSs (cxOf CX P w K mg base N qual scope f cdv A outer s H E) body t/\t { nx:=λ_ H'=>Q .non H',rt:=Q } (start N vs) H):
 FnOk P w K mg base CX (k+1) f (W.fnOf name qual params body scope dV kV doc pm an cdv ct) ps sp:=by
 refine⟨len,λA outer s H args us vs Q E hr e0 hb r hsp=>?_⟩;have hl:=len _ _ _ _ hsp;have KX:K.In s.heap:=e0.mod.kin.keeps λb o e=>(e0.bs b o e).1;have lim:s.heap.NoLimit:=e0.mod.nolimit.keeps λb o e=>(e0.bs b o e).1;have hkind:∀y∈ps.zip us,scope.names.lookup y.1=some .local\/(scope.names.lookup y.1=some .cell/\((cellsFrom (s.heap.objs.size+1) scope.names []).lookup y.1).isSome=true):=λ⟨n,v⟩ hy=>by
  rcases S.par n (List.of_mem_zip hy).1 with q|q
  .exact .inl q
  .exact .inr ⟨q,W.cellsFrom_some _ _ _ (.inl q)⟩
 refine codeAny_call_function hr.depth (KX _ _ lk) rfl S.co S.gen rfl (W.codeRec_of KX hcd) (hb _ _ _ _ ?_);refine wpAny_newFunctionEnv_cells S.kind hkind λenv he s1 x=>?_;subst he;refine⟨lim.keeps x.toInCall.keep,codeAny_func ?_⟩;obtain⟨t,ht,hq⟩:=hbody A outer s H vs Q E (hr.deeper _) hsp;have I:Inv (cxOf CX P w K mg base N qual scope f cdv A outer s H E) [] (start N vs) H s1:=Mp S hr.hd e0 hl r x;refine Zc (ht [] s1 (start N vs) H _ I hq) (λfl s' hs=>?_) λe s' hs=>hs;have fin:∀{Z':St} {H':Hp} {v:V} {u:Value},Inv (cxOf CX P w K mg base N qual scope f cdv A outer s H E) [] Z' H' s'->RelV v u->Q v H'->CE outer P w H s Q u s':=
  λ{Z' H' v u} J rv q=>⟨v,H',J.os,J.bare,J.base,J.hok,rv,q⟩
 cases fl with
 |ret u =>
  obtain⟨v,Z',H',J,rv,q⟩:=hs;exact fin J rv q
 |next =>
  obtain⟨Z',H',J,q⟩:=hs;exact fin (v:=V.non) (u:=Value.none) J rfl q
 |brk =>
  obtain⟨_,_,_,q⟩:=hs;exact False.elim q
 |cont =>
  obtain⟨_,_,_,q⟩:=hs;exact False.elim q
section
variable {X:Cx}{x:Str}{p pos:Pos}{e:Expr}{es:Yj}{t:TA}{id T:String}{r:Yw->Hp->VK->Prop}
def tCB (r:Yw->Hp->VK->Prop)(t:TA):TE:=λZ H Q=>t Z H λvs H1=>r vs H1 Q
def XA (hc:za1 X (.builtin id) r)(hg:Gl X x)(hm:X.mg x=none)(hv:bootBuiltins x=some (.builtin id))(ha:PA X (e::es) t)(hn:x ≠ "__name__" := by decide)(hdb:(x == ("__debug__" : Str))=false:=by decide)
 (he:starEach (e::es) X.env=(false,eval e X.env)::starEach es X.env:=by rfl) (hpl:(backTo pos (starEach es X.env)).any (·.1)=false:=by rfl):PE X (.Call (.Name x p) (e::es) [] pos) (tCB r t):=by
 intro Y s Z H Q I h;refine wpAny_Call_Name_kw (WT I hg hm hv ?_ hn hdb);exact PyProof.Rows.callWith_builtin1 (thn (ha pos Y s Z H _ I h) λus s1 ⟨vs,H1,I1,r1,q1⟩=>hc Y s1 Z H1 vs us Q I1 r1 q1) he hpl
def ZR (hc:za1 X (.type T) r)(hg:Gl X x)(hm:X.mg x=none)(hv:bootBuiltins x=some (.type T))(ha:PA X (e::es) t)(hn:x ≠ "__name__" := by decide)(hdb:(x == ("__debug__" : Str))=false:=by decide)
 (he:starEach (e::es) X.env=(false,eval e X.env)::starEach es X.env:=by rfl) (hpl:(backTo pos (starEach es X.env)).any (·.1)=false:=by rfl):PE X (.Call (.Name x p) (e::es) [] pos) (tCB r t):=by
 intro Y s Z H Q I h;refine wpAny_Call_Name_kw (WT I hg hm hv ?_ hn hdb);exact PyProof.Rows.callWith_type1 (thn (ha pos Y s Z H _ I h) λus s1 ⟨vs,H1,I1,r1,q1⟩=>hc Y s1 Z H1 vs us Q I1 r1 q1) he hpl
end
end L2
namespace HT
open PySem PyProof.Rows
def lexLt:Ye->List Int->Bool
 | [],[]=>false
 | [],_::_=>true
 |_::_,[]=>false
 |x::xs,y::ys=>if x=y then lexLt xs ys else decide (x<y)
def lexLt_cons (x y:Int)(xs ys:Ye):lexLt (x::xs) (y::ys)=if x=y then lexLt xs ys else decide (x<y):=rfl
def lexLt_nil_nil:lexLt [] []=false:=rfl
def Mq (y:Int)(ys:Ye):lexLt [] (y::ys)=true:=rfl
def Mr (x:Int)(xs:Ye):lexLt (x::xs) []=false:=rfl
def Ms (A:Around)(s:Shared)(a:Int)(t:Tok)(c:Int)(u:Tok):∃e,SeqAt.EqAt A s (.int a t) (.int c u) e/\(e=true↔a=c):=
 ⟨(a == c),SeqAt.EqAt.int_int a t c u,by simp⟩
def Mt (A:Around)(s:Shared)(a:Int)(t:Tok)(c:Int)(u:Tok)(prog:Program)(w:World)(E:Ya)(Q:Ya)(h:Q (.bool (decide (a<c))) s):
 YB prog w A (richCompare .Lt (.int a t) (.int c u)) Q E s:=
 (PyProof.Rows.lt_int h:YB prog w A (compareOp .Lt (.int a t) (.int c u)) Q E s)
section
open PySem.SeqAt
open PySem.AutoSeq1 (wpAny_loadPart')
open PySem.MeetsSeq PySem.MeetsSeq2 PySem.MeetsSeq3
def Mu (l b:Addr)(items items2:Yk)(n n2:Nat)(dd dd2:Option Addr)(sl sl2:Array (Option Value))(ns ms:Ye)(hi:IntsAre items.toList ns)(hj:IntsAre items2.toList ms):
 Meets (Builtin.«tuple.__lt__» ⟨[.ref l,.ref b],[]⟩)
  (λ_ R s=>s.heap.get? l=some { cls:=.type "tuple",dict:=dd,data:=.seq items n,slots:=sl }/\s.heap.get? b=some { cls:=.type "tuple",dict:=dd2,data:=.seq items2 n2,slots:=sl2 } /\
   R (.ok (.ret (.bool (lexLt ns ms)))) s):=
 .of_wp λprog w A R s h=>by
  obtain⟨hp,g,d,tk,os⟩:=s;obtain⟨hl,hb,h⟩:=h;have f2:=AutoSeq1.sub_tuple_tuple;have z1:items.size=ns.length:=by rw[<- hi.length];simp
  have z2:items2.size=ms.length:=by rw[<- hj.length];simp
  wp_walk using wpAny_loadPart' hl,wpAny_loadPart' hb,wpAny_forIn_list _ (λrest b s'=>b.1=none/\s'=⟨hp,g,d,tk,os⟩/\∃(vs ws:Yd) (ns' ms':Ye),rest=vs.zip ws /\
   IntsAre vs ns'/\IntsAre ws ms'/\ns'.length+items2.size=ms'.length+items.size/\R (.ok (.ret (.bool (lexLt ns' ms')))) ⟨hp,g,d,tk,os⟩) _
  case turn =>
   rintro⟨y,x⟩ rest b s' ⟨hb',rfl,vs,ws,ns',ms',hz,hvi,hwi,hlen,hR⟩;cases hvi with
   |nil=>rw[List.zip_nil_left] at hz;cases hz
   |cons a t hvi' =>
    cases hwi with
    |nil=>rw[List.zip_nil_right] at hz;cases hz
    |cons c u hwi' =>
     rw[U5] at hz;injection hz with hyx hrest
     injection hyx with hy hx
     subst hy hx;rw[lexLt_cons] at hR;simp only[Zu] at hlen;obtain⟨e,he,hiff⟩:=Ms A.in1 ⟨hp,g,d,tk,os⟩ a t c u;refine Za (he prog w _ _ ?_);cases e with
     |true =>
      rw[Zd (hiff.mp rfl)] at hR
      wp_walk
      exact⟨rfl,rfl,_,_,_,_,hrest,hvi',hwi',(),hR⟩
     |false =>
      rw[Ze (λq=>Zn (hiff.mpr q) Zj)] at hR;have hri:=Mt A.in1 ⟨hp,g,d,tk,os⟩ a t c u prog w
      wp_walk using hri
      exact⟨_,rfl,by simpa using hR⟩
  case fin =>
   rintro⟨b1,b2⟩ s' ⟨hb',rfl,vs,ws,ns',ms',hz,hvi,hwi,hlen,hR⟩;simp only at hb';subst hb';have hv:lexLt ns' ms'=decide (items.size<items2.size):=by
    cases hvi with
    |nil =>
     cases hwi with
     |nil =>
      simp only[ZC] at hlen;rw[lexLt_nil_nil];exact(Zo ()).symm
     |cons c u hw =>
      simp only[ZC,Zu] at hlen;rw[Mq];exact(Zp ()).symm
    |cons a t hv =>
     cases hwi with
     |nil =>
      simp only[ZC,Zu] at hlen;rw[Mr];exact(Zo ()).symm
     |cons c u hw =>
      rw[U5] at hz;cases hz
   rw[hv] at hR
   wp_walk
   exact⟨_,rfl,by simpa [Builtin.Tuple.tupleCompareSizes] using hR⟩
  case h =>
   exact⟨rfl,rfl,items.toList,items2.toList,ns,ms,rfl,hi,hj,(),h⟩
end
section
variable {prog:Program}{w:World}{A:Around}{E:Ya}{s:Shared}
def lt_tupInts {l b:Addr}{items items2:Yk}{ns ms:Ye}{Q:Ya}(hl:IsTup s.heap l items)(hb:IsTup s.heap b items2)(hi:IntsAre items.toList ns)(hj:IntsAre items2.toList ms)
 (hu:A.units<cLine) (h:Q (.bool (lexLt ns ms)) s):YB prog w A (compareOp .Lt (.ref l) (.ref b)) Q E s:=by
 obtain⟨⟨cls,dd,data,sl⟩,ho,hc,n,hd⟩:=id hl;obtain⟨⟨cls2,dd2,data2,sl2⟩,ho2,hc2,n2,hd2⟩:=id hb;simp only at hc hd hc2 hd2;subst hc hd hc2 hd2;exact richCompare_meets_room (op:=.Lt) ⟨_,ho,rfl⟩ ⟨_,ho2,rfl⟩ PySem.F.slot_tuple_lt PySem.F.entry_tuple_lt (PySem.F.args_tuple_lt_2 _ _) (Mu l b items items2 n n2 dd dd2 sl sl2 ns ms hi hj)
  ⟨ho,ho2,show Value.bool (lexLt ns ms)≠Value.notImplemented/\Q (.bool (lexLt ns ms)) s from ⟨(λx=>nomatch x),h⟩⟩ hu
def cat_tup {t b:Addr}{vs ws:Yd}{Q:Ya}(ht:IsTup s.heap t vs.toArray)(hb:IsTup s.heap b ws.toArray)(hv:vs ≠ [])
 (h1:ws=[]->Q (.ref t) s) (h2:ws ≠ []->Q (.ref s.heap.objs.size) { s with heap:=s.heap.push { cls:=.type "tuple",data:=.seq (vs++ws).toArray } })
 (hsz:vs.length+ws.length<=sizeLine):YB prog w A (binaryOp .Add (.ref t) (.ref b)) Q E s:=by
 obtain⟨⟨cls,dd,data,sl⟩,ho,hc,n,hd⟩:=id ht;obtain⟨⟨cls2,dd2,data2,sl2⟩,ho2,hc2,n2,hd2⟩:=id hb;simp only at hc hd hc2 hd2;subst hc hd hc2 hd2;have e:vs.toArray++ws.toArray=(vs++ws).toArray:=by simp
 by_cases hw:ws=[]
 .exact concat_meets ⟨_,ho,rfl⟩ ⟨_,ho2,rfl⟩ noFill_tuple_add seq_tuple_add PySem.F.slot_tuple_add PySem.F.entry_tuple_add (PySem.F.args_tuple_add_2 _ _)
   (tuple_addW1 t b vs.toArray ws.toArray n n2 dd dd2 sl sl2 (by simpa using hv) (by simp[hw])) ⟨ho,ho2,h1 hw⟩
 .refine concat_meets ⟨_,ho,rfl⟩ ⟨_,ho2,rfl⟩ noFill_tuple_add seq_tuple_add PySem.F.slot_tuple_add PySem.F.entry_tuple_add (PySem.F.args_tuple_add_2 _ _)
   (tuple_addW2 t b vs.toArray ws.toArray n n2 dd dd2 sl sl2 (by simpa using hv) (by simpa using hw) (by rw[Zm,Zm];exact hsz)) ⟨ho,ho2,?_⟩
  rw[e];exact h2 hw
def sIx (n d:Nat):Option Int->Nat
 |none=>d
 |some v=>if v<0 then(v+(n:Int)).toNat else min v.toNat n
end
end HT
namespace L2
abbrev TO:=St->Hp->(Option Int->Hp->Prop)->Prop
def PO (X:Cx)(e:Option Expr)(t:TO):Prop:=
 ∀(Y:Yb) (s:Shared) (Z: St) (H:Hp) (Q:Option Int->Hp->Prop),Inv X Y Z H s->t Z H Q ->
  YA X (evalPart e X.env) (λu s'=>∃o H',Inv X Y Z H' s'/\IsPart u o/\Q o H') X.xe s
def Mv:TO:=λ_ H Q=>Q none H
def tPart (t:TE):TO:=λZ H Q=>t Z H λx H1=>∃i,x=.int i/\Q (some i) H1
def B5 {ns:Ye}:∀{us:Yd},Vals (ns.map V.int) us->IntsAre us ns:=by
 induction ns with
 |nil=>intro us r;rw[Uu] at r;cases r;exact .nil
 |cons n ns ih =>
  intro us r;rw[Zl] at r;cases r with
  |cons r1 r2 =>
   obtain⟨t,e⟩:=r1;subst e;exact .cons n t (ih r2)
section
variable {X:Cx}{e:Expr}{te:TE}{lo hi:Option Expr}{tl th:TO}{pos p2:Pos}
def Mw:PO X none Mv:=by
 intro Y s Z H Q I h;rw[evalPart_none];exact Zb ⟨none,H,I,.none,h⟩
def Mx (h:PE X e te):PO X (some e) (tPart te):=by
 intro Y s Z H Q I hw;rw[evalPart_some];refine thn (h Y s Z H _ I hw) λu s1 ⟨x,H1,I1,r1,q1⟩=>?_;obtain⟨i,rfl,q⟩:=q1;obtain⟨t,rfl⟩:=r1;exact⟨some i,H1,I1,.int i t,q⟩
def rCatT (K:W.Frag):R2:=λx y H Q=>∃a b xs ys,x=.ref a/\y=.ref b/\SqT K H a xs/\SqT K H b ys/\xs ≠ []/\xs.length+ys.length<=sizeLine /\
 (ys=[]->Q (.ref a) H)/\(ys ≠ []->∀p,H p=none->Q (.ref p) (upd H p (.tup (xs++ys))))
def Vals.nil_iff {xs:Yw}{us:Yd}(r:Vals xs us):us=[]↔xs=[]:=by
 cases r with
 |nil=>simp
 |cons _ _=>simp
def Mz:OpR X (binaryOp .Add) (rCatT X.K):=by
 intro Y s Z H x y v u Q I rx ry h;obtain⟨a,b,xs,ys,rfl,rfl,ha,hb,hx,hz,q1,q2⟩:=h;cases rx;cases ry;obtain⟨its,r1,p1,_⟩:=I.tuple ha;obtain⟨its2,r2,p2,_⟩:=I.tuple hb;refine HT.cat_tup p1 p2 (λz=>hx (r1.nil_iff.mp z)) (λz=>⟨.ref a,H,I,rfl,q1 (r2.nil_iff.mp z)⟩) (λz=>?_) (by rw[<- r1.length,<- r2.length];exact hz);refine⟨.ref s.heap.objs.size,_,I.laid (t':=s.toks) (o:=.tup (xs++ys)) (λb ob q=>Zq _ q) (Zf _) ?_,rfl,q2 (λw=>z (r2.nil_iff.mpr w)) _ (I.hok.fresh (Zf _))⟩;exact⟨⟨by rw[Ub];exact hz,⟨_,Zr _ rfl,rfl⟩⟩,_,r1.append r2,IsTup.new _ _⟩
end
def ixN (n:Nat)(i:Int):Option Nat:=if 0<=i then(if i<n then some i.toNat else none) else if -(n:Int)<=i then some (i+n).toNat else none
def atI {α: Type}(xs:List α)(i:Int):Option α:= (ixN xs.length i).bind λj=>xs[j]?
def Es {n:Nat}{i:Int}{j:Nat}(h:ixN n i=some j):seqIndex? i n=some j/\j<n /\ -(n:Int)<=i/\i<n:=by
 unfold ixN at h;by_cases h0:0<=i
 .rw[Zd h0] at h;by_cases h1:i<n
  .rw[Zd h1] at h;have e:i.toNat=j:=Zqi h;exact⟨by rw[seqIndex_of h0 h1,e],(),(),h1⟩
  .rw[Ze h1] at h;cases h
 .rw[Ze h0] at h;by_cases h1: -(n:Int)<=i
  .rw[Zd h1] at h;have e:(i+n).toNat=j:=Zqi h;exact⟨by rw[seqIndex_neg () h1,e],(),h1,()⟩
  .rw[Ze h1] at h;cases h
def B6 {α: Type}{xs:List α}{i:Int}{v:α}(h:atI xs i=some v):∃j,seqIndex? i xs.length=some j/\xs[j]? = some v/\j<xs.length /\ -(xs.length:Int)<=i/\i<xs.length:=by
 unfold atI at h;cases e:ixN xs.length i with
 |none=>rw[e] at h;cases h
 |some j =>
  rw[e] at h;obtain⟨h1,h2,h3,h4⟩:=Es e;exact⟨j,h1,h,h2,h3,h4⟩
def B7 (b:Expr):Prop:=∀o i,subscripted b false o i=operate [o,i] (getItem o i)
def IxR (X:Cx)(r:R2):Prop:=
 ∀(value slice:Expr) (Y:Yb) (s:Shared) (Z: St) (H:Hp) (x y:V) (v u:Value) (Q:VK),Inv X Y Z H s->RelV x v->RelV y u->r x y H Q ->
  subscripted slice false v u=operate [v,u] (getItem v u)->YA X (subscriptTail value slice v u) (EP X Y Z Q) X.xe s
def MtR (X:Cx)(id:String)(r:V->Yw->Hp->VK->Prop):Prop:=
 ∀(Y:Yb) (s:Shared) (Z: St) (H:Hp) (x:V) (xs:Yw) (v:Value) (us:Yd) (Q:VK),Inv X Y Z H s->RelV x v->Vals xs us->r x xs H Q ->
  YA X (call (.builtin id) (v::us)) (EP X Y Z Q) X.xe s
section
variable {X:Cx}{a b:Expr}{ta tb:TE}{pos:Pos}
def IxR.or {r r':R2}(h:IxR X r)(h':IxR X r'):IxR X (λx y H Q=>r x y H Q\/r' x y H Q):=by
 intro value slice Y s Z H x y v u Q I rx ry q hs;rcases q with q|q
 .exact h value slice Y s Z H x y v u Q I rx ry q hs
 .exact h' value slice Y s Z H x y v u Q I rx ry q hs
def Et {r:R2}(hr:IxR X r)(ha:PE X a ta)(hb:PE X b tb)(hs:B7 b):PE X (.Subscript a b pos) (tOp r ta tb):=by
 intro Y s Z H Q I h;exact Subscript_ (binT ha hb I h λv u s2 x y H2 I2 rx ry q=>hr a b Y s2 Z H2 x y v u Q I2 rx ry q (hs _ _))
def rIxL (K:W.Frag):R2:=λx y H Q=>∃p xs i v,x=.ref p/\y=.int i/\SqL K H p xs/\atI xs i=some v/\Q v H
def rIxT (K:W.Frag):R2:=λx y H Q=>∃p xs i v,x=.ref p/\y=.int i/\SqT K H p xs/\atI xs i=some v/\Q v H
def rIxS:R2:=λx y H Q=>∃z i c,x=.str z/\y=.int i/\z.length<=sizeLine/\atI z.cps.toList i=some c/\Q (.str ⟨#[c]⟩) H
def zly:IxR X (rIxL X.K):=by
 intro value slice Y s Z H x y v u Q I rx ry h hs;obtain⟨p,xs,i,z,rfl,rfl,hq,he,q⟩:=h;cases rx;obtain⟨t,rfl⟩:=ry;obtain⟨its,r,pl,hz⟩:=I.list hq;obtain⟨j,h1,h2,h3,h4,h5⟩:=B6 he;obtain⟨w,ew,rw'⟩:=r.get h2;have hl:=r.length;have hn:=WU;have fin:EP X Y Z Q w s:=⟨z,H,I,rw',q⟩;by_cases h0:0<=i
 .have hj:i.toNat=j:=by
   rw[seqIndex_of h0 h5] at h1;exact Zqi h1
  exact item_listR pl.isList h0 () (by rw[hj];simpa using ew) fin hs
 .have hj:(i+(its.toArray.size:Int)).toNat=j:=by
   rw[seqIndex_neg () h4] at h1;rw[Zm,<- hl];exact Zqi h1
  exact subscriptTail_builtinR (x:=w) pl.isList.typeIs slot_list_getitem.lookup
   (wpAny_getItem_list_neg (Q:=λr s'=>r=w/\EP X Y Z Q r s') pl.isList () (by rw[Zm]<;>omega) () (by rw[hj];simpa using ew) ⟨rfl,fin⟩) hs
def zvC:IxR X (rIxT X.K):=by
 intro value slice Y s Z H x y v u Q I rx ry h hs;obtain⟨p,xs,i,z,rfl,rfl,hq,he,q⟩:=h;cases rx;obtain⟨t,rfl⟩:=ry;obtain⟨its,r,pl,hz⟩:=I.tuple hq;obtain⟨j,h1,h2,h3,h4,h5⟩:=B6 he;obtain⟨w,ew,rw'⟩:=r.get h2;have hl:=r.length;have hn:=WU;have fin:EP X Y Z Q w s:=⟨z,H,I,rw',q⟩;exact subscriptTail_builtinR (x:=w) pl.typeIs slot_tuple_getitem.lookup
  (getItem_tuple (j:=j) (Q:=λr s'=>r=w/\EP X Y Z Q r s') pl () () (by rw[Zm,<- hl];exact h1) (by simpa using ew) ⟨rfl,fin⟩) hs
def M0:IxR X rIxS:=by
 intro value slice Y s Z H x y v u Q I rx ry h hs;obtain⟨z,i,c,rfl,rfl,hz,he,q⟩:=h;obtain⟨t,rfl⟩:=rx;obtain⟨t',rfl⟩:=ry;obtain⟨j,h1,h2,h3,h4,h5⟩:=B6 he;have hl:z.cps.toList.length=z.length:=by simp[Str.length]
 rw[hl] at h1 h4 h5;have hn:=WU;exact tail_any (typeIs_str s z t) slot_str_getitem.lookup (getItem_str (c:=c) (by
  have e1:decide (i < -(2 ^ 63:Int))=false:=Zo ();have e2:decide (i ≥ 2 ^ 63)=false:=Zo ();rw[e1,e2,Bool.or_false]) (by rw[h1];simpa using h2) ⟨.str ⟨#[c]⟩,H,I.tok _,⟨_,rfl⟩,q⟩) hs
def rIx (K:W.Frag):R2:=λx y H Q=>rIxL K x y H Q\/rIxT K x y H Q\/rIxS x y H Q
def M3:IxR X (rIx X.K):=zly.or (zvC.or M0)
def M4 (its:Yd)(n j:Nat)(u:Value):Obj.mapSeq (·.setIfInBounds j u) { cls:=.type "list",data:=.seq its.toArray n }={ cls:=.type "list",data:=.seq (its.set j u).toArray n }:=by
 simp[Obj.mapSeq]
theorem Inv.lst {Y:Yb}{Z: St}{H:Hp}{s:Shared}{p:Addr}{xs:Yw}(I:Inv X Y Z H s)(h:H p=some (.lst xs)):
 ∃(its:Yd) (n:Nat),Vals xs its/\s.heap.get? p=some { cls:=.type "list",data:=.seq its.toArray n }/\xs.length<=sizeLine:=by
 obtain⟨z,its,n,r,e⟩:=I.hok p _ h;exact⟨its,n,r,e,z⟩
def Inv.lstUpd {Y:Yb}{Z: St}{H:Hp}{s:Shared}{p:Addr}{xs ys:Yw}{its its':Yd}{n n':Nat}{f:Obj->Obj}(I:Inv X Y Z H s)(h:H p=some (.lst xs))
 (ho:s.heap.get? p=some { cls:=.type "list",data:=.seq its.toArray n }) (hf:f { cls:=.type "list",data:=.seq its.toArray n }={ cls:=.type "list",data:=.seq its'.toArray n' }) (r:Vals ys its') (hz:ys.length<=sizeLine) (t:Nat):
 Inv X Y Z (upd H p (.lst ys)) { s with heap:=s.heap.update p f,toks:=t }:=by
 have e:(s.heap.update p f).get? p=some { cls:=.type "list",data:=.seq its'.toArray n' }:=by
  rw[Heap.get?_update_self f ho (by rw[hf]<;>rfl),hf]
 refine I.write (x:=p) (e:=p) (by rw[h];trivial) (.inl rfl) (λb u hb q=>(Heap.get?_update_other _ _ (Ne.symm hb)).trans q) ⟨_,e⟩ ?_;exact⟨hz,its',n',r,e⟩
def rSetL:V->V->V->Hp->(Hp->Prop)->Prop:=λo i v H Q=>∃p xs k j,o=.ref p/\i=.int k/\H p=some (.lst xs)/\ixN xs.length k=some j/\Q (upd H p (.lst (xs.set j v)))
def M5:PSet X rSetL:=by
 intro Y s Z H o i v ov iv u Q I ro ri rv h;obtain⟨p,xs,k,j,rfl,rfl,hp,hj,q⟩:=h;cases ro;obtain⟨t,rfl⟩:=ri;obtain⟨its,n,r,ho,hz⟩:=I.lst hp;obtain⟨h1,h2,h3,h4⟩:=Es hj;have hl:=r.length;have hn:=WU;have I':Inv X Y Z (upd H p (.lst (xs.set j v))) { s with heap:=s.heap.update p (Obj.mapSeq (·.setIfInBounds j u)) } :=
  I.lstUpd hp ho (M4 its n j u) (r.set rv j) (by rw[UQ];exact hz) s.toks
 by_cases h0:0<=k
 .have hk:k.toNat=j:=by
   rw[seqIndex_of h0 h4] at h1;exact Zqi h1
  exact W.ki_setAt ho h0 () (by rw[Zm,<- hl];exact h4) (by rw[hk];exact⟨_,I',q⟩)
 .have hk:(k+(its.toArray.size:Int)).toNat=j:=by
   rw[seqIndex_neg () h3] at h1;rw[Zm,<- hl];exact Zqi h1
  exact W.ki_setBack ho () (by rw[Zm,<- hl];exact h3) () (by rw[hk];exact⟨_,I',q⟩)
def M6:za1 X (.builtin "len") (λxs H Q=>∃p ys,xs=[.ref p]/\(SqL X.K H p ys\/SqT X.K H p ys)/\Q (.int ys.length) H):=by
 intro Y s Z H xs us Q I r h;obtain⟨p,ys,rfl,hq,q⟩:=h;obtain⟨u,rfl,rx⟩:=Q7 r;cases rx;have hn:=WU;rcases hq with hq|hq
 .obtain⟨its,r',pl,hz⟩:=I.list hq;have hlen:=r'.length;exact Calls.call_len_list pl.isList (by simp only[Zm]<;>omega) ⟨.int ys.length,H,I.tok _,⟨s.toks+1,by rw[Zm,hlen]⟩,q⟩
 .obtain⟨its,r',pl,hz⟩:=I.tuple hq;have hlen:=r'.length;exact len_tuple pl (by simp only[Zm]<;>omega) ⟨.int ys.length,H,I.tok _,⟨s.toks+1,by rw[Zm,hlen]⟩,q⟩
def M7:za1 X (.builtin "len") (λxs H Q=>∃z,xs=[.str z]/\z.length<=sizeLine/\Q (.int z.length) H):=by
 intro Y s Z H xs us Q I r h;obtain⟨z,rfl,hz,q⟩:=h;obtain⟨u,rfl,t,rfl⟩:=Q7 r;have hn:=WU;exact len_str () ⟨.int z.length,H,I.tok _,⟨_,rfl⟩,q⟩
def za1.or {f:Value}{r r':Yw->Hp->VK->Prop}(h:za1 X f r)(h':za1 X f r'):za1 X f (λxs H Q=>r xs H Q\/r' xs H Q):=by
 intro Y s Z H xs us Q I rs q;rcases q with q|q
 .exact h Y s Z H xs us Q I rs q
 .exact h' Y s Z H xs us Q I rs q
def M8:za1 X (.type "list") (λxs H Q=>∃p ys,xs=[.ref p]/\(SqL X.K H p ys\/SqT X.K H p ys)/\∀l,H l=none->Q (.ref l) (upd H l (.lst ys))):=by
 intro Y s Z H xs us Q I r h;obtain⟨p,ys,rfl,hq,q⟩:=h;obtain⟨u,rfl,rx⟩:=Q7 r;cases rx;have fin:∀(its:Yd),Vals ys its->ys.length<=sizeLine->∀(h':Heap) (c':Nat),(∀b o',s.heap.get? b=some o'->h'.get? b=some o') ->
  h'.get? s.heap.objs.size=some { cls:=.type "list",dict:=none,data:=.seq its.toArray c',slots:=#[] }->EP X Y Z Q (.ref s.heap.objs.size) { s with heap:=h' }:=λits r' hz h' c' kp e =>
  ⟨.ref s.heap.objs.size,_,I.laid (t':=s.toks) kp (Zf _) (show zbj X.prog X.w _ h' _ (.lst ys) from ⟨hz,its,c',r',e⟩),rfl,q _ (I.hok.fresh (Zf _))⟩
 rcases hq with hq|hq
 .obtain⟨its,r',pl,hz⟩:=I.list hq;have hlen:=r'.length;obtain⟨o,ho,hc,n,hd⟩:=pl.isList;exact call_list_seq p (.inl rfl) ho hc hd (λh' c' kp e=>fin its r' hz h' c' kp e) (by simp only[Zm]<;>omega)
 .obtain⟨its,r',pl,hz⟩:=I.tuple hq;have hlen:=r'.length;obtain⟨o,ho,hc,n,hd⟩:=pl;exact call_list_seq p (.inr rfl) ho hc hd (λh' c' kp e=>fin its r' hz h' c' kp e) (by simp only[Zm]<;>omega)
def M9:za1 X (.type "tuple") (λxs H Q=>∃p ys,xs=[.ref p]/\((SqL X.K H p ys/\∀l,H l=none->Q (.ref l) (upd H l (.tup ys)))\/(SqT X.K H p ys/\Q (.ref p) H))):=by
 intro Y s Z H xs us Q I r h;obtain⟨p,ys,rfl,h⟩:=h;obtain⟨u,rfl,rx⟩:=Q7 r;cases rx;rcases h with ⟨hq,q⟩|⟨hq,q⟩
 .obtain⟨its,r',pl,hz⟩:=I.list hq;have hlen:=r'.length;refine call_tuple_list pl.isList (λh' kp=>?_) (by simp only[Zm]<;>omega);have I1:Inv X Y Z H { s with heap:=h' }:=I.kept (t':=s.toks) kp;have I2:Inv X Y Z (upd H h'.objs.size (.tup ys)) { s with heap:=h'.push { cls:=.type "tuple",data:=.seq its.toArray } } :=
   I1.laid (t':=s.toks) (λb o e=>Zq _ e) (Zf _) (show zbj X.prog X.w _ _ _ (.tup ys) from ⟨⟨hz,⟨_,Zr _ rfl,rfl⟩⟩,its,r',IsTup.new _ _⟩)
  exact⟨.ref h'.objs.size,_,I2,rfl,q _ (I1.hok.fresh (Zf _))⟩
 .obtain⟨its,r',pl,hz⟩:=I.tuple hq;exact call_tuple_same pl ⟨.ref p,H,I,rfl,q⟩
def tyV (K:W.Frag)(T:String)(x:V)(H:Hp):Prop:=match x with
 | .str _=>T = "str"
 | .int _=>T = "int"
 | .ref p=>(T = "list" /\ ∃xs,SqL K H p xs)\/(T = "tuple" /\ ∃o,K.lookup p=some o/\o.cls=.type "tuple" /\ o.dict=none) \/
  (T = "dict" /\ ((∃kvs,H p=some (.dK kvs))\/∃kvs,H p=some (.dT kvs)))\/(T = "set" /\ ∃S n,H p=some (.set S n))
 |_=>False
def Eu {Y:Yb}{Z: St}{H:Hp}{s:Shared}{T:String}{x:V}{v:Value}(I:Inv X Y Z H s)(r:RelV x v)(ty:tyV X.K T x H):
 s.TypeIs v T/\∀a,v=.ref a->∃ob,s.heap.get? a=some ob/\ob.dict=none:=by
 cases x with
 |str z =>
  obtain⟨t,rfl⟩:=r;cases (show T = "str" from ty);exact⟨typeIs_str s z t,λ_ e=>nomatch e⟩
 |int i =>
  obtain⟨t,rfl⟩:=r;cases (show T = "int" from ty);exact⟨typeIs_int s i t,λ_ e=>nomatch e⟩
 |ref p =>
  cases r;rcases ty with ⟨rfl,xs,hq⟩|⟨rfl,o,hk,hc,hd⟩|⟨rfl,hk⟩|⟨rfl,S,n,hk⟩
  .obtain⟨its,_,pl,_⟩:=I.list hq;refine⟨pl.isList.typeIs,λa e=>?_⟩;cases e;obtain⟨o,n,e,c,hd,_⟩:=pl;exact⟨o,e,hd⟩
  .refine⟨⟨o,I.kIn p o hk,hc⟩,λa e=>?_⟩;cases e;exact⟨o,I.kIn _ o hk,hd⟩
  .have z:∃o,s.heap.get? p=some o/\o.ExactDict:=by
    rcases hk with ⟨kvs,hk⟩|⟨kvs,hk⟩
    .obtain⟨_,_,_,_,o,_,_,e,ex,_⟩:=I.hok p _ hk;exact⟨o,e,ex⟩
    .obtain⟨_,_,_,_,o,_,_,e,ex,_⟩:=I.hok p _ hk;exact⟨o,e,ex⟩
   obtain⟨o,e,ex⟩:=z;refine⟨⟨o,e,ex.1⟩,λa e2=>?_⟩;cases e2;exact⟨o,e,ex.2.1⟩
  .obtain⟨o,_,_,_,e,ex,_⟩:=I.hok p _ hk;refine⟨⟨o,e,ex.1⟩,λa e2=>?_⟩;cases e2;exact⟨o,e,ex.2.1⟩
 |_=>exact False.elim ty
def tBM0 (K:W.Frag)(T:String)(r:V->Yw->Hp->VK->Prop)(to:TE):TE:=λZ H Q=>to Z H λx H1=>tyV K T x H1/\r x [] H1 Q
def tBM (K:W.Frag)(T:String)(r:V->Yw->Hp->VK->Prop)(to:TE)(t:TA):TE:=λZ H Q=>to Z H λx H1=>tyV K T x H1/\t Z H1 λxs H2=>r x xs H2 Q
variable {o e:Expr}{es:Yj}{to:TE}{t:TA}{name:Str}{apos cpos:Pos}{T id:String}{r:V->Yw->Hp->VK->Prop}
def Ev (pa:PlainAttrs T)(slot:Slot T name id)(hty:typeOf (.builtin id)=pure (.type "method_descriptor"))(hm:MtR X id r)(ho:PE X o to)
 (hbase:attributeBase o name X.env (eval o X.env)=eval o X.env:=by rfl) (hline:(apos.endLine == cpos.line)=true:=by rfl):PE X (.Call (.Attribute o name apos) [] [] cpos) (tBM0 X.K T r to):=by
 intro Y s Z H Q I h;refine wpAny_Call_method0_late hbase hline (thn (ho Y s Z H _ I h) λv s1 ⟨x,H1,I1,r1,ty,q1⟩=>?_);obtain⟨h1,h2⟩:=Eu I1 r1 ty;exact⟨T,id,pa,slot,hty,h1,h2,Calls.callWith_builtin rfl (PySem.evalArgs_none (hm Y s1 Z H1 x [] v [] Q I1 r1 .nil q1))⟩
def QY (pa:PlainAttrs T)(slot:Slot T name id)(hty:typeOf (.builtin id)=pure (.type "method_descriptor"))(hm:MtR X id r)(ho:PE X o to)(ha:PA X (e::es) t)
 (hbase:attributeBase o name X.env (eval o X.env)=eval o X.env:=by rfl)
 (hfew:((backTo cpos (starEach (e::es) X.env)).all (λx => !x.1)&&(backToKw cpos (keywordEach [] X.env)).all (λx=>x.1.isSome)
  && decide ((e::es).length+([]:List Keyword).length+(if([]:List Keyword).isEmpty then 0 else 1)<30))=true:=by rfl)
 (hline:(apos.endLine == cpos.line)=true:=by rfl) (hs:starEach (e::es) X.env=(false,eval e X.env)::starEach es X.env:=by rfl) (hplain:(backTo cpos (starEach es X.env)).any (·.1)=false:=by rfl):
 PE X (.Call (.Attribute o name apos) (e::es) [] cpos) (tBM X.K T r to t):=by
 intro Y s Z H Q I h;refine wpAny_Call_method_late hbase hfew hline rfl (thn (ho Y s Z H _ I h) λv s1 ⟨x,H1,I1,r1,ty,q1⟩=>?_);obtain⟨h1,h2⟩:=Eu I1 r1 ty;refine⟨T,id,pa,slot,hty,h1,h2,?_⟩;have hA:=ha cpos Y s1 Z H1 _ I1 q1;rw[hs] at hA ⊢;refine Calls.callWith_builtin (by show(false||(backTo cpos (starEach es X.env)).any (·.1))=false;rw[hplain]<;>rfl) (Calls.evalArgs_plain ?_);exact thn hA λus s2 ⟨vs,H2,I2,r2,q2⟩=>hm Y s2 Z H2 x vs v us Q I2 r1 r2 q2
end
def MtM (X:Cx)(id:String)(r:V->Yw->Hp->VK->Prop):Prop:=
 ∀(Y:Yb) (s:Shared) (Z: St) (H:Hp) (x:V) (xs:Yw) (v:Value) (us:Yd) (Q:VK),Inv X Y Z H s->RelV x v->Vals xs us->r x xs H Q ->
  YA X (call (.builtin id) (v::us)) (EP X Y Z Q) X.xe s
def Vals.one:∀{x:V} {us:Yd},Vals [x] us->∃u,us=[u]/\RelV x u:=λh=>by
 cases h with
 |cons r t=>cases t;exact⟨_,rfl,r⟩
def Vals.zero:∀{us:Yd},Vals [] us->us=[]
 |_,.nil=>rfl
section
variable {X:Cx}{Y:Yb}{Z: St}{H:Hp}{s:Shared}{l b:Addr}{xs ys zs:Yw}
def Inv.lset {its its':Yd}{n:Nat}{f:Yk->Array Value}{t':Nat}(I:Inv X Y Z H s)(hH:H l=some (.lst xs))
 (e:s.heap.get? l=some { cls:=.type "list",data:=.seq its.toArray n }) (hf:f its.toArray=its'.toArray) (hv:Vals ys its') (hz:ys.length<=sizeLine):
 Inv X Y Z (upd H l (.lst ys)) { s with heap:=s.heap.update l (Obj.mapSeq f),toks:=t' }:=by
 have q:=PySem.IsL.update e f;rw[hf] at q;refine I.write (x:=l) (e:=l) (by rw[hH];exact trivial) (.inl rfl) (λb' u hb hu=>(Heap.get?_update_other s.heap (Obj.mapSeq f) (Ne.symm hb)).trans hu) ⟨_,q⟩ ?_;exact⟨hz,its',_,hv,q⟩
def Inv.lnew {its:Yd}{t':Nat}(I:Inv X Y Z H s)(hv:Vals ys its)(hz:ys.length<=sizeLine):
 Inv X Y Z (upd H s.heap.objs.size (.lst ys)) { s with heap:=s.heap.push { cls:=.type "list",data:=.seq its.toArray },toks:=t' } :=
 I.laid (λ_ _ q=>Zq _ q) (Zf _) ⟨hz,its,0,hv,Zr _ rfl⟩
theorem Inv.fresh (I:Inv X Y Z H s):H s.heap.objs.size=none:=I.hok.fresh (Zf _)
def Inv.lstM (I:Inv X Y Z H s)(hH:H l=some (.lst xs)):xs.length<=sizeLine/\∃(its:Yd) (n:Nat),Vals xs its/\xs.length=its.length/\s.heap.get? l=some { cls:=.type "list",data:=.seq its.toArray n }:=by
 obtain⟨z,its,n,r,e⟩:=I.hok l _ hH;exact⟨z,its,n,r,r.length,e⟩
def MA {n:Nat}(h:n<=sizeLine):Builtin.List.listTooLong n=false:=by
 unfold Builtin.List.listTooLong;exact Zo ()
end
section
variable {X:Cx}
def Ew:V->Yw->Hp->VK->Prop:=λx vs H Q=>∃l xs y,x=.ref l/\vs=[y]/\H l=some (.lst xs)/\xs.length<sizeLine/\Q .non (upd H l (.lst (xs++[y])))
def Kg:MtM X "list.append" Ew:=by
 intro Y s Z H x vs v us Q I rx rv h;obtain⟨l,xs,y,rfl,rfl,hH,hz,q⟩:=h;cases rx;obtain⟨u,rfl,ru⟩:=rv.one;obtain⟨z,its,n,r,hl,e⟩:=I.lstM hH;refine call_meets F.slot_list_append ⟨_,e,rfl⟩ F.entry_list_append (F.args_list_append_2 _ _) (PySem.list_append l its.toArray n u (by rw[Zm];omega)) ⟨e,?_⟩;refine⟨.non,_,I.lset (its':=its++[u]) hH e (by simp) (r.append (.cons ru .nil)) ?_,rfl,q⟩;rw[Ub,Uq];omega
def Ey:V->Yw->Hp->VK->Prop:=λx vs H Q=>∃l b xs zs,x=.ref l/\vs=[.ref b]/\H l=some (.lst xs)/\H b=some (.lst zs)/\xs.length+zs.length<=sizeLine/\Q .non (upd H l (.lst (xs++zs)))
def MB:MtM X "list.extend" Ey:=by
 intro Y s Z H x vs v us Q I rx rv h;obtain⟨l,b,xs,zs,rfl,rfl,hH,hB,hz,q⟩:=h;cases rx;obtain⟨u,rfl,ru⟩:=rv.one;cases ru;obtain⟨z,its,n,r,hl,e⟩:=I.lstM hH;obtain⟨z2,its2,n2,r2,hl2,e2⟩:=I.lstM hB;have hsz:its.toArray.size+its2.toArray.size<=sizeLine:=by rw[Zm,Zm];omega
 have hlong:¬(!its.toArray.isEmpty&&Builtin.List.listTooLong (its.toArray.size+its2.toArray.size))=true:=by
  rw[MA hsz,Vw];exact Zj
 refine call_meets F.slot_list_extend ⟨_,e,rfl⟩ F.entry_list_extend (F.args_list_extend_2 _ _)
  (AutoSeq1.list_extend_list_list_0 l its.toArray n b its2.toArray n2 hlong (by rw[Zm];omega) ()) ⟨e,e2,?_⟩
 refine⟨.non,_,I.lset (its':=its++its2) hH e (by simp) (r.append r2) ?_,rfl,q⟩;rw[Ub];omega
end
section
variable {prog:Program}{w:World}{A:Around}{E:Ya}{s:Shared}
set_option maxRecDepth 100000 in
end
section
variable {κ: Type}[DecidableEq κ]
def valV (kvs:List (κ × V))(k:κ):Yx:=(kvs.find? λkv=>decide (kv.1=k)).map (·.2)
def putK (kvs:List (κ × V))(k:κ)(v:V):List (κ × V):=
 if(kvs.any λkv=>decide (kv.1=k))=true then kvs.map (λkv=>if kv.1=k then(kv.1,v) else kv) else kvs++[(k,v)]
def B8 {p:κ × V}{r:List (κ × V)}{k:κ}(e:p.1=k):valV (p::r) k=some p.2:=by simp[valV,UT,e]
def B9 {p:κ × V}{r:List (κ × V)}{k:κ}(e:¬p.1=k):valV (p::r) k=valV r k:=by simp[valV,UT,e]
theorem Ez (k:κ):∀kvs:List (κ × V),(kvs.any λkv=>decide (kv.1=k))=(valV kvs k).isSome
 | []=>rfl
 |p::r=>by
  rw[Vn];by_cases e:p.1=k
  .simp only[B8 e,Zp e,Bool.true_or,Option.isSome_some]
  .rw[B9 e,Zo e,Bool.false_or];exact Ez k r
def BA (kvs:List (κ × V))(k:κ)(v:V):(putK kvs k v).length<=kvs.length+1:=by
 unfold putK
 split
 .rw[Zql];omega
 .rw[Ub,Zu,ZC];omega
def RelO.isSome_eq {o:Yx}{u:Option Value}(r:RelO o u):o.isSome=u.isSome:=by
 cases o with
 |none=>cases u with
  |none=>rfl
  |some _=>exact(show False from r).elim
 |some _=>cases u with
  |none=>exact(show False from r).elim
  |some _=>rfl
theorem RelO.getD {o:Yx}{u:Option Value}{d:V}{d':Value}(r:RelO o u)(rd:RelV d d'):RelV (o.getD d) (u.getD d'):=by
 cases o with
 |none=>cases u with
  |none=>exact rd
  |some _=>exact(show False from r).elim
 |some _=>cases u with
  |none=>exact(show False from r).elim
  |some _=>exact r
def KV.val {kvs:List (κ × V)}{vs:List (κ × Value)}(r:KV kvs vs)(k:κ):RelO (valV kvs k) (valueAt vs k):=by
 unfold KV at r
 induction r with
 |nil=>exact True.intro
 | @cons p q ps qs h t ih =>
  obtain⟨h1,h2⟩:=h;by_cases e:p.1=k
  .have e':q.1=k:=h1.symm.trans e;have b:valueAt (q::qs) k=some q.2:=by simp[valueAt,UT,e']
   rw[B8 e,b];exact h2
  .have e':¬q.1=k:=λz=>e (h1.trans z);have b:valueAt (q::qs) k=valueAt qs k:=by simp[valueAt,UT,e']
   rw[B9 e,b];exact ih
theorem KV.any {kvs:List (κ × V)}{vs:List (κ × Value)}(r:KV kvs vs)(k:κ):(kvs.any λkv=>decide (kv.1=k))=vs.any λkv=>decide (kv.1=k):=by
 unfold KV at r
 induction r with
 |nil=>rfl
 |cons h t ih=>rw[Vn,Vn,ih,h.1]
def KV.repl {kvs:List (κ × V)}{vs:List (κ × Value)}(r:KV kvs vs)(k:κ){y:V}{u:Value}(ry:RelV y u):
 KV (kvs.map λkv=>if kv.1=k then(kv.1,y) else kv) (vs.map λkv=>if kv.1=k then(kv.1,u) else kv):=by
 unfold KV at r ⊢
 induction r with
 |nil=>exact .nil
 | @cons p q ps qs h t ih =>
  rw[Zl,Zl];refine .cons ?_ ih;obtain⟨h1,h2⟩:=h;by_cases e:p.1=k
  .rw[Zd e,Zd (h1.symm.trans e)];exact⟨h1,ry⟩
  .rw[Ze e,Ze (λz=>e (h1.trans z))];exact⟨h1,h2⟩
def KV.put {kvs:List (κ × V)}{vs:List (κ × Value)}(r:KV kvs vs)(k:κ){y:V}{u:Value}(ry:RelV y u):KV (putK kvs k y) (stored vs k u):=by
 unfold putK stored;rw[r.any k];by_cases e:(vs.any λkv=>decide (kv.1=k))=true
 .rw[Zd e,Zd e];exact r.repl k ry
 .rw[Ze e,Ze e];exact Paired.snoc r ⟨rfl,ry⟩
theorem KV.length {kvs:List (κ × V)}{vs:List (κ × Value)}(r:KV kvs vs):kvs.length=vs.length:=Paired.length r
end
def Wh {P:Program}{w:World}{k:Key}{u:Value}(r:RelV (kV k) u):(Qg P w).is k u=true:=by
 cases k with
 |inl i=>obtain⟨t,e⟩:=(show ∃t,u=Value.int i t from r);subst e;exact IX P w i t
 |inr x=>obtain⟨t,e⟩:=(show ∃t,u=Value.str x t from r);subst e;exact IY P w x t
theorem E1 {P:Program}{w:World}:∀{ks:List Key} {us:Yd},Vals (ks.map kV) us->ItemsAre (Qg P w) ks us
 | [],_,r=>by rw[Uu] at r;cases r;exact .nil
 |k::ks,_,r=>by
  rw[Zl] at r;cases r with
  |cons h t=>exact .cons (Wh h) (E1 t)
abbrev KT (H:Hp):List (List Key×V)->List (List Key×Addr×Value)->Prop:=Paired λp q=>p.1=q.1/\H q.2.1=some (.tup (p.1.map kV))/\RelV p.2 q.2.2
def KT.val {H:Hp}{kvs:List (List Key×V)}{xs:List (List Key×Addr×Value)}(r:KT H kvs xs)(k:List Key):RelO (valV kvs k) ((atKey xs k).map (·.2)):=by
 induction r with
 |nil=>exact True.intro
 | @cons p q ps qs h t ih =>
  obtain⟨h1,_,h2⟩:=h;by_cases e:p.1=k
  .have e':q.1=k:=h1.symm.trans e;have b:atKey (q::qs) k=some q.2:=by simp[atKey,UT,e']
   rw[B8 e,b];exact h2
  .have e':¬q.1=k:=λz=>e (h1.trans z);have b:atKey (q::qs) k=atKey qs k:=by simp[atKey,UT,e']
   rw[B9 e,b];exact ih
def KT.repl {H:Hp}{kvs:List (List Key×V)}{xs:List (List Key×Addr×Value)}(r:KT H kvs xs)(k:List Key){y:V}{u:Value}(ry:RelV y u):
 KT H (kvs.map λkv=>if kv.1=k then(kv.1,y) else kv) (xs.map (putAt k u)):=by
 induction r with
 |nil=>exact .nil
 | @cons p q ps qs h t ih =>
  rw[Zl,Zl];refine .cons ?_ ih;obtain⟨h1,h2,h3⟩:=h;unfold putAt;by_cases e:p.1=k
  .rw[Zd e,Zd (h1.symm.trans e)];exact⟨h1,h2,ry⟩
  .rw[Ze e,Ze (λz=>e (h1.trans z))];exact⟨h1,h2,h3⟩
def KT.put {H:Hp}{kvs:List (List Key×V)}{xs:List (List Key×Addr×Value)}(r:KT H kvs xs)(k:List Key){b:Addr}{y:V}{u:Value}(hb:H b=some (.tup (k.map kV)))(ry:RelV y u):
 KT H (putK kvs k y) (storedH xs k b u):=by
 have e:(kvs.any λkv=>decide (kv.1=k))=(atKey xs k).isSome:=by
  rw[Ez,(r.val k).isSome_eq,VI]
 unfold putK storedH;rw[e];by_cases q:(atKey xs k).isSome=true
 .rw[Zd q,Zd q];exact r.repl k ry
 .rw[Ze q,Ze q];exact Paired.snoc r ⟨rfl,hb,ry⟩
def KT.keeps {H H':Hp}{kvs:List (List Key×V)}{xs:List (List Key×Addr×Value)}(r:KT H kvs xs)(ht:∀b ys,H b=some (.tup ys)->H' b=some (.tup ys)):KT H' kvs xs:=
 Paired.mapP r λ_ _ z=>⟨z.1,ht _ _ z.2.1,z.2.2⟩
section
variable {P:Program}{w:World}{H:Hp}{h:Heap}{a:Addr}
def E2 {u:HO}(ok:HOk P w H h)(e:Rd H a u):zbj P w H h a u:=e.ok ok
def V1 {kvs:List (Key×V)}(ok:HOk P w H h)(e:Rd H a (.dK kvs)):kvs.length<=sizeLine/\(a == sysModules)=false/\∃vs,KV kvs vs/\h.DictOf (Qg P w) a vs:=
 show zbj P w H h a (.dK kvs) from E2 ok e
def ZS {kvs:List (Key×V)}(ok:HOk P w H h)(e:H a=some (.dK kvs)):kvs.length<=sizeLine/\(a == sysModules)=false/\∃vs,KV kvs vs/\h.DictOf (Qg P w) a vs:=V1 ok (.inl e)
def W6 {ks:List Key}(ok:HOk P w H h)(e:H a=some (.tup (ks.map kV))):(tupleKind (Qg P w)).is h ks a:=by
 obtain⟨_,its,r,o,h1,h2,n,h3⟩:=(show zbj P w H h a (.tup (ks.map kV)) from ok a _ e);exact⟨o,its.toArray,n,h1,h2,h3,by simpa using E1 r⟩
def Wi {kvs:List (List Key×V)}(ok:HOk P w H h)(e:Rd H a (.dT kvs)):kvs.length<=sizeLine/\(a == sysModules)=false /\
 ∃xs,KT H kvs xs/\h.DictOfH (tupleKind (Qg P w)) a xs:=by
 obtain⟨z,y,xs,r,o,es,ep,h1,h2,h3,h4,h5⟩:=(show zbj P w H h a (.dT kvs) from E2 ok e);refine⟨z,y,xs,r,o,es,ep,h1,h2,h3,h4,λx hx=>?_,h5⟩;have all:∀{l:List (List Key×V)} {m:List (List Key×Addr×Value)},KT H l m->∀x∈m,(tupleKind (Qg P w)).is h x.1 x.2.1:=by
  intro l m q
  induction q with
  |nil=>intro x hx;exact nomatch hx
  | @cons p q ps qs hq t ih =>
   intro x hx;rcases UB.mp hx with e|hx
   .subst e;exact W6 ok (by rw[<- hq.1];exact hq.2.1)
   .exact ih x hx
 exact all r x hx
def dt_of {kvs:List (List Key×V)}(ok:HOk P w H h)(e:H a=some (.dT kvs)):kvs.length<=sizeLine/\(a == sysModules)=false /\
 ∃xs,KT H kvs xs/\h.DictOfH (tupleKind (Qg P w)) a xs:=Wi ok (.inl e)
end
def DGet (H:Hp)(a:Addr)(y:V)(r:Yx):Prop:=
 (∃kvs k,Rd H a (.dK kvs)/\y=kV k/\r=valV kvs k)\/∃kvs k b,Rd H a (.dT kvs)/\y=.ref b/\H b=some (.tup (k.map kV))/\r=valV kvs k
def DPut (H:Hp)(a:Addr)(y v:V)(H':Hp):Prop:=
 (∃kvs k,H a=some (.dK kvs)/\y=kV k/\kvs.length<sizeLine/\H'=upd H a (.dK (putK kvs k v))) \/
 ∃kvs k b,H a=some (.dT kvs)/\y=.ref b/\H b=some (.tup (k.map kV))/\kvs.length<sizeLine/\H'=upd H a (.dT (putK kvs k v))
theorem DGet.k {H:Hp}{a:Addr}{kvs:List (Key×V)}{k:Key}(e:H a=some (.dK kvs)):DGet H a (kV k) (valV kvs k):=.inl ⟨kvs,k,.inl e,rfl,rfl⟩
theorem DPut.k {H:Hp}{a:Addr}{kvs:List (Key×V)}{k:Key}{v:V}(e:H a=some (.dK kvs))(hl:kvs.length<sizeLine):DPut H a (kV k) v (upd H a (.dK (putK kvs k v))):=.inl ⟨kvs,k,e,rfl,hl,rfl⟩
section
variable {X:Cx}{Y:Yb}{Z: St}{H:Hp}{s:Shared}{a:Addr}{y v:V}{u r:Value}{o:Yx}{A:Around}{E:Ya}
def Inv.big (I:Inv X Y Z H s):sysModules<s.heap.objs.size:=by
 have h:mainGlobals<s.heap.objs.size:=(I.mod.glob.keeps I.bk).lt;exact UL (by decide) h
def MC {Q:Ya}(hu:A.units+1<cLine)(I:Inv X Y Z H s)(g:DGet H a y (some v))(ry:RelV y u)(h:∀w' s',Inv X Y Z H s'->RelV v w'->Q w' s'):
 wpAny (model X.prog X.w) A (getItem (.ref a) u) Q E s:=by
 rcases g with ⟨kvs,k,e,ey,l⟩|⟨kvs,k,b,e,ey,eb,l⟩
 .subst ey;obtain⟨z,hd,vs,rel,dd⟩:=V1 I.hok e;obtain⟨w',hw,rw'⟩:=RelO.some_of (v:=v) (o:=valueAt vs k) (by rw[l];exact rel.val k);exact wpAny_getItem_of (Wh ry) dd.mapOf hw (h w' _ (I.tok _) rw')
 .subst ey;cases (show u=Value.ref b from ry);obtain⟨z,hd,xs,rel,dd⟩:=Wi I.hok e;obtain⟨w',hw,rw'⟩:=RelO.some_of (v:=v) (o:=(atKey xs k).map (·.2)) (by rw[l];exact rel.val k);obtain⟨p,hp,hp2⟩:=Ji.mp hw;refine wpAny_getItem_heap (tupleKind_room_in1 hu) (W6 I.hok eb) dd hp ?_;rw[hp2];exact h w' _ (I.tok _) rw'
def d_in {Q:Ya}(hu:A.units+1<cLine)(I:Inv X Y Z H s)(g:DGet H a y o)(ry:RelV y u)(h:∀s',Inv X Y Z H s'->Q (.bool o.isSome) s'):
 wpAny (model X.prog X.w) A (compareOp .In u (.ref a)) Q E s:=by
 rcases g with ⟨kvs,k,e,ey,l⟩|⟨kvs,k,b,e,ey,eb,l⟩
 .subst ey;obtain⟨z,hd,vs,rel,dd⟩:=V1 I.hok e;refine wpAny_in_of (Wh ry) hd dd.mapOf ?_;rw[<- (rel.val k).isSome_eq,<- l];exact h _ (I.tok _)
 .subst ey;cases (show u=Value.ref b from ry);obtain⟨z,hd,xs,rel,dd⟩:=Wi I.hok e;refine wpAny_in_heap (tupleKind_room_in1 hu) (W6 I.hok eb) hd dd ?_;have q:=(rel.val k).isSome_eq;rw[VI] at q;rw[<- q,<- l];exact h _ (I.tok _)
def MD {Q:Ya}(hu:A.units+1<cLine)(I:Inv X Y Z H s)(g:DGet H a y o)(ry:RelV y u)(h:∀s',Inv X Y Z H s'->Q (.bool (!o.isSome)) s'):
 wpAny (model X.prog X.w) A (compareOp .NotIn u (.ref a)) Q E s:=by
 rcases g with ⟨kvs,k,e,ey,l⟩|⟨kvs,k,b,e,ey,eb,l⟩
 .subst ey;obtain⟨z,hd,vs,rel,dd⟩:=V1 I.hok e;refine wpAny_notIn_of (Wh ry) hd dd.mapOf ?_;rw[<- (rel.val k).isSome_eq,<- l];exact h _ (I.tok _)
 .subst ey;cases (show u=Value.ref b from ry);obtain⟨z,hd,xs,rel,dd⟩:=Wi I.hok e;refine wpAny_notIn_heap (tupleKind_room_in1 hu) (W6 I.hok eb) hd dd ?_;have q:=(rel.val k).isSome_eq;rw[VI] at q;rw[<- q,<- l];exact h _ (I.tok _)
def E3 {h':Heap}{t':Nat}{ob:HO}(I:Inv X Y Z H s)(mu:Mut (H a))(hs:Heap.SameBut a s.heap h')(he:∃q,h'.get? a=some q)(new:zbj X.prog X.w (upd H a ob) h' a ob):
 Inv X Y Z (upd H a ob) { s with heap:=h',toks:=t' } :=
 I.write (x:=a) (e:=a) mu (.inl rfl) (λb q hb z=>(hs.2 b hb).trans z) he new
def E4 {P:Program}{w:World}{H':Hp}{h':Heap}{kvs:List (Key×V)}{vs:List (Key×Value)}(z:kvs.length<=sizeLine)(hd:(a == sysModules)=false)(rel:KV kvs vs)(dd:h'.DictOf (Qg P w) a vs):
 zbj P w H' h' a (.dK kvs):=⟨z,hd,vs,rel,dd⟩
def ME {H':Hp}{Q:Unit->Yu}(hu:A.units+1<cLine)(I:Inv X Y Z H s)(g:DPut H a y v H')(ry:RelV y u)(rv:RelV v r)(h:∀s',Inv X Y Z H' s'->Q Yp s'):
 wpAny (model X.prog X.w) A (setItem (.ref a) u r) Q E s:=by
 rcases g with ⟨kvs,k,e,ey,l,eH⟩|⟨kvs,k,b,e,ey,eb,l,eH⟩
 .subst ey eH;obtain⟨z,hd,vs,rel,dd⟩:=ZS I.hok e;have hz:vs.length<=sizeLine:=by rw[<- rel.length];exact z
  have hl:(putK kvs k v).length<=sizeLine:=by have:=BA kvs k v;omega
  refine wpAny_setItem_pairs (hsz:=hz) (Wh ry) dd λh' dd' hs=>h _ ?_;have he:∃q,h'.get? a=some q:=let ⟨q,_,_,hq,_⟩:=dd';⟨q,hq⟩
  exact E3 I (by rw[e];exact True.intro) hs he (E4 hl hd (rel.put k rv) dd')
 .subst ey eH;cases (show u=Value.ref b from ry);obtain⟨z,hd,xs,rel,dd⟩:=dt_of I.hok e;have hz:xs.length<=sizeLine:=by rw[<- Paired.length rel];exact z
  have hl:(putK kvs k v).length<=sizeLine:=by have:=BA kvs k v;omega
  refine wpAny_setItem_heap (hsz:=hz) (tupleKind_room_in1 hu) (W6 I.hok eb) dd λh' dd' hs=>h _ ?_;obtain⟨q,es,ep,hq,h2,h3,h4,_,h5⟩:=dd';refine E3 I (by rw[e];exact True.intro) hs ⟨q,hq⟩ ⟨hl,hd,_,(rel.put k eb rv).keeps λc ys ec=>?_,q,es,ep,hq,h2,h3,h4,h5⟩;rw[JC (ne_of ec e (λz=>nomatch z))];exact ec
end
section
variable {X:Cx}{Y:Yb}{Z: St}{H:Hp}{s:Shared}{a:Addr}{kvs:List (Key×V)}{k:Key}{u:Value}{A:Around}{E:Ya}
def d_len {Q:Ya}(I:Inv X Y Z H s)(e:Rd H a (.dK kvs))(h:∀t s',Inv X Y Z H s'->Q (.int kvs.length t) s'):wpAny (model X.prog X.w) A (call (.builtin "len") [.ref a]) Q E s:=by
 obtain⟨z,hd,vs,rel,dd⟩:=V1 I.hok e;refine call_len_dict hd dd (by rw[<- rel.length];rw[sizeLine_eq] at z;omega) ?_;rw[<- rel.length];exact h _ _ (I.tok _)
end
def NoSl (i:Expr):Prop:=∀ov iv,subscripted i false ov iv=operate [ov,iv] (getItem ov iv)
def MF {prog:Program}{w:World}{A:Around}{E:Ya}{s:Shared}{env:Env}{value slice:Expr}{pos:Pos}{T id:String}{Q:Ya}
 (hl:typeLookup (.type T) "__getitem__" = pure (some (.builtin id))) (hs:NoSl slice)
 (h:YB prog w A (eval value env) (λo s₁=>YB prog w A (eval slice env) (λi s₂=>s₂.TypeIs o T/\YB prog w A (getItem o i) Q E s₂) E s₁) E s):
 YB prog w A (eval (.Subscript value slice pos) env) Q E s:=by
 refine Subscript_ (Zc h (λo s₁ h₁=>Zc h₁ (λi s₂ h₂=>?_) λ_ _ x=>x) λ_ _ x=>x);obtain⟨hT,h₂⟩:=h₂;unfold subscriptTail;refine Za ?_;rw[getitemInPython_of_ne hT.not_modules];refine Za (wpAny_specialOf hT hl ?_);have fin:YB prog w A (subscripted slice false o i) (λr s₃=>YB prog w A (letTemporaryGo value o r >>= λ_=>pure r) Q E s₃) E s₂:=by
  rw[hs o i];exact wpAny_operating (Zc h₂ (λr s₃ h₃=>Za (wpAny_letTemporaryGo (Zb h₃))) λ_ _ x=>x)
 first
  |exact Zb (Za fin)
  |exact Za (Zb (Za fin))
  |exact Za fin
def MG {X:Cx}{Y:Yb}{Z: St}{H:Hp}{s:Shared}{a:Addr}{y:V}{o:Yx}(I:Inv X Y Z H s)(g:DGet H a y o):s.TypeIs (.ref a) "dict" := by
 rcases g with ⟨kvs,k,e,_,_⟩|⟨kvs,k,b,e,_,_,_⟩
 .obtain⟨_,_,vs,_,dd⟩:=V1 I.hok e;exact dd.typeIs
 .obtain⟨_,_,xs,_,dd⟩:=Wi I.hok e;exact dd.typeIs
def tDGet (td ty:TE):TE:=λZ H Q=>td Z H λx H1=>ty Z H1 λy H2=>∃a v,x=.ref a/\DGet H2 a y (some v)/\Q v H2
def tDIn (ty td:TE):TE:=λZ H Q=>ty Z H λy H1=>td Z H1 λx H2=>∃a o,x=.ref a/\DGet H2 a y o/\Q (.bl o.isSome) H2
def MH (ty td:TE):TE:=λZ H Q=>ty Z H λy H1=>td Z H1 λx H2=>∃a o,x=.ref a/\DGet H2 a y o/\Q (.bl (!o.isSome)) H2
def sDPut (td ty tv:TE):TS:=λD Z H=>tv Z H λv H1=>td Z H1 λx H2=>ty Z H2 λy H3=>∃a H4,x=.ref a/\DPut H3 a y v H4/\D.nx Z H4
section
variable {X:Cx}{o i e value:Expr}{pos pos' tpos:Pos}{td ty tv:TE}
def E5 (hu:X.A.units+1<cLine)(ho:PE X o td)(hi:PE X i ty)(hs:NoSl i):PE X (.Subscript o i pos) (tDGet td ty):=by
 intro Y s Z H Q I h;refine MF PySem.F.slot_dict_getitem.lookup hs (thn (ho Y s Z H _ I h) λu s1 ⟨x,H1,I1,rx,q1⟩=>thn (hi Y s1 Z H1 _ I1 q1) λiv s2 ⟨y,H2,I2,ry,a,v,ex,g,q2⟩=>?_);subst ex;obtain rfl:u=Value.ref a:=rx;exact⟨MG I2 g,MC hu I2 g ry λw' s3 I3 rw'=>⟨v,H2,I3,rw',q2⟩⟩
def MI (hu:X.A.units+1<cLine)(hi:PE X i ty)(ho:PE X o td):PC X .In i o (tDIn ty td):=by
 intro Y s Z H Q I h;refine thn (hi Y s Z H _ I h) λiv s1 ⟨y,H1,I1,ry,q1⟩=>thn (ho Y s1 Z H1 _ I1 q1) λu s2 ⟨x,H2,I2,rx,a,ov,ex,g,q2⟩=>?_;subst ex;obtain rfl:u=Value.ref a:=rx;exact d_in hu I2 g ry λs3 I3=>⟨.bl ov.isSome,H2,I3,rfl,q2⟩
def E6 (hu:X.A.units+1<cLine)(hi:PE X i ty)(ho:PE X o td):PC X .NotIn i o (MH ty td):=by
 intro Y s Z H Q I h;refine thn (hi Y s Z H _ I h) λiv s1 ⟨y,H1,I1,ry,q1⟩=>thn (ho Y s1 Z H1 _ I1 q1) λu s2 ⟨x,H2,I2,rx,a,ov,ex,g,q2⟩=>?_;subst ex;obtain rfl:u=Value.ref a:=rx;exact MD hu I2 g ry λs3 I3=>⟨.bl (!ov.isSome),H2,I3,rfl,q2⟩
def MJ (hu:X.A.units+1<cLine)(ho:PE X o td)(hi:PE X i ty)(hv:PE X value tv)(hs:swapsWith value (some (.Subscript o i pos')) pos.line X.env=pure false):
 PS X (.Assign [.Subscript o i pos'] value pos) (sDPut td ty tv):=by
 intro Y s Z H D I h;refine wpAny_Assign_Subscript (thn (hv Y s Z H _ I h) λr s1 ⟨v,H1,I1,rv,q1⟩=>thn (ho Y s1 Z H1 _ I1 q1) λu s2 ⟨x,H2,I2,rx,q2⟩=>thn (hi Y s2 Z H2 _ I2 q2) λiv s3 ⟨y,H3,I3,ry,a,H4,ex,g,q3⟩=>?_) hs;subst ex;obtain rfl:u=Value.ref a:=rx;exact ME hu I3 g ry rv λs4 I4=>⟨Z,H4,I4,q3⟩
end
def MK {P:Program}{w:World}{H:Hp}(h:Heap)(hb:sysModules<h.objs.size):zbj P w H (h.push { cls:=.type "dict",data:=.dict #[] }) h.objs.size (.dK []):=
 ⟨Ue _,beq_eq_false_iff_ne.mpr (Ne.symm (Zi hb)),[],.nil,Heap.DictOf.new h⟩
def ML:TE:=λ_ H Q=>∀p,H p=none->Q (.ref p) (upd H p (.dK []))
section
variable {X:Cx}{pos:Pos}
def MM:PE X (.Dict [] [] pos) ML:=λY s Z H Q I h =>
 wpAny_Dict_empty ⟨.ref s.heap.objs.size,_,I.laid (a:=s.heap.objs.size) (o:=.dK []) (t':=s.toks) (λ_ _ q=>Zq _ q) (Zf _) (MK s.heap I.big),rfl,h _ (I.hok.fresh (Zf _))⟩
end
def W7 (kvs more:List (Key×V)):List (Key×V):=more.foldl (λacc kv=>putK acc kv.1 kv.2) kvs
def KV.merge:∀{more:List (Key×V)} {rs:List (Key×Value)} {kvs:List (Key×V)} {vs:List (Key×Value)},KV more rs->KV kvs vs->KV (W7 kvs more) (merged vs rs):=by
 intro more rs kvs vs r;unfold KV at r
 induction r generalizing kvs vs with
 |nil=>intro q;exact q
 | @cons p q ps qs h t ih =>
  intro r0;have e:KV (putK kvs p.1 p.2) (stored vs q.1 q.2):=by
   have:=r0.put p.1 h.2;rw[<- h.1];exact this
  exact ih e
theorem E7:∀(more kvs:List (Key×V)),(W7 kvs more).length<=kvs.length+more.length
 | [],kvs=>by show kvs.length<=kvs.length+0;omega
 |p::r,kvs=>by
  have h1:=E7 r (putK kvs p.1 p.2);have h2:=BA kvs p.1 p.2;show(W7 (putK kvs p.1 p.2) r).length<=_;rw[Zu];omega
structure M1 (X:Cx)(o:Expr)(m:Str)(apos:Pos)(e:Expr)(cpos:Pos):Prop where
 base:attributeBase o m X.env (eval o X.env)=eval o X.env
 few:((backTo cpos (starEach [e] X.env)).all (λx => !x.1)&&(backToKw cpos (keywordEach [] X.env)).all (λx=>x.1.isSome)
  && decide (([e]:Yj).length+([]:List Keyword).length+(if([]:List Keyword).isEmpty then 0 else 1)<30))=true
 line:(apos.endLine == cpos.line)=true
 trees:backTo cpos (starEach [e] X.env)=[(false,eval e X.env)]
structure M2 (X:Cx)(o:Expr)(m:Str)(apos:Pos)(e f:Expr)(cpos:Pos):Prop where
 base:attributeBase o m X.env (eval o X.env)=eval o X.env
 few:((backTo cpos (starEach [e,f] X.env)).all (λx => !x.1)&&(backToKw cpos (keywordEach [] X.env)).all (λx=>x.1.isSome)
  && decide (([e,f]:Yj).length+([]:List Keyword).length+(if([]:List Keyword).isEmpty then 0 else 1)<30))=true
 line:(apos.endLine == cpos.line)=true
 trees:backTo cpos (starEach [e,f] X.env)=[(false,eval e X.env),(false,eval f X.env)]
def IsD (H:Hp)(a:Addr):Prop:=(∃kvs,Rd H a (.dK kvs))\/∃kvs,Rd H a (.dT kvs)
def E8 {X:Cx}{Y:Yb}{Z: St}{H:Hp}{s:Shared}{a:Addr}(I:Inv X Y Z H s)(d:IsD H a):
 s.TypeIs (.ref a) "dict" /\ (∀b,Value.ref a=.ref b->∃ob,s.heap.get? b=some ob/\ob.dict=none)/\(a == sysModules)=false:=by
 rcases d with ⟨kvs,e⟩|⟨kvs,e⟩
 .obtain⟨_,hd,vs,_,dd⟩:=V1 I.hok e;refine⟨dd.typeIs,λb q=>?_,hd⟩;cases q;obtain⟨ob,_,_,h1,h2,_⟩:=dd;exact⟨ob,h1,h2.2.1⟩
 .obtain⟨_,hd,xs,_,dd⟩:=Wi I.hok e;refine⟨dd.typeIs,λb q=>?_,hd⟩;cases q;obtain⟨ob,_,_,h1,h2,_⟩:=dd;exact⟨ob,h1,h2.2.1⟩
section
variable {X:Cx}{Y:Yb}{Z: St}{H:Hp}{s:Shared}{a:Addr}{y d:V}{u r:Value}{o:Yx}{A:Around}{E:Ya}
def MN {Q:Ya}(hu:A.units+1<cLine)(I:Inv X Y Z H s)(g:DGet H a y o)(ry:RelV y u)(h:∀w' s',Inv X Y Z H s'->RelV (o.getD .non) w'->Q w' s'):
 wpAny (model X.prog X.w) A (call (.builtin "dict.get") [.ref a,u]) Q E s:=by
 rcases g with ⟨kvs,k,e,ey,l⟩|⟨kvs,k,b,e,ey,eb,l⟩
 .subst ey;obtain⟨z,hd,vs,rel,dd⟩:=V1 I.hok e;refine call_meetsIn PySem.F.slot_dict_get dd.typeIs PySem.F.entry_dict_get (PySem.F.args_dict_get_2 _ _) (meets_dict_get (Qg X.prog X.w) a (Wh ry) hd) ⟨_,dd.mapOf,h _ _ (I.tok _) ?_⟩;rw[l];exact(rel.val k).getD rfl
 .subst ey;cases (show u=Value.ref b from ry);obtain⟨z,hd,xs,rel,dd⟩:=Wi I.hok e;refine call_meetsIn PySem.F.slot_dict_get dd.typeIs PySem.F.entry_dict_get (PySem.F.args_dict_get_2 _ _) (meetsH_dict_get (tupleKind (Qg X.prog X.w)) a b hd) ⟨tupleKind_room_in1 hu,k,xs,W6 I.hok eb,dd,h _ _ (I.tok _) ?_⟩;rw[l];exact(rel.val k).getD rfl
def MO {Q:Ya}(hu:A.units+1<cLine)(I:Inv X Y Z H s)(g:DGet H a y o)(ry:RelV y u)(rd:RelV d r)(h:∀w' s',Inv X Y Z H s'->RelV (o.getD d) w'->Q w' s'):
 wpAny (model X.prog X.w) A (call (.builtin "dict.get") [.ref a,u,r]) Q E s:=by
 rcases g with ⟨kvs,k,e,ey,l⟩|⟨kvs,k,b,e,ey,eb,l⟩
 .subst ey;obtain⟨z,hd,vs,rel,dd⟩:=V1 I.hok e;refine call_meetsIn PySem.F.slot_dict_get dd.typeIs PySem.F.entry_dict_get (PySem.F.args_dict_get_3 _ _ _) (meets_dict_get_default (Qg X.prog X.w) a (Wh ry) hd r) ⟨_,dd.mapOf,h _ _ (I.tok _) ?_⟩;rw[l];exact(rel.val k).getD rd
 .subst ey;cases (show u=Value.ref b from ry);obtain⟨z,hd,xs,rel,dd⟩:=Wi I.hok e;refine call_meetsIn PySem.F.slot_dict_get dd.typeIs PySem.F.entry_dict_get (PySem.F.args_dict_get_3 _ _ _) (meetsH_dict_get_default (tupleKind (Qg X.prog X.w)) a b hd r) ⟨tupleKind_room_in1 hu,k,xs,W6 I.hok eb,dd,h _ _ (I.tok _) ?_⟩;rw[l];exact(rel.val k).getD rd
end
def MP (td ty:TE):TE:=λZ H Q=>td Z H λx H1=>∃a,x=.ref a/\IsD H1 a/\ty Z H1 λy H2=>∃o,DGet H2 a y o/\Q (o.getD .non) H2
def MQ (td ty tx:TE):TE:=λZ H Q=>td Z H λx H1=>∃a,x=.ref a/\IsD H1 a/\ty Z H1 λy H2=>tx Z H2 λz H3=>∃o,DGet H3 a y o/\Q (o.getD z) H3
section
variable {X:Cx}{o e f:Expr}{apos cpos:Pos}{td ty tx:TE}
def MR (hu:X.A.units+1<cLine)(ho:PE X o td)(he:PE X e ty)(m:M1 X o "get" apos e cpos):PE X (.Call (.Attribute o "get" apos) [e] [] cpos) (MP td ty):=by
 intro Y s Z H Q I h;refine wpAny_Call_method m.base m.few m.line PySem.F.plainAttrs_dict PySem.F.slot_dict_get PySem.F.type_dict_get (thn (ho Y s Z H _ I h) λu s1 ⟨x,H1,I1,rx,a,ex,d,q1⟩=>?_);subst ex;obtain rfl:u=Value.ref a:=rx;obtain⟨t1,t2,_⟩:=E8 I1 d;refine⟨t1,t2,?_⟩;rw[m.trees];refine Calls.callWith_builtin rfl (Calls.evalArgs_plain (Calls.spliced_cons (thn (he Y s1 Z H1 _ I1 q1) λiv s2 ⟨y,H2,I2,ry,ov,g,q2⟩=>Calls.spliced_nil ?_)));exact MN hu I2 g ry λw' s3 I3 rw'=>⟨_,H2,I3,rw',q2⟩
def MS (hu:X.A.units+1<cLine)(ho:PE X o td)(he:PE X e ty)(hf:PE X f tx)(m:M2 X o "get" apos e f cpos):PE X (.Call (.Attribute o "get" apos) [e,f] [] cpos) (MQ td ty tx):=by
 intro Y s Z H Q I h;refine wpAny_Call_method m.base m.few m.line PySem.F.plainAttrs_dict PySem.F.slot_dict_get PySem.F.type_dict_get (thn (ho Y s Z H _ I h) λu s1 ⟨x,H1,I1,rx,a,ex,d,q1⟩=>?_);subst ex;obtain rfl:u=Value.ref a:=rx;obtain⟨t1,t2,_⟩:=E8 I1 d;refine⟨t1,t2,?_⟩;rw[m.trees];refine Calls.callWith_builtin rfl (Calls.evalArgs_plain (Calls.spliced_cons (thn (he Y s1 Z H1 _ I1 q1) λiv s2 ⟨y,H2,I2,ry,q2⟩ =>
  Calls.spliced_cons (thn (hf Y s2 Z H2 _ I2 q2) λfv s3 ⟨z,H3,I3,rz,ov,g,q3⟩=>Calls.spliced_nil ?_))))
 exact MO hu I3 g ry rz λw' s4 I4 rw'=>⟨_,H3,I4,rw',q3⟩
end
end L2
namespace Att
open PySem PySem.W PySem.Calls PyProof.Rows
def MT {P:Params}{h:Heap}:∀(ns:Ye) (vs:Yd),WellAll P h vs (ns.map WData.int)->IntsAre vs ns:=by
 intro ns
 induction ns with
 |nil =>
  intro vs w;rw[Uu] at w;cases w;exact .nil
 |cons n ns ih =>
  intro vs w;rw[Zl] at w;cases w with
  |cons a b =>
   cases a;exact .cons _ _ (ih _ b)
def MU {l:OpenLaw}{n:Nat}(hn:l.most=some n){P:Params}{h:Heap}{args:List WData}{vals:Yd}
 (hpre:l.row.toRowW.claim.pre args=true) (hwl:WellAll P h vals args):
 ∃a vs ns,vals=[Value.ref a]/\args=[WData.list (ns.map WData.int)]/\h.get? a=some { cls:=.type "list",data:=.seq vs.toArray }/\IntsAre vs ns/\ns.length<=n:=by
 have hsh:WShape.hasAll [] args [.list .int]=true:=(pre_splitW hpre).1;have hc:l.pre.holds [] { args:=args }=true:=(pre_splitW hpre).2;obtain⟨d,r,rfl,h1,h2⟩:=hasAllW_cons hsh;obtain rfl:=hasAllW_nil h2;obtain⟨xs,rfl,h3⟩:=hasW_list h1;obtain⟨ns,rfl⟩:=items_int h3;have hlen:ns.length<=n:=by
  unfold OpenLaw.pre at hc;have h4:(WTm.not (.lt (.lit (.int (n:Int))) (.len (.arg 0)))).holds [] { args:=[.list (ns.map .int)] }=true:=by
   have h4:=(holds_andW hc).1;rw[hn] at h4;exact h4
  have h5:=condW_of h4 (w_not (w_lt w_lit (w_len_list (w_arg rfl))));rw[Zql] at h5;refine Nat.le_of_not_lt λq=>?_;have q':(n:Int)<((ns.length:Nat):Int):=()
  first
   | (rw[Zp q'] at h5;exact Zn h5 (by decide))
   | (simp at h5;omega)
 cases hwl with
 |cons w1 w2 =>
  cases w2;cases w1 with
  |list ho hall=>exact⟨_,_,ns,rfl,rfl,ho,MT ns _ hall,hlen⟩
def MV (l:OpenLaw)(args:List WData):l.row.toRowW.claim.post args (.bool true) args=true:=
 postW_of (r:=l.row.toRowW) (X:=(true == true))
  (show WShape.has [] (.bool true) .bool=true by first|rfl|decide|simp[WShape.has,WShape.arms,WShape.armsAll])
  (show(WTm.eq .res (.lit (.bool true))).value [] { args:=args,res:=some (.bool true),after:=args }=some (.bool (true == true)) from w_eq_bool (w_res rfl) w_lit) rfl
def attach_call {l:OpenLaw}{n:Nat}{q:Program}{loose:Yh}{XP:(Yc)->Heap->Prop}{YP:World->Heap->Prop}{d:DefRec}
 (hn:l.most=some n) (hdf:d.params.defaults=[])
 (call:∀(w:World) (s₀ s₁:Shared) (mg mb:Yc) (fa:Addr) (o:Obj) (pm cd doc:Value) (a:Addr) (vs:Yd) (ns:Ye),
  Ground q loose [] XP w s₀ mg mb s₁.heap->YP w s₁.heap ->
  s₁.heap.get? fa=some o->o.data=.func (docDef d.name d.params d.body d.scope pm cd doc)->s₁.heap.CodeRec cd d.name->mg d.name=some (.ref fa) ->
  s₁.heap.get? a=some { cls:=.type "list",data:=.seq vs.toArray }->IntsAre vs ns->ns.length<=n->s₁.gens = #[] ->
  codeAny (model l.prog w) callerA (.call (.ref fa) ⟨[.ref a],[]⟩) (λr s'=>r=.ok (.ret (.bool true))/\OldK s₁.heap s'.heap/\s'.os=s₁.os/\AllBare s'.gens) s₁):
 WalkO q loose XP YP l.row.toRowW d [] (λf vs=>PySem.call f vs):=by
 intro w s₀ s₁ mg mb G Yy fa o pm cd doc dV kV ho hd hcd hD hmg hg args vals as hpre hlay hrd hwl hlo;obtain rfl:dV=.none:=Dflts.none hD hdf;obtain rfl:kV=.none:=Dflts.noKw hD;obtain⟨a,vs,ns,rfl,rfl,hobj,hints,hlen⟩:=MU hn hpre hwl;refine enter_call (codeAny_mono (call w s₀ s₁ mg mb fa o pm cd doc a vs ns G Yy ho (fd_plain hd) hcd hmg hobj hints hlen hg) λr s' hq=>?_);obtain⟨rfl,h2,h3,h4⟩:=hq;exact⟨.inl ⟨.bool true,.bool true,[],rfl,λ_=>rfl,.bool true,MV l _,λ_=>⟨List.Pairwise.nil,λ_ hm=>(nomatch hm)⟩⟩,h2,h3,h4⟩
end Att
namespace L2
def MW:∀{vs:Yd} {ns:Ye},IntsAre vs ns->Vals (ns.map V.int) vs:=λh=>by
 induction h with
 |nil=>exact .nil
 |cons n t _ ih=>exact .cons ⟨t,rfl⟩ ih
def Only (H:Hp):Prop:=∀b,H b=none\/∃o xs,H b=some (.frz o (.lst xs))
def MX {P:Program}{w:World}{K:W.Frag}{mg mb:Yc}{CX:CXT}{k:Nat}{fa a:Addr}{fd:FuncData}{x:Str}{sp:Sp}{s₁:Shared}{vs:Yd}{ns:Ye}
 (KX:K.In s₁.heap) (hns:s₁.heap.Ns mainGlobals mg) (hb:s₁.heap.Ns builtinsNs mb) (hbb:∀x:Str,x ≠ "__name__" -> mb x=bootBuiltins x) (hlim:s₁.heap.NoLimit) (hg:s₁.gens = #[])
 (ha:s₁.heap.get? a=some { cls:=.type "list",data:=.seq vs.toArray }) (hi:IntsAre vs ns) (hl:ns.length<=sizeLine) (hr:Room k callerA)
 (F:∀base:Heap,K.In base->base.Ns mainGlobals mg->FnOk P w K mg base CX k fa fd [x] sp) (hbind:∀(s:Shared) (u:Value),BindsTo s fd ⟨[u],[]⟩ [(x,u)])
 (hsp:∀H:Hp,Only H->SqL K H a (ns.map V.int)->sp [.ref a] H (λv _=>v=.bl true) λ_ _ _=>False)
 (hCX:∀H e s',CX [] H s₁ (λ_ _ _=>False) e s'->False):
 codeAny (model P w) callerA (.call (.ref fa) ⟨[.ref a],[]⟩) (λr s'=>r=.ok (.ret (.bool true))/\OldK s₁.heap s'.heap/\s'.os=s₁.os/\AllBare s'.gens) s₁:=by
 have rv:=MW hi;have lenV:=hi.length;have core:∀H:Hp,Only H->SqL K H a (ns.map V.int)->HOk P w H s₁.heap->(∀b,H b≠none->b=a)->(H a≠none->K.lookup a=none) ->
  codeAny (model P w) callerA (.call (.ref fa) ⟨[.ref a],[]⟩) (λr s'=>r=.ok (.ret (.bool true))/\OldK s₁.heap s'.heap/\s'.os=s₁.os/\AllBare s'.gens) s₁:=by
  intro H hO hS hok hA hK;have base_of:∀{b:Addr} {o:Obj},s₁.heap.get? b=some o->H b=none->(hidT s₁.heap H).get? b=some o:=λe n=>La e n;have noA:∀{b:Addr} {o:Obj} {es:Array DictEntry} {ep:Nat},s₁.heap.get? b=some o->o.data=.dict es ep->H b=none:=λ{b o es ep} e d=>by
   cases q:H b with
   |none=>rfl
   |some u =>
    have e':b=a:=hA b (by rw[q];simp);subst e';rw[ha] at e;cases e;have d':Data.seq vs.toArray _=Data.dict es ep:=d;cases d'
  have nsK:∀{b:Addr} {m:Yc},s₁.heap.Ns b m->(hidT s₁.heap H).Ns b m:=λ{b m} ⟨o,es,ep,e,d,r⟩=>⟨o,es,ep,base_of e (noA e d),d,r⟩;have hKb:K.In (hidT s₁.heap H):=λb o e=>base_of (KX b o e) (by
   cases q:H b with
   |none=>rfl
   |some u =>
    have e':b=a:=hA b (by rw[q];simp);subst e';rw[hK (by rw[q];simp)] at e;cases e)
  have hM:Mod K mg (hidT s₁.heap H):=⟨hKb,nsK hns,⟨mb,nsK hb,hbb⟩,let ⟨mc,h1,h2⟩:=hlim;⟨mc,nsK h1,h2⟩⟩;have e0:Env0 P w K mg (hidT s₁.heap H) callerA [] s₁ H:=⟨rfl,hM,λb o e=>Lb e,Yq (IZ _ _),trivial,λb hb=>Zn (show b∈([]:Yi) from hb) (by simp),hok,.of_eq hg⟩;refine codeAny_mono ((F _ hKb (nsK hns)).run callerA [] s₁ H ⟨[.ref a],[]⟩ [.ref a] [.ref a] _ _ hr e0 (hbind s₁ (.ref a)) (.cons rfl .nil) (hsp H hO hS)) λr s' h=>?_;cases r with
  |error e=>exact(hCX H e s' h).elim
  |ok fl =>
   cases fl with
   |next=>exact False.elim h
   |brk=>exact False.elim h
   |cont=>exact False.elim h
   |ret u =>
    obtain⟨v,H',os,bare,un,hok',r',q⟩:=h;have q':v=.bl true:=q;subst q';obtain rfl:u=Value.bool true:=r';refine⟨rfl,OldK.of_keep λb o e=>?_,os,bare⟩;cases q:H b with
    |none=>exact un.keep b o e q (by intro z;exact Zn (show b∈([]:Yi) from z) (by simp)) (by simp)
    |some u =>
     rcases hO b with z|⟨ob,xs,z⟩
     .rw[q] at z;cases z
     .have z2:=un.frzs b ob _ z;obtain⟨e1,_⟩:=hok b _ z;obtain⟨e2,_⟩:=hok' b _ z2;rw[e] at e1;cases e1;exact e2
 cases hk:K.lookup a with
 |some o =>
  have e:=KX a o hk;rw[ha] at e;cases e;refine core (λ_=>none) (λ_=>.inl rfl) (.inr ⟨_,vs.toArray,_,hk,rfl,rfl,rfl,by rw[Zm,lenV];exact hl,by simpa using rv⟩) (λb u z=>by have z':(none:Option HO)=some u:=z;cases z') (λb z=>Zn rfl z) λz=>Zn rfl z
 |none =>
  refine core (λb=>if b=a then some (.frz { cls:=.type "list",data:=.seq vs.toArray } (.lst (ns.map V.int))) else none) (λb=>?_) (.inl (.inr ⟨{ cls:=.type "list",data:=.seq vs.toArray },Zd rfl⟩)) (λb u z=>?_) (λb z=>?_) λ_=>hk
  .by_cases hb:b=a
   .exact .inr ⟨_,_,Zd hb⟩
   .exact .inl (Ze hb)
  .by_cases hb:b=a
   .have z':=(Zd hb).symm.trans z;cases z';subst hb;exact⟨ha,by rw[Zql];exact hl,vs,_,rv,ha⟩
   .have z':=(Ze hb).symm.trans z;cases z'
  .by_cases hb:b=a
   .exact hb
   .exact Zn (Ze hb) z
def walk_of {l:W.OpenLaw}{n k:Nat}{q:Program}{loose:Yh}{XP:(Yc)->Heap->Prop}{YP:World->Heap->Prop}{d:DefRec}{K:Params->W.Frag}{CX:World->CXT}{sp:World->Sp}{x:Str}
 (hn:l.most=some n) (hn2:n<=sizeLine) (hdf:d.params.defaults=[]) (hr:Room k callerA)
 (hY:∀(w:World) (h:Heap),YP w h->(K w.params).In h)
 (F:∀(w:World) (mg:Yc) (fa:Addr) (h:Heap),(K w.params).In h->h.Ns mainGlobals mg->mg d.name=some (.ref fa) ->
  ∃fd:FuncData,(∀(s:Shared) (u:Value),BindsTo s fd ⟨[u],[]⟩ [(x,u)]) /\
   ∀base:Heap,(K w.params).In base->base.Ns mainGlobals mg->FnOk l.prog w (K w.params) mg base (CX w) k fa fd [x] (sp w))
 (hsp:∀(w:World) (H:Hp) (a:Addr) (ns:Ye),ns.length<=n->Only H->SqL (K w.params) H a (ns.map V.int)->sp w [.ref a] H (λv _=>v=.bl true) λ_ _ _=>False)
 (hCX:∀(w:World) (H:Hp) (s:Shared) (e:Value) (s':Shared),CX w [] H s (λ_ _ _=>False) e s'->False):
 W.WalkO q loose XP YP l.row.toRowW d [] (λf vs=>PySem.call f vs):=by
 refine Att.attach_call hn hdf λw s₀ s₁ mg mb fa o pm cd doc a vs ns G Yy ho hd hcd hmg hobj hints hlen hg=>?_;have KX:=hY w _ Yy;obtain⟨fd,hb,hF⟩:=F w mg fa _ KX G.T.g hmg;exact MX KX G.T.g G.T.b G.T.builtins G.T.nolimit hg hobj hints (Zh hlen hn2) hr hF hb (λH hO hS=>hsp w H a ns hlen hO hS) λH e s'=>hCX w H s₁ e s'
def E9 (s:Stmt)(j:Nat):Stmt:=match s with
 | .ClassDef _ _ _ body _ _ _ _ _ _ _=>body.getD j (.Pass ⟨0,0,0,0⟩)
 |_=>.Pass ⟨0,0,0,0⟩
def XB (s:Stmt):Arguments:=match s with
 | .FunctionDef _ a _ _ _ _ _ _ _ _=>a
 |_=>{ posonlyargs:=[],args:=[],vararg:=none,kwonlyargs:=[],kw_defaults:=[],kwarg:=none,defaults:=[] }
def V2 (s:Stmt):List Stmt:=match s with
 | .FunctionDef _ _ b _ _ _ _ _ _ _=>b
 |_=>[]
def JD (s:Stmt):Scope:=match s with
 | .FunctionDef _ _ _ _ _ _ sc _ _ _=>sc
 |_=>{ kind:=.function,names:=[],isGenerator:=false,isCoroutine:=false }
abbrev CX0:CXT:=λ_ _ _ _ _ _=>False
abbrev E0:XK:=λ_ _ _=>False
def EA {X:Cx}:X9 CX0 X E0:=λ_ _ _ _ _ _ _ h=>h.elim
structure Fun (K:W.Frag)(x qual:Str)(st:Stmt)(f:Addr)(fd:FuncData):Prop where
 ex:∃(oc:Value) (od:Option Addr) (kV doc pm:Value) (an:Option Addr) (cdv ct:Value) (osl:Array (Option Value)),
  fd=W.fnOf x qual (XB st) (V2 st) (JD st) .none kV doc pm an cdv ct/\K.lookup f=some ⟨oc,od,.func fd,osl⟩/\W.codeIn K cdv qual=true
 kp:W.keepIn K (.ref f)=true
section
variable {P:Program}{w:World}{K:W.Frag}{mg:Yc}{base:Heap}
def Fun.ok {x qual:Str}{st:Stmt}{f:Addr}{fd:FuncData}{N ps:Yh}{k:Nat}{sp:Sp}(F:Fun K x qual st f fd)(S:FnScope N ps (JD st))(len:∀vs H Q E,sp vs H Q E->vs.length=ps.length)
 (hbody:∀(cdv:Value) (A:Around) (outer:List Env) (s:Shared) (H:Hp) (vs:Yw) (Q:VK) (E:XK),Room k (A.deeper (envOfC qual (JD st) s.heap.objs.size f cdv))->sp vs H Q E ->
  ∃t,PSs (cxOf CX0 P w K mg base N qual (JD st) f cdv A outer s H E).nox (V2 st) t/\t { nx:=λ_ H'=>Q .non H',rt:=Q } (start N vs) H):FnOk P w K mg base CX0 (k+1) f fd ps sp:=by
 obtain⟨oc,od,kV,doc,pm,an,cdv,ct,osl,rfl,lk,hcd⟩:=F.ex;refine fn_of lk hcd S len λA outer s H vs Q E hr hsp=>?_;obtain⟨t,h,q⟩:=hbody cdv A outer s H vs Q E hr hsp;exact⟨t,h.nox,q⟩
def Fun.binds {x qual:Str}{st:Stmt}{f:Addr}{fd:FuncData}{ps:Yh}(F:Fun K x qual st f fd)
 (h:∀(kV doc pm:Value) (an:Option Addr) (cdv ct:Value) (us:Yd),us.length=ps.length->bindArgs (W.fnOf x qual (XB st) (V2 st) (JD st) .none kV doc pm an cdv ct) ⟨us,[]⟩=pure (ps.zip us)):zgd K fd ps []:=by
 obtain⟨oc,od,kV,doc,pm,an,cdv,ct,osl,rfl,lk,hcd⟩:=F.ex;exact .all (h kV doc pm an cdv ct)
def fun_mk {x qual:Str}{st:Stmt}{f:Addr}{oc:Value}{od an:Option Addr}{osl:Array (Option Value)}{kV doc pm cdv ct:Value}(l:K.lookup f=some ⟨oc,od,.func (W.fnOf x qual (XB st) (V2 st) (JD st) .none kV doc pm an cdv ct),osl⟩)
 (c:W.codeIn K cdv qual=true) (k:W.keepIn K (.ref f)=true):Fun K x qual st f (W.fnOf x qual (XB st) (V2 st) (JD st) .none kV doc pm an cdv ct):=⟨⟨oc,od,kV,doc,pm,an,cdv,ct,osl,rfl,l,c⟩,k⟩
end
def Qd {A:Around}{k:Nat}(hr:Room k A):A.units+1<cLine:=Vy (Nat.add_le_add_left (by decide:1<=64) _) hr.units
def EB {n:Nat}(h:n<=1000):n<sizeLine:=Vy h (by decide)
section
variable {X:Cx}
def pv (i:Nat){x:Str}{pos:Pos}(hN:X.N[i]? = some x:=by rfl)(hv:Vis X.env.scope x:=by first|exact Or.inl rfl|exact Or.inr (Or.inl rfl)|exact Or.inr (Or.inr rfl))(hd:(x == ("__debug__" : Str))=false:=by decide)
 (hcd:(x == ("__classdict__" : Str))=false:=by decide):PE X (.Name x pos) (tVar i):=Ld hN hv hd hcd
end
def Same (H H':Hp):Prop:=∀b o,H b=some o->H' b=some o
def Same.refl (H:Hp):Same H H:=λ_ _ h=>h
def Same.trans {H H1 H2:Hp}(a:Same H H1)(b:Same H1 H2):Same H H2:=λc o h=>b c o (a c o h)
def Same.free {H H':Hp}(e:Same H H'){l:Addr}(h:H' l=Option.none):H l=Option.none:=by
 cases q:H l with
 |none=>rfl
 |some o =>
  rw[e l o q] at h;cases h
def Same.seq {K:W.Frag}{H H':Hp}{a:Addr}{xs:Yw}(e:Same H H')(h:SqL K H a xs):SqL K H' a xs:=by
 rcases h with (h|⟨o,h⟩)|h
 .exact .inl (.inl (e _ _ h))
 .exact .inl (.inr ⟨o,e _ _ h⟩)
 .exact .inr h
section
variable {X:Cx}
def MY:za1 X (.builtin "len") (λxs H Q=>∃a kvs,xs=[V.ref a]/\H a=some (.dK kvs)/\Q (.int kvs.length) H):=by
 intro Y s Z H xs us Q I r h;obtain⟨a,kvs,rfl,ha,q⟩:=h;obtain⟨u,rfl,ru⟩:=Q7 r;cases ru;exact d_len I (.inl ha) λt s' I'=>⟨.int kvs.length,H,I',⟨t,rfl⟩,q⟩
end
end L2
def J3 {P:Prop}{α: Type}{z:α}(h:none=some z):P:=by cases  h
def JB {P:Prop}(h:false=true):P:=by cases  h
namespace L2
theorem BB (env:Env):∀(names:List (Str×NameKind)) (acc:List (Str×Addr)),(∀y∈names,y.2=.free->∃c,env.cells.lookup y.1=some c) ->
 ∃cl,(forIn names acc λ(x:Str×NameKind) (r:List (Str×Addr))=>(match x with
  | (name,kind)=>if(kind == NameKind.free)=true then do let a <- cellOf env name;pure (ForInStep.yield ((name,a)::r)) else pure (ForInStep.yield r):Sem (ForInStep (List (Str×Addr)))))=(pure cl:Sem (List (Str×Addr))) /\
  (∀x c,cl.lookup x=some c->env.cells.lookup x=some c\/acc.lookup x=some c)/\(∀x c,acc.lookup x=some c->∃c',cl.lookup x=some c')/\∀y∈names,y.2=.free->∃c,cl.lookup y.1=some c
 | [],acc,_=>⟨acc,rfl,λ_ _ h=>.inr h,λx c h=>⟨c,h⟩,λ_ h=>nomatch h⟩
 | (n,k)::r,acc,h=>by
  rw[List.forIn_cons];cases hk:(k == NameKind.free) with
  |true =>
   have hk':k=.free:=by cases k<;>first|rfl|(exact Zn hk (by decide))
   obtain⟨c,hc⟩:=h (n,k) Zqs hk';obtain⟨cl,e,h1,h2,h3⟩:=BB env r ((n,c)::acc) λy hy=>h y (Zqm _ hy);refine⟨cl,?_,λx c' hx=>?_,λx c' hx=>?_,λy hy hf=>?_⟩
   .simp only[hk,if_true,cellOf,hc];exact e
   .rcases h1 x c' hx with q|q
    .exact .inl q
    .rw[Ur] at q;cases hb:x == n with
     |true =>
      rw[hb] at q;cases q;have:x=n:=by simpa using hb
      subst this;exact .inl hc
     |false=>rw[hb] at q;exact .inr q
   .cases hb:x == n with
    |true=>exact h2 x c (by rw[Ur,hb])
    |false=>exact h2 x c' (by rw[Ur,hb];exact hx)
   .rcases UB.mp hy with rfl|hy
    .exact h2 n c (by rw[Ur,beq_self_eq_true])
    .exact h3 y hy hf
  |false =>
   obtain⟨cl,e,h1,h2,h3⟩:=BB env r acc λy hy=>h y (Zqm _ hy);refine⟨cl,?_,h1,h2,λy hy hf=>?_⟩
   .simp only[hk,Uf,if_false];exact e
   .rcases UB.mp hy with rfl|hy
    .rw[show k=.free from hf] at hk;exact Zn hk (by decide)
    .exact h3 y hy hf
def MZ (env:Env)(scope:Scope)(h:∀y∈scope.names,y.2=.free->∃c,env.cells.lookup y.1=some c):
 ∃cl,closureFor scope env=pure cl/\(∀x c,cl.lookup x=some c->env.cells.lookup x=some c)/\∀y∈scope.names,y.2=.free->∃c,cl.lookup y.1=some c:=by
 obtain⟨cl,e,h1,_,h3⟩:=BB env scope.names [] h;refine⟨cl,?_,λx c hx=>(h1 x c hx).elim id (λq=>by simp at q),h3⟩;simp only[closureFor]
 first
 | (rw[e];rfl)
 |exact(Zt (· >>= λcs=>pure cs) e)
theorem ZT {env:Env}{x:Str}:∀{names:List (Str×NameKind)},
 (names.lookup x=some .free->(names.map λ(n,k)=>if(k == NameKind.free&&env.scope.kind == .function&&env.kindOf n == some .cell) then(n,NameKind.cell) else(n,k)).lookup x=some .cell\/(names.map λ(n,k)=>if(k == NameKind.free&&env.scope.kind == .function&&env.kindOf n == some .cell) then(n,NameKind.cell) else(n,k)).lookup x=some .free) /\
 (∀k',(names.map λ(n,k)=>if(k == NameKind.free&&env.scope.kind == .function&&env.kindOf n == some .cell) then(n,NameKind.cell) else(n,k)).lookup x=some k'->(k'=.cell\/k'=.free)->names.lookup x=some .free\/names.lookup x=some .cell)
 | []=>⟨λh=>by simp at h,λ_ h=>by simp at h⟩
 | (n,k)::r=>by
  obtain⟨ih1,ih2⟩:=@ZT env x r;simp only[Zl];cases hx:x == n with
  |true =>
   refine⟨λh=>?_,λk' h hk'=>?_⟩
   .simp only[Ur,hx] at h;obtain rfl:=Zqi h;by_cases hc:(NameKind.free == NameKind.free&&env.scope.kind == .function&&env.kindOf n == some .cell)=true
    .rw[Zd hc];simp[Ur,hx]
    .rw[Ze hc];simp[Ur,hx]
   .rw[Ur,hx];by_cases hq:(k == NameKind.free&&env.scope.kind == .function&&env.kindOf n == some .cell)=true
    .have:k=.free:=by
      cases k<;>first|rfl|(simp at hq)
     rw[this];exact .inl rfl
    .rw[Ze hq] at h;simp only[Ur,hx] at h;have h:k=k':=by simpa using h
     subst h;rcases hk' with z|z
     .rw[z];exact .inr rfl
     .rw[z];exact .inl rfl
  |false =>
   refine⟨λh=>?_,λk' h hk'=>?_⟩
   .simp only[Ur,hx] at h
    split<;>simp only[Ur,hx]<;>exact ih1 h
   .rw[Ur,hx];refine ih2 k' ?_ hk'
    split at h<;>simp only[Ur,hx] at h<;>exact h
theorem XC:∀(names:List (Str×NameKind)) (n:Nat) (acc:List (Str×Addr)),cellsFrom n names acc=cellsFrom n names []++acc
 | [],_,_=>rfl
 | (name,kind)::r,n,acc=>by
  unfold cellsFrom
  split
  .rw[XC r (n+1) ((name,n)::acc),XC r (n+1) [(name,n)],UC];rfl
  .exact XC r n acc
theorem BC:∀(names:List (Str×NameKind)) (n:Nat) (acc:List (Str×Addr)),(x,c)∈cellsFrom n names acc->(x,c)∈acc\/(x,NameKind.cell)∈names
 | [],_,_,h=>.inl h
 | (name,kind)::r,n,acc,h=>by
  unfold cellsFrom at h
  split at h
  .rename_i hk;rcases BC r (n+1) ((name,n)::acc) h with z|z
   .rcases UB.mp z with z|z
    .cases z;have:kind=.cell:=by cases kind<;>first|rfl|(exact Zn hk (by decide))
     subst this;exact .inr Zqs
    .exact .inl z
   .exact .inr (Zqm _ z)
  .rcases BC r n acc h with z|z
   .exact .inl z
   .exact .inr (Zqm _ z)
def EC:Option NameKind->Bool
 |some .cell=>true
 |_=>false
def Na (h:EC o=true):o=some .cell:=by
 cases o with
 |none=>exact JB h
 |some k=>cases k<;>first|rfl|exact JB h
structure CellsAt (scope:Scope)(env:Env)(cl:List (Str×Addr))(C:Addr)(h1:Heap):Prop where
 from_:∀x c,cl.lookup x=some c->(env.cells.lookup x=some c/\scope.names.lookup x≠some .cell)\/(C<c/\h1.IsCell c none)
 free:∀x,scope.names.lookup x=some .free->∃c,cl.lookup x=some c/\env.cells.lookup x=some c
 own:∀x,scope.names.lookup x=some .cell->∃c,cl.lookup x=some c
 inj:∀x y c,cl.lookup x=some c->cl.lookup y=some c->x=y
def Nb (he:∀x c,cl.lookup x=some c->env.cells.lookup x=some c)(hf:∀y∈scope.names,y.2=.free->∃c,cl.lookup y.1=some c)
 (inj:∀x y c,env.cells.lookup x=some c->env.cells.lookup y=some c->x=y) (low:∀x c,env.cells.lookup x=some c->c<=C) (hC:h0.objs.size=C+1) (hc:∀y∈scope.names,y.2=.cell->scope.names.lookup y.1=some .cell):
 CellsAt scope env (cellsFrom (C+1) scope.names cl) C (pushCells h0 scope.names):=by
 have ok:=cellsFrom_ok scope.names h0 (C+1) [] ⟨λ_ _ hm=>(nomatch hm),List.Pairwise.nil⟩ (Yq hC.symm);rw[hC] at ok;have look:∀x c,(cellsFrom (C+1) scope.names cl).lookup x=some c->((x,c)∈cellsFrom (C+1) scope.names [])\/(cl.lookup x=some c/\scope.names.lookup x≠some .cell):=λx c e=>by
  rw[XC,List.lookup_append] at e;cases q:(cellsFrom (C+1) scope.names []).lookup x with
  |some d =>
   rw[q] at e;have e:some d=some c:=e;obtain rfl:=Zqi e;exact .inl (PySem.mem_of_lookup q)
  |none =>
   rw[q] at e;refine .inr ⟨e,λz=>?_⟩;have:=W.cellsFrom_some scope.names (C+1) [] (.inl z);rw[q] at this;exact JB this
 refine⟨λx c e=>?_,λx e=>?_,λx e=>?_,λx y c e1 e2=>?_⟩
 .rcases look x c e with z|⟨z1,z2⟩
  .exact .inr ⟨(ok.empty x c z).2,(ok.empty x c z).1⟩
  .exact .inl ⟨he x c z1,z2⟩
 .obtain⟨c,hc'⟩:=hf (x,.free) (PySem.mem_of_lookup e) rfl;refine⟨c,?_,he x c hc'⟩;rw[XC,List.lookup_append];cases q:(cellsFrom (C+1) scope.names []).lookup x with
  |some d =>
   rcases BC _ _ _ (PySem.mem_of_lookup q) with z|z
   .cases z
   .have:=hc (x,.cell) z rfl;rw[e] at this;cases this
  |none=>exact hc'
 .exact Jo.mp (W.cellsFrom_some scope.names (C+1) cl (.inl e))
 .rcases look x c e1 with z|⟨z1,_⟩<;>rcases look y c e2 with w|⟨w1,_⟩
  .exact PySem.name_of_addr ok.apart z w
  .exact Zn (low y c (he y c w1)) (Nat.not_le_of_lt (ok.empty x c z).2)
  .exact Zn (low x c (he x c z1)) (Nat.not_le_of_lt (ok.empty y c w).2)
  .exact inj x y c (he x c z1) (he y c w1)
def Nc
 (hQ:Q (newEnv scope s.heap.objs.size globals (cellsFrom (s.heap.objs.size+1) scope.names cl) qual none .none (some env) builtinsNs) { s with heap:=pushCells (s.heap.push { cls:=.type "dict",data:=.dict #[] }) scope.names }):
 wpAny M A (newFunctionEnv scope globals cl [] qual none .none (some env)) Q E s:=by
 simp only[newFunctionEnv,Option.isSome_some,if_true];refine Za (wpAny_alloc ?_);refine Za (wpAny_layCells _ (λname kind cells=>by cases hkc:kind == NameKind.cell<;>simp[hkc]) _ _ _ _ ?_);rw[show({ s with heap:=s.heap.push { cls:=.type "dict",data:=.dict #[] } }:Shared).heap.objs.size=s.heap.objs.size+1 from Heap.size_push ..];rw[List.forIn_nil];exact Za (Zb (Zb hQ))
def BD (X:Cx)(C:Addr):Ya:=λx s'=>∃m,s'.heap.Ns C m/\∀h',Heap.SameBut C s'.heap h'->∀cenv:Env,cenv.locals=C->YA X (passOn "comprehension.variables-let-go" x cenv:Sem Value) (λ_ _=>False) X.xe { s' with heap:=h' }
def JI (X:Cx)(scope:Scope)(N:Yh)(cl:List (Str×Addr))(C:Addr)(s:Shared)(H:Hp)(ex:Yi):Cx where
 prog:=X.prog
 w:=X.w
 K:=X.K
 mg:=X.mg
 base:=X.base
 A:=X.A
 N:=N
 s₀:=s
 H₀:=H
 env:=compEnvC scope cl C X.env
 outer:=X.stack
 stack:=X.stack
 ex:=ex
 fn:=λx=>EC (scope.names.lookup x)
 calm:=X.calm
 pn:=[]
 xe:=notedBy (model X.prog X.w) X.A (compEnvC scope cl C X.env) (BD X C)
def XD (X:Cx)(C:Addr)(s:Shared)(H:Hp)(ex:Yi):Prop:=∃Y Z,Inv X Y Z H s/\(∀b∈ex,FpOk X Y H b)/\s.heap.objs.size<=C
def KN (cap:List (Option Nat))(Z: St):St:=cap.map λo=>o.bind λj=>(Z[j]?).join
structure CompOk (X:Cx)(scope:Scope)(N:Yh)(cap:List (Option Nat)):Prop where
 kind:scope.kind=.function
 loc:∀y∈scope.names,y.2=.local->scope.names.lookup y.1=some .local
 cell:∀y∈scope.names,y.2=.cell->scope.names.lookup y.1=some .cell
 free:∀y∈scope.names,y.2=.free->X.env.kindOf y.1=some .cell\/X.env.kindOf y.1=some .free
 len:cap.length=N.length
 cap:∀(i j:Nat) (x:Str),cap[i]? = some (some j)->N[i]? = some x->X.N[j]? = some x/\scope.names.lookup x=some .free
def QQ (scope:Scope)(env:Env)(N' N:Yh)(cap:List (Option Nat)):Bool:=
 decide (scope.kind=.function)&&scope.names.all (λy => !decide (y.2=.local)||decide (scope.names.lookup y.1=some .local))&&scope.names.all (λy => !decide (y.2=.cell)||decide (scope.names.lookup y.1=some .cell)) &&
 scope.names.all (λy => !decide (y.2=.free)||(decide (env.kindOf y.1=some .cell)||decide (env.kindOf y.1=some .free)))&&decide (cap.length=N'.length) &&
 (N'.zip cap).all (λp=>match p.2 with|none=>true|some j=>decide (N[j]? = some p.1)&&decide (scope.names.lookup p.1=some .free))
def CompOk.of {X:Cx}{scope:Scope}{N:Yh}{cap:List (Option Nat)}(h:QQ scope X.env N X.N cap=true):CompOk X scope N cap:=by
 unfold QQ at h;simp only[Uc,Uo,decide_eq_true_eq,UU,Bool.not_eq_true',decide_eq_false_iff_not] at h;obtain⟨⟨⟨⟨⟨h1,h2⟩,h3⟩,h4⟩,h5⟩,h6⟩:=h;refine⟨h1,λy hy hl=>?_,λy hy hl=>?_,λy hy hf=>?_,h5,λi j x e1 e2=>?_⟩
 .rcases h2 y hy with z|z
  .exact Zn hl z
  .exact z
 .rcases h3 y hy with z|z
  .exact Zn hl z
  .exact z
 .rcases h4 y hy with z|z
  .exact Zn hf z
  .exact z
 .have hm:(x,some j)∈N.zip cap:=by
   refine Ud (i:=i) ?_;rw[VJ];exact⟨e2,e1⟩
  have q:=h6 (x,some j) hm;simpa using q
section
variable {X:Cx}{scope:Scope}{N:Yh}{cap:List (Option Nat)}{Y:Yb}{Z: St}{H:Hp}{s:Shared}{cl:List (Str×Addr)}{C D:Addr}{fp:Yi}
def Nd (ok:CompOk X scope N cap)(I:Inv X Y Z H s)(hf:∀b∈fp,FpOk X Y H b)(hlt:∀b∈fp,b<s.heap.objs.size)
 (hcl:CellsAt scope X.env cl C h1)
 (hC:s.heap.objs.size<=C) (old:∀b o,s.heap.get? b=some o->h1.get? b=some o) (hns:h1.Ns C m):
 Inv (JI X scope N cl C s H fp) [] (KN cap Z) H { s with heap:=h1,toks:=tk }:=by
 have kf:∀x,(JI X scope N cl C s H fp).env.kindOf x=some .cell\/(JI X scope N cl C s H fp).env.kindOf x=some .free->scope.names.lookup x=some .free\/scope.names.lookup x=some .cell:=λx h=>by
  rcases h with h|h
  .exact(ZT (env:=X.env) (x:=x) (names:=scope.names)).2 _ h (.inl rfl)
  .exact(ZT (env:=X.env) (x:=x) (names:=scope.names)).2 _ h (.inr rfl)
 refine⟨⟨I.ok.mod,ok.kind,I.ok.glob,I.ok.blt,hC,hcl.inj,λx h=>?_,λx c z e=>?_,I.ok.hd,I.ok.frames,.inl rfl,λb hb=>⟨?_,λx c e=>?_⟩,I.bs,Zh I.ok.bsz I.sz,
  λb o e hb=>?_,λb hb z=>?_,I.stack,I.stkFree⟩,rfl,I.bare,Un.kept old,⟨m,hns,λi x v e1 e2 e3=>?_⟩,λx c e=>?_,I.hok.fresh hC,λx c e=>?_,λp hp=>Zn hp (by show ¬p∈([]:Yb)++[];simp),I.hok.kept old,?_⟩
 .rcases kf x h with q|q
  .obtain⟨c,e,_⟩:=hcl.free x q;exact⟨c,e⟩
  .exact hcl.own x q
 .rcases hcl.from_ x c e with ⟨_,q⟩|⟨q,_⟩
  .exact Zn (Na z) q
  .exact Zh hC (Zz q)
 .exact Zi (Zg (hlt b hb) hC)
 .rcases hcl.from_ x c e with ⟨q,_⟩|⟨q,_⟩
  .exact(hf b hb).2.2.2.2.1 x c q
  .exact U1 (UL (Zg (hlt b hb) hC) q)
 .rcases(hf b hb).2.2.2.1 with z|z
  .exact I.ok.noex b o e z
  .exact Zn (Zg (Zk e) (Zh I.ok.bsz z)) (Zy _)
 .rcases UB.mp (I.stkSub b z) with q|q
  .exact(hf b hb).2.1 q
  .exact(hf b hb).2.2.1 q
 .have e1:N[i]? = some x:=e1;have hc:∃j,cap[i]? = some (some j) /\ Z[j]? = some (some v):=by
   have e2:(cap.map λo=>o.bind λj=>(Z[j]?).join)[i]? = some (some v):=e2;rw[Zv] at e2;cases q:cap[i]? with
   |none=>rw[q] at e2;exact J3 e2
   |some o =>
    rw[q] at e2;cases o with
    |none=>cases e2
    |some j =>
     have e2:some ((Z[j]?).join)=some (some v):=e2;cases q2:Z[j]? with
     |none=>rw[q2] at e2;cases e2
     |some w=>rw[q2] at e2;exact⟨j,rfl,by cases e2;exact q2⟩
  obtain⟨j,c1,c2⟩:=hc;obtain⟨n1,n2⟩:=ok.cap i j x c1 e1;obtain⟨m0,_,hl⟩:=I.loc;have fr:=ok.free (x,.free) (PySem.mem_of_lookup n2) rfl;obtain⟨u,r,l⟩:=hl j x v n1 c2 (fr.elim (λz=>.inr (.inl z)) λz=>.inr (.inr z));refine⟨u,r,.inr ⟨(ZT (env:=X.env) (x:=x) (names:=scope.names)).1 n2,?_⟩⟩;rcases l with ⟨k,_⟩|⟨_,c,ec,z⟩
  .have k:X.env.kindOf x=some .local:=k;rcases fr with f|f<;>· rw[k] at f;cases f
  .obtain⟨c',e',e''⟩:=hcl.free x n2;rw[ec] at e'';obtain rfl:=Zqi e'';exact⟨c,e',z.keeps old⟩
 .rcases hcl.from_ x c e with ⟨q,_⟩|⟨_,q⟩
  .obtain⟨v,z⟩:=I.cell x c q;exact⟨v,z.keeps old⟩
  .exact⟨none,q⟩
 .rcases hcl.from_ x c e with ⟨q,_⟩|⟨q,_⟩
  .exact I.freeC x c q
  .exact I.hok.fresh (Zh hC (Zz q))
 .show(cap.map _).length=N.length;rw[Zql];exact ok.len
def Nf (I:Inv X Y Z H s)(hf:∀b∈fp,FpOk X Y H b)(hC:s.heap.objs.size<=C)(hD:s.heap.objs.size<=D)(hDC:D≠C)
 (J:Inv (JI X scope N cl C s H fp) [] Z' H' s') (hd:s'.heap.get? D=some { cls:=.type "list",data:=.seq its.toArray k }) (hn:H' D=none) (rv:Vals ys its) (hz:ys.length<=sizeLine) (hs:Heap.SameBut C s'.heap h')
 (q:Q (.ref D) (upd H' D (.lst ys))):EP X Y Z Q (.ref D) { s' with heap:=h' }:=by
 have nC:∀b o,s.heap.get? b=some o->b≠C:=λb o e=>Zi (Zg (Zk e) hC);have nD:∀b o,s.heap.get? b=some o->b≠D:=λb o e=>Zi (Zg (Zk e) hD);have tD:∀b u,H' b=some u->b≠D:=λb u e z=>by rw[z,hn] at e;exact J3 e
 have tC:∀b u,H' b=some u->b≠C:=λb u e z=>by
  have:=J.free;rw[z] at e;rw[show H' C=none from this] at e;exact J3 e
 have B:Un (frs X.stack) fp H H' s.heap s'.heap:=J.base;refine⟨.ref D,upd H' D (.lst ys),I.call' (s':={ s' with heap:=h' }) (ch:=fp) J.os ?_ ?_ J.bare (λb hb=>⟨(hf b hb).2.2.2.1,(hf b hb).2.1,(hf b hb).2.2.2.2.1,(hf b hb).2.2.2.2.2⟩),rfl,q⟩
 .refine⟨λb o e n hb hx=>(hs.2 b (nC b o e)).trans (B.keep b o e n hb hx),λb o e n hb hx=>?_,λb o e n hx=>?_,λb o e hx=>?_,λb xs e=>?_,λb o u e=>?_,λb ps e=>?_⟩
  .obtain⟨sl,z⟩:=B.slot b o e n hb hx;exact⟨sl,(hs.2 b (nC b o e)).trans z⟩
  .rw[JC (nD b o e)];exact B.free b o e n hx
  .obtain⟨o',z⟩:=B.there b o e hx;exact⟨o',(hs.2 b (nC b o e)).trans z⟩
  .have z:=B.tups b xs e;rw[JC (tD b _ z)];exact z
  .have z:=B.frzs b o u e;rw[JC (tD b _ z)];exact z
  .obtain⟨more,z⟩:=B.tbls b ps e;exact⟨more,by rw[JC (tD b _ z)];exact z⟩
 .intro b u e;by_cases hb:b=D
  .subst hb;rw[JL] at e;obtain rfl:=Zqi e;exact⟨hz,its,k,rv,(hs.2 b hDC).trans hd⟩
  .rw[JC hb] at e;refine(J.hok b u e).stay (λc v hc z=>(hs.2 c ?_).trans z) (λc z=>by rw[JC (tD c _ z)];exact z) (λc xs z=>by rw[JC (tD c _ z)];exact z);rcases hc with hc|hc
   .rw[hc];exact tC b u e
   .exact tC c _ hc
end
def compR (cap:List (Option Nat))(g:TG)(te:TE)(Z: St)(Q:VK):It->Hp->Prop:=λJ H1=>∃W:Nat->Nat->Yw->St->Hp->Prop,(∃m,W 0 m [] (KN cap Z) H1)/\∀i m ys Z' H',W i m ys Z' H'->ys.length<sizeLine /\
 (
  (J.stop i H'/\∀D,H' D=none->Q (.ref D) (upd H' D (.lst ys))) \/
  (J.go i H'/\∀x H2,J.yld i H' x H2->g x Z' H2 λZ2 H3=>te Z2 H3 λy H4=>∃m',m'<m/\W (i+1) m' (ys++[y]) Z2 H4))
def WV (cap:List (Option Nat))(wi:TI)(g:TG)(te:TE):TE:=λZ H Q=>wi Z H (compR cap g te Z Q)
def Ng (cap:List (Option Nat))(g:TG)(tt:TT)(te:TE)(Z: St)(Q:VK):It->Hp->Prop:=λJ H1=>∃W:Nat->Nat->Yw->St->Hp->Prop,(∃m,W 0 m [] (KN cap Z) H1)/\∀i m ys Z' H',W i m ys Z' H'->ys.length<sizeLine /\
 (
  (J.stop i H'/\∀D,H' D=none->Q (.ref D) (upd H' D (.lst ys))) \/
  (J.go i H'/\∀x H2,J.yld i H' x H2->g x Z' H2 λZ2 H3=>tt Z2 H3 λb H4=>if b=true then te Z2 H4 (λy H5=>∃m',m'<m/\W (i+1) m' (ys++[y]) Z2 H5) else ∃m',m'<m/\W (i+1) m' ys Z2 H4))
def XE (cap:List (Option Nat))(wi:TI)(g:TG)(tt:TT)(te:TE):TE:=λZ H Q=>wi Z H (Ng cap g tt te Z Q)
section
variable {X:Cx}{tg iter elt c:Expr}{scope:Scope}{pos:Pos}{wi:TI}{g:TG}{te:TE}{tt:TT}
def XF (X:Cx)(Y:Yb)(Z: St)(Q:VK)(use:Option (Value->Sem Unit))(R:Ya):Prop:=
 ∀(C D:Addr) (m:Yc) (s5:Shared) (r:Flow),s5.heap.Ns C m->¬C=X.env.locals->C∉X.fs->X.s₀.heap.objs.size<=C->(∀x c,X.env.cells.lookup x=some c->c≠C)->(∀p∈X.pn++Y,p.1≠C) ->
  (∀h',Heap.SameBut C s5.heap h'->EP X Y Z (λv H'=>H' C=none/\Q v H') (.ref D) { s5 with heap:=h' })->compPost (model X.prog X.w) X.A X.xe use R (.ref D) C (.ok r) s5
def ED:XF X Y Z Q none (EP X Y Z Q):=λC D m s5 r hm _ _ _ _ _ k=>⟨m,hm,λh' hs'=>by
 obtain⟨v,H',I',rv,_,q⟩:=k h' hs';exact⟨v,H',I',rv,q⟩⟩
def TurnI (X:Cx)(tg elt:Expr)(it acc:Value)(env:Env)(R:Result->Yu)(I:Nat->Yu)(test:(Bool->Yu)->Yu)(n:Nat)(s:Shared):Prop:=
 let E:Ya:=notedBy (model X.prog X.w) X.A env λe s'=>R (.error e) s'
 YA X (pyNext it) (λr s1=>match r with
  |none=>R (.ok .next) s1
  |some v=>YA X (letOwnedTupleGo tg it v) (λ_ s2=>YA X (assign tg env v) (λ_ s3=>test (λok s4=>if ok=true then YA X (eval elt env) (λx s5=>YA X (call (.builtin "list.append") [acc,x]) (λ_ s6=>∃m,m<n/\I m s6) E s5) E s4 else ∃m,m<n/\I m s4) s3) E s2) E s1) E s
def EE {ifs:Yj}(N:Yh){test:Env->(Result->Yu)->(Bool->Yu)->Yu}
 (lp:∀{it acc:Value} {env:Env} {R:Result->Yu} {s:Shared} (I:Nat->Yu),(∀n s,I n s->TurnI X tg elt it acc env R I (test env R) n s)->∀n,I n s->codeAny (model X.prog X.w) X.A (.compLoop (.ListComp elt [⟨tg,iter,ifs,0⟩] scope pos) 0 it acc env) R s)
 (ht:∀cl C s H ex {Y:Yb} {s7:Shared} {Z7:St} {H7:Hp} {R:Result->Yu} {q:Bool->Hp->Prop} {Q:Bool->Yu},XD X C s H ex->(∀e s',BD X C e s'->R (.error e) s')->Inv (JI X scope N cl C s H ex) Y Z7 H7 s7->tt Z7 H7 q->(∀b s8 H8,Inv (JI X scope N cl C s H ex) Y Z7 H8 s8->q b H8->Q b s8)->test (compEnvC scope cl C X.env) R Q s7)
 (cap:List (Option Nat)) (hc:X.calm=true) (okB:QQ scope X.env N X.N cap=true) (hi:PI X tg iter wi) (hg:∀cl C s H ex,PG (JI X scope N cl C s H ex) tg g) (he:∀cl C s H ex,XD X C s H ex->PE (JI X scope N cl C s H ex) elt te)
 (hs:∀x,foldedSetIterable iter X.env x=pure x) {use:Option (Value->Sem Unit)} {R:Ya} {fpos:Pos} {Y:Yb} {s:Shared} {Z: St} {H:Hp} {Q:VK} (I:Inv X Y Z H s) (h:XE cap wi g tt te Z H Q) (fin:XF X Y Z Q use R):
 YA X (comprehension (.ListComp elt [⟨tg,iter,ifs,0⟩] scope pos) scope X.env fpos (newList []) false (eval iter X.env) use) R X.xe s:=by
 have ok:=CompOk.of okB;obtain⟨cl0,hcl,hcl1,hcl2⟩:=MZ X.env scope λy hy hf=>I.ok.has y.1 (ok.free y hy hf);refine wpAny_comprehension_free (use:=use) rfl hs hcl ok.kind ok.loc (thn (hi Y s Z H _ I h) λxv s1 h1=>thn h1 λitv s2 h2=>?_);obtain⟨it,fp,tn,J,H2,e,I2,T,st2,f2,W,⟨m0,w0⟩,turn⟩:=h2;subst e;have hlt:∀b∈fp,b<s2.heap.objs.size:=λb hb=>let ⟨_,e,_⟩:=T.obj _ _ st2 b hb;Zk e
 refine wpAny_newObj_type (Nc ?_);dsimp only;generalize hP:s2.heap.push { cls:=.type "list",dict:=none,data:=.seq ([]:Yd).toArray }=P2;have hC:P2.objs.size=s2.heap.objs.size+1:=by rw[<- hP,Heap.size_push]
 have hDC:s2.heap.objs.size≠P2.objs.size:=by rw[hC];exact Zi (Vm _)
 have hCle:s2.heap.objs.size<=P2.objs.size:=by rw[hC];exact Vd _
 have below:∀b,b<s2.heap.objs.size->b≠P2.objs.size/\b≠s2.heap.objs.size:=λb hb=>⟨by rw[hC];exact Zi (UD hb),Zi hb⟩;have hcc:CellsAt scope X.env (cellsFrom (P2.objs.size+1) scope.names cl0) P2.objs.size (pushCells (P2.push { cls:=.type "dict",data:=.dict #[] }) scope.names):=
  Nb hcl1 hcl2 I2.ok.inj (λx c e=>Zh (Zz (let ⟨_,_,ho,_⟩:=I2.cell x c e;Zk ho)) hCle) (Heap.size_push ..) ok.cell
 have hns1:(pushCells (P2.push { cls:=.type "dict",data:=.dict #[] }) scope.names).Ns P2.objs.size (λ_=>none):=(Heap.Ns.new P2 (.type "dict")).keeps (pushCells_keeps _ _);generalize cellsFrom (P2.objs.size+1) scope.names cl0=cl at hcc ⊢;have old:∀b o,s2.heap.get? b=some o->(pushCells (P2.push { cls:=.type "dict",data:=.dict #[] }) scope.names).get? b=some o:=λb o e=>pushCells_keeps _ _ b o (Zq _ (hP ▸ Zq _ e));have hacc:(pushCells (P2.push { cls:=.type "dict",data:=.dict #[] }) scope.names).get? s2.heap.objs.size=some { cls:=.type "list",data:=.seq ([]:Yd).toArray 0 }:=pushCells_keeps _ _ _ _ (Zq _ (hP ▸ Zr _ rfl));generalize pushCells (P2.push { cls:=.type "dict",data:=.dict #[] }) scope.names=g1 at hcc hns1 old hacc ⊢;have stat:∀{H':Hp} {pl:Yb},(∀b∈fp,H' b=none)->(∀p∈pl,p.1∉fp)->∀b∈fp,FpOk (JI X scope N cl P2.objs.size s2 H2 fp) pl H' b:=λ{H' pl} hn hp b hb=>by
  refine⟨hn b hb,(below b (hlt b hb)).1,λz=>?_,.inl hb,λx c e=>?_,λp hq z=>?_⟩
  .rcases UB.mp (I2.stkSub b z) with q|q
   .exact(f2 b hb).2.1 q
   .exact(f2 b hb).2.2.1 q
  .rcases hcc.from_ x c e with ⟨q,_⟩|⟨q,_⟩
   .exact(f2 b hb).2.2.2.2.1 x c q
   .exact U1 (UL (Zg (hlt b hb) hCle) q)
  .have hq:p∈([]:Yb)++pl:=hq;rw[List.nil_append] at hq;exact hp p hq (by rw[z];exact hb)
 have nD:s2.heap.objs.size∉fp:=λz=>Zn (hlt _ z) (Zy _);have loop:∀s3:Shared,s3={ s2 with heap:=g1 } ->
  codeAny (model X.prog X.w) X.A (.compLoop (.ListComp elt [⟨tg,iter,ifs,0⟩] scope pos) 0 (.ref it) (.ref s2.heap.objs.size) (compEnvC scope cl P2.objs.size X.env))
   (compPost (model X.prog X.w) X.A X.xe use R (.ref s2.heap.objs.size) P2.objs.size) s3:=by
  rintro s3 rfl;have I0:=Nd (tk:=s2.toks) ok I2 f2 hlt hcc hCle old hns1;refine lp (λn s'=>∃i ys its k Z' H',Inv (JI X scope N cl P2.objs.size s2 H2 fp) [] Z' H' s'/\tn i s'.heap/\(∀b∈fp,H' b=none)/\s'.heap.get? s2.heap.objs.size=some { cls:=.type "list",data:=.seq (List.toArray its) k } /\
   H' s2.heap.objs.size=none/\Vals ys its/\W i n ys Z' H') ?_ m0
   ⟨0,[],[],0,KN cap Z,H2,I0,T.keep _ _ _ st2 (λb _ o e=>old b o e),λb hb=>(f2 b hb).1,hacc,I2.hok.fresh (Zf _),.nil,w0⟩
  have cat:XD X P2.objs.size s2 H2 fp:=⟨_,_,I2,f2,hCle⟩;have ce:∀e s',BD X P2.objs.size e s'->compPost (model X.prog X.w) X.A X.xe use R (.ref s2.heap.objs.size) P2.objs.size (.error e) s':=λe s' h=>by cases use<;>exact h
  have xe:∀e s',(JI X scope N cl P2.objs.size s2 H2 fp).xe e s'->notedBy (model X.prog X.w) X.A (compEnvC scope cl P2.objs.size X.env) (λe s'=>compPost (model X.prog X.w) X.A X.xe use R (.ref s2.heap.objs.size) P2.objs.size (.error e) s') e s':=λe s' h=>Zc h (λ_ s2 q=>ce e s2 q) λe s2 q=>ce e s2 q;rintro n s4 ⟨i,ys,its,k,Z4,H4,I4,st4,fr4,hd4,hn4,rv4,w4⟩;obtain⟨hz,tn4⟩:=turn i n ys Z4 H4 w4;have J4:Inv (JI X scope N cl P2.objs.size s2 H2 fp) [(s2.heap.objs.size,{ cls:=.type "list",data:=.seq its.toArray k })] Z4 H4 s4:=I4.pins_of λp hp=>by
   have e:=Vu.mp hp;subst e;refine⟨hd4,hn4,hDC,?_,λv z=>by cases z⟩;exact λz=>Zn (Zg (by
    rcases UB.mp (I2.stkSub _ z) with q|q
    .exact Vy (Yq q) I2.lt
    .obtain⟨_,o,ho,_⟩:=I2.ok.funs.mem q;exact Zg (Zk ho) I2.sz) (Zf s2.heap.objs.size)) (Zy _)
  have np:∀p ∈ [(s2.heap.objs.size,({ cls:=.type "list",data:=.seq its.toArray k }:Obj))],p.1∉fp:=λp hp=>by
   have e:=Vu.mp hp;subst e;exact nD
  rcases tn4 with ⟨stop,qn⟩|⟨go,step⟩
  .refine Zc (T.done (JI X scope N cl P2.objs.size s2 H2 fp) rfl rfl rfl hc i _ s4 Z4 H4 (λ_ _=>False) J4 (stat fr4 np) st4 stop) (λr s5 h5=>?_) λ_ _ f=>f.elim;obtain⟨rfl,I5⟩:=h5;obtain⟨m,hm,_⟩:=id I5.loc;have p5:=I5.pin (s2.heap.objs.size,_) (Ul _ Zqs);refine fin _ _ m _ _ hm (U1 (Zg I2.lt hCle)) (I2.nofs hCle) (Zh I2.sz hCle) (λx c e z=>?_) (λp hp z=>?_) λh' hs'=>Nf I2 f2 hCle (Zf _) hDC (I5.pins_of λp hp=>nomatch hp) p5.1 p5.2.1 rv4 (Zz hz) hs' ⟨by rw[JC (Ne.symm hDC)];exact I5.free,qn _ p5.2.1⟩
   .obtain⟨v,o,ho,hd⟩:=I2.cell x c e;have:=Zk ho;rw[z] at this;exact Zn (Zg this hCle) (Zy _)
   .have:=Zk (I2.pin p hp).1;rw[z] at this;exact Zn (Zg this hCle) (Zy _)
  .refine Zc (T.item (JI X scope N cl P2.objs.size s2 H2 fp) rfl rfl rfl hc i _ s4 Z4 H4 (λ_ _=>False) J4 (stat fr4 np) st4 go) (λr s5 h5=>?_) λ_ _ f=>f.elim;obtain⟨u,rfl,h5⟩:=h5;refine Zc h5 (λ_ s6 h6=>?_) λ_ _ f=>f.elim;obtain⟨x,H6,I6,r6,y6,st6,fr6⟩:=h6;have I6':=I6.pinned (stat fr6 np) (T.obj _ _ st6);refine Zc (hg cl P2.objs.size s2 H2 fp _ s6 Z4 H6 x u _ I6' r6 (step x H6 y6)) (λ_ s7 h7=>?_) xe;obtain⟨Z7,H7,I7,q7⟩:=h7;refine ht cl P2.objs.size s2 H2 fp cat ce I7 q7 λbv s8 H8 I8 q8=>?_;have keepT:∀(H9:Hp) (s9:Shared) (Z9:St),Inv (JI X scope N cl P2.objs.size s2 H2 fp) ([(s2.heap.objs.size,{ cls:=.type "list",data:=.seq its.toArray k })]++X6 fp s6.heap) Z9 H9 s9->(∀b∈fp,∀o,s6.heap.get? b=some o->s9.heap.get? b=some o)/\∀b∈fp,H9 b=none:=λH9 s9 Z9 I9=>by
    refine⟨λb hb o e=>(I9.pin (b,o) (Ul _ (Ul _ (ZN hb e)))).1,λb hb=>?_⟩;obtain⟨o,e,d⟩:=T.obj _ _ st6 b hb;exact(I9.pin (b,o) (Ul _ (Ul _ (ZN hb e)))).2.1
   have p8:=I8.pin (s2.heap.objs.size,_) (Ul _ (UP _ Zqs));cases bv with
   |false =>
    rw[Ze (by simp)] at q8 ⊢;obtain⟨m',hm',w8⟩:=q8;obtain⟨z1,z2⟩:=keepT _ _ _ I8;exact⟨m',hm',i+1,ys,its,k,Z7,H8,I8.pins_of (λp hp=>nomatch hp),T.keep _ _ _ st6 z1,z2,p8.1,p8.2.1,rv4,w8⟩
   |true =>
    rw[Zd rfl] at q8 ⊢;refine Zc (he cl P2.objs.size s2 H2 fp cat _ s8 Z7 H8 _ I8 q8) (λyv s9 h9=>?_) xe;obtain⟨y,H9,I9,ry,m',hm',w9⟩:=h9;have p9:=I9.pin (s2.heap.objs.size,_) (Ul _ (UP _ Zqs));have hl:=rv4.length;refine append_at (hsz:=by show its.toArray.size<=sizeLine;rw[Zm,<- hl];exact Zz hz) p9.1 λh10 hs10 hd10=>?_;have I10:Inv (JI X scope N cl P2.objs.size s2 H2 fp) [] Z7 H9 { s9 with heap:=h10 }:=(I9.pins_of (Y':=[]) λp hp=>nomatch hp).turned (t':=s9.toks) (it:=s2.heap.objs.size) (λb o hb e=>(hs10.2 b hb).trans e) p9.2.1 hDC (.inr (Zf _))
     (λx c e z=>by
      obtain⟨v,o,ho,hd⟩:=I9.cell x c e;rw[z,p9.1] at ho;cases ho;cases hd) (λp hp=>Zn hp (by show ¬p∈([]:Yb)++[];simp))
    obtain⟨z1,z2⟩:=keepT _ _ _ I9;refine⟨m',hm',i+1,ys++[y],its++[yv],k+1,Z7,H9,I10,T.keep _ _ _ st6 (λb hb o e=>?_),z2,?_,p9.2.1,Vals.append rv4 (.cons ry .nil),w9⟩
    .have hb':b≠s2.heap.objs.size:=λz=>nD (by rw[<- z];exact hb);exact(hs10.2 b hb').trans (z1 b hb o e)
    .refine hd10.trans ?_;simp
 exact codeAny_compStart_list (loop _ rfl) (T.self _ 0 _ _ _ (T.keep _ _ _ st2 (λb _ o e=>old b o e)) (loop _ rfl))
def EF (N:Yh)(cap:List (Option Nat))(hc:X.calm=true)(okB:QQ scope X.env N X.N cap=true)(hi:PI X tg iter wi)(hg:∀cl C s H ex,PG (JI X scope N cl C s H ex) tg g)(he:∀cl C s H ex,XD X C s H ex->PE (JI X scope N cl C s H ex) elt te)
 (hs:∀x,foldedSetIterable iter X.env x=pure x) {use:Option (Value->Sem Unit)} {R:Ya} {fpos:Pos} {Y:Yb} {s:Shared} {Z: St} {H:Hp} {Q:VK} (I:Inv X Y Z H s) (h:WV cap wi g te Z H Q) (fin:XF X Y Z Q use R):
 YA X (comprehension (.ListComp elt [⟨tg,iter,[],0⟩] scope pos) scope X.env fpos (newList []) false (eval iter X.env) use) R X.xe s:=
 EE (tt:=λ_ H q=>q true H) (test:=λ_ _ Q s=>Q true s) N (λI turn n h=>W.kcp_loop I turn n h) (λ_ _ _ _ _ _ _ _ _ _ _ _ _ _ I q k=>k true _ _ I q) cap hc okB hi hg he hs I h fin
def Nh (N:Yh)(cap:List (Option Nat))(hc:X.calm=true)(okB:QQ scope X.env N X.N cap=true)(hi:PI X tg iter wi)(hg:∀cl C s H ex,PG (JI X scope N cl C s H ex) tg g)(he:∀cl C s H ex,XD X C s H ex->PE (JI X scope N cl C s H ex) elt te)
 (hs:∀x,foldedSetIterable iter X.env x=pure x:=by intro _;rfl):PE X (.ListComp elt [⟨tg,iter,[],0⟩] scope pos) (WV cap wi g te):=by
 intro Y s Z H Q I h;rw[eval_ListComp];exact EF N cap hc okB hi hg he hs I h ED
def Ni (N:Yh)(cap:List (Option Nat))(hc:X.calm=true)(okB:QQ scope X.env N X.N cap=true)(hi:PI X tg iter wi)(hg:∀cl C s H ex,PG (JI X scope N cl C s H ex) tg g)(he:∀cl C s H ex,PE (JI X scope N cl C s H ex) elt te)
 (hs:∀x,foldedSetIterable iter X.env x=pure x:=by intro _;rfl):PE X (.ListComp elt [⟨tg,iter,[],0⟩] scope pos) (WV cap wi g te):=Nh N cap hc okB hi hg (λcl C s H ex _=>he cl C s H ex) hs
end
mutual
def Is (H:Hp):PyData->V->Prop
 | .none,v=>v=.non
 | .bool b,v=>v=.bl b
 | .int i,v=>v=.int i
 | .str x,v=>v=.str x
 | .list ds,v=>∃a xs,v=.ref a/\H a=some (.lst xs)/\zau H ds xs
 | .tuple ds,v=>∃a xs,v=.ref a/\H a=some (.tup xs)/\zau H ds xs
 | .dict _,_=>False
def zau (H:Hp):List PyData->Yw->Prop
 | [],xs=>xs=[]
 |d::ds,xs=>∃x r,xs=x::r/\Is H d x/\zau H ds r
end
mutual
theorem Is.same (e:Same H H'):∀(d:PyData) (v:V),Is H d v->Is H' d v
 | .none,_,h=>by unfold Is at h ⊢;exact h
 | .bool _,_,h=>by unfold Is at h ⊢;exact h
 | .int _,_,h=>by unfold Is at h ⊢;exact h
 | .str _,_,h=>by unfold Is at h ⊢;exact h
 | .list ds,v,h=>by
  unfold Is at h ⊢;obtain⟨a,xs,h1,h2,h3⟩:=h;exact⟨a,xs,h1,e _ _ h2,zau.same e ds xs h3⟩
 | .tuple ds,v,h=>by
  unfold Is at h ⊢;obtain⟨a,xs,h1,h2,h3⟩:=h;exact⟨a,xs,h1,e _ _ h2,zau.same e ds xs h3⟩
 | .dict _,_,h=>by unfold Is at h;exact h.elim
theorem zau.same (e:Same H H'):∀(ds:List PyData) (xs:Yw),zau H ds xs->zau H' ds xs
 | [],_,h=>by unfold zau at h ⊢;exact h
 |d::ds,xs,h=>by
  unfold zau at h ⊢;obtain⟨x,r,h1,h2,h3⟩:=h;exact⟨x,r,h1,Is.same e d x h2,zau.same e ds r h3⟩
end
theorem zau.length:∀{ds:List PyData} {xs:Yw},zau H ds xs->xs.length=ds.length
 | [],_,h=>by unfold zau at h;subst h;rfl
 |d::ds,xs,h=>by
  unfold zau at h;obtain⟨x,r,rfl,_,h3⟩:=h;rw[Zu,Zu,zau.length h3]
theorem zau.get:∀{ds:List PyData} {xs:Yw} {i:Nat} {d:PyData},zau H ds xs->ds[i]? = some d->∃x,xs[i]? = some x/\Is H d x
 | [],_,_,_,_,e=>by simp at e
 |d::ds,xs,0,d',h,e=>by
  unfold zau at h;obtain⟨x,r,rfl,h2,_⟩:=h;simp at e;subst e;exact⟨x,rfl,h2⟩
 |d::ds,xs,i+1,d',h,e=>by
  unfold zau at h;obtain⟨x,r,rfl,_,h3⟩:=h;obtain⟨y,h4,h5⟩:=zau.get (i:=i) h3 (by simpa using e);exact⟨y,by simpa using h4,h5⟩
theorem EG:∀(ns:Ye),zau H (ns.map PyData.int) (ns.map V.int)
 | []=>by show zau H [] [];unfold zau;rfl
 |n::ns=>by
  show zau H (PyData.int n::ns.map PyData.int) (V.int n::ns.map V.int);unfold zau;exact⟨_,_,rfl,by unfold Is;rfl,EG ns⟩
theorem EH:∀{ns:Ye} {xs:Yw},zau H (ns.map PyData.int) xs->xs=ns.map V.int
 | [],_,h=>by
  have h:zau H [] _:=h;unfold zau at h;exact h
 |n::ns,xs,h=>by
  have h:zau H (PyData.int n::ns.map PyData.int) xs:=h;unfold zau at h;obtain⟨x,r,rfl,h2,h3⟩:=h;unfold Is at h2;rw[h2,EH h3];rfl
def Is.list_iff:Is H (.list ds) v↔∃a xs,v=.ref a/\H a=some (.lst xs)/\zau H ds xs:=by unfold Is;exact Iff.rfl
def Is.tuple_iff:Is H (.tuple ds) v↔∃a xs,v=.ref a/\H a=some (.tup xs)/\zau H ds xs:=by unfold Is;exact Iff.rfl
mutual
def Qm:PyData->Bool
 | .int _=>true
 | .list xs=>Kn xs
 | .tuple xs=>Kn xs
 | .none=>false
 | .bool _=>false
 | .str _=>false
 | .dict _=>false
def Kn:List PyData->Bool
 | []=>true
 |x::xs=>Qm x&&Kn xs
end
mutual
theorem BE:∀d:PyData,Qm d=true->d.canLay0=true
 | .int _,_=>by unfold PyData.canLay0;rfl
 | .list xs,h=>by unfold Qm at h;unfold PyData.canLay0;exact BF xs h
 | .tuple xs,h=>by unfold Qm at h;unfold PyData.canLay0;exact BF xs h
 | .none,h=>by unfold Qm at h;exact JB h
 | .bool _,h=>by unfold Qm at h;exact JB h
 | .str _,h=>by unfold Qm at h;exact JB h
 | .dict _,h=>by unfold Qm at h;exact JB h
theorem BF:∀xs:List PyData,Kn xs=true->PyData.canLayAll0 xs=true
 | [],_=>by unfold PyData.canLayAll0;rfl
 |x::xs,h=>by
  unfold Kn at h;obtain⟨h1,h2⟩:=Jp.mp h;unfold PyData.canLayAll0;rw[BE x h1,BF xs h2];rfl
end
mutual
theorem BG:∀d e:PyData,Qm d=true->Qm e=true->(PyData.eqv d e=true↔d=e)
 | .int i,.int j,_,_=>by unfold PyData.eqv;simp
 | .int i,.list ys,_,_=>by unfold PyData.eqv;simp
 | .int i,.tuple ys,_,_=>by unfold PyData.eqv;simp
 | .list xs,.int j,_,_=>by unfold PyData.eqv;simp
 | .list xs,.list ys,h1,h2=>by
  unfold Qm at h1 h2;have q:=BH xs ys h1 h2;unfold PyData.eqv;rw[q];simp
 | .list xs,.tuple ys,_,_=>by unfold PyData.eqv;simp
 | .tuple xs,.int j,_,_=>by unfold PyData.eqv;simp
 | .tuple xs,.list ys,_,_=>by unfold PyData.eqv;simp
 | .tuple xs,.tuple ys,h1,h2=>by
  unfold Qm at h1 h2;have q:=BH xs ys h1 h2;unfold PyData.eqv;rw[q];simp
 | .none,_,h,_=>by unfold Qm at h;exact JB h
 | .bool _,_,h,_=>by unfold Qm at h;exact JB h
 | .str _,_,h,_=>by unfold Qm at h;exact JB h
 | .dict _,_,h,_=>by unfold Qm at h;exact JB h
 |_,.none,_,h=>by unfold Qm at h;exact JB h
 |_,.bool _,_,h=>by unfold Qm at h;exact JB h
 |_,.str _,_,h=>by unfold Qm at h;exact JB h
 |_,.dict _,_,h=>by unfold Qm at h;exact JB h
theorem BH:∀xs ys:List PyData,Kn xs=true->Kn ys=true->(PyData.eqvAll xs ys=true↔xs=ys)
 | [],[],_,_=>by unfold PyData.eqvAll;simp
 | [],y::ys,_,_=>by unfold PyData.eqvAll;simp
 |x::xs,[],_,_=>by unfold PyData.eqvAll;simp
 |x::xs,y::ys,h1,h2=>by
  unfold Kn at h1 h2;obtain⟨a1,a2⟩:=Jp.mp h1;obtain⟨b1,b2⟩:=Jp.mp h2;unfold PyData.eqvAll;rw[Bool.and_eq_true_iff,BG x y a1 b1,BH xs ys a2 b2];simp
end
def Nj (h1:Qm d=true)(h2:Qm e=true)(h:d≠e):PyData.eqv d e=false:=by
 cases q:PyData.eqv d e with
 |false=>rfl
 |true=>exact Zn ((BG d e h1 h2).mp q) h
def Nk (h1:Qm d=true):PyData.eqv d d=true:=(BG d d h1 h1).mpr rfl
section
variable {X:Cx}
def maxI:Ye->Int
 | []=>0
 |x::r=>r.foldl max x
def minI:Ye->Int
 | []=>0
 |x::r=>r.foldl min x
theorem EI:∀(r:Ye) (x:Int),x<=r.foldl max x/\(∀y∈r,y<=r.foldl max x)/\(r.foldl max x=x\/r.foldl max x∈r)
 | [],x=>⟨Int.le_refl _,(λ_ h=>nomatch h),.inl rfl⟩
 |y::r,x=>by
  obtain⟨h1,h2,h3⟩:=EI r (max x y);show x<=r.foldl max (max x y)/\(∀z∈y::r,z<=r.foldl max (max x y))/\(r.foldl max (max x y)=x\/r.foldl max (max x y)∈y::r);refine⟨(),λz hz=>?_,?_⟩
  .rcases UB.mp hz with rfl|hz
   .omega
   .exact h2 z hz
  .rcases h3 with h3|h3
   .by_cases hxy:x<=y
    .right;rw[h3,Int.max_eq_right hxy];exact Zqs
    .left;rw[h3,Int.max_eq_left ()]
   .right;exact Zqm _ h3
def EJ (h:l ≠ []):maxI l∈l/\∀y∈l,y<=maxI l:=by
 cases l with
 |nil=>exact Zn rfl h
 |cons x r =>
  obtain⟨h1,h2,h3⟩:=EI r x;refine⟨?_,λy hy=>?_⟩
  .rcases h3 with h3|h3
   .show r.foldl max x∈x::r;rw[h3];exact Zqs
   .exact Zqm _ h3
  .rcases UB.mp hy with rfl|hy
   .exact h1
   .exact h2 y hy
def EK (h1:M∈l)(h2:∀y∈l,y<=M):M=maxI l:=by
 obtain⟨q1,q2⟩:=EJ (l:=l) (by intro e;rw[e] at h1;cases h1);have a:=q2 M h1;have b:=h2 _ q1;omega
theorem EL:∀(r:Ye) (x:Int),r.foldl min x<=x/\(∀y∈r,r.foldl min x<=y)/\(r.foldl min x=x\/r.foldl min x∈r)
 | [],x=>⟨Int.le_refl _,(λ_ h=>nomatch h),.inl rfl⟩
 |y::r,x=>by
  obtain⟨h1,h2,h3⟩:=EL r (min x y);show r.foldl min (min x y)<=x/\(∀z∈y::r,r.foldl min (min x y)<=z)/\(r.foldl min (min x y)=x\/r.foldl min (min x y)∈y::r);refine⟨(),λz hz=>?_,?_⟩
  .rcases UB.mp hz with rfl|hz
   .omega
   .exact h2 z hz
  .rcases h3 with h3|h3
   .by_cases hxy:x<=y
    .left;rw[h3,Int.min_eq_left hxy]
    .right;rw[h3,Int.min_eq_right ()];exact Zqs
   .right;exact Zqm _ h3
def Nl (h:l ≠ []):minI l∈l/\∀y∈l,minI l<=y:=by
 cases l with
 |nil=>exact Zn rfl h
 |cons x r =>
  obtain⟨h1,h2,h3⟩:=EL r x;refine⟨?_,λy hy=>?_⟩
  .rcases h3 with h3|h3
   .show r.foldl min x∈x::r;rw[h3];exact Zqs
   .exact Zqm _ h3
  .rcases UB.mp hy with rfl|hy
   .exact h1
   .exact h2 y hy
def Nm (h1:M∈l)(h2:∀y∈l,M<=y):M=minI l:=by
 obtain⟨q1,q2⟩:=Nl (l:=l) (by intro e;rw[e] at h1;cases h1);have a:=q2 M h1;have b:=h2 _ q1;omega
def Nn (hc:X.calm=true):za1 X (.builtin "max") (λxs H Q=>∃a ns,xs=[.ref a]/\SqL X.K H a (ns.map V.int)/\ns ≠ []/\Q (.int (maxI ns)) H):=by
 intro Y s Z H xs us Q I r h;obtain⟨a,ns,rfl,hl,hne,q⟩:=h;obtain⟨u,rfl,ru⟩:=Q7 r;obtain rfl:u=Value.ref a:=ru;obtain⟨its,rv,p,hz⟩:=I.list hl;have hi:IntsAre its ns:=B5 rv;obtain⟨ys,e⟩:=hi.allInts.items;have hns:ns=ys.toList.map (·.1):=by
  rw[<- hi.numsOf,<- nums_intItems,<- e]
 have hsz:0<ys.size:=by
  have h3:0<ns.length:=Jk.mpr hne;rw[hns,Zql,Ui] at h3;exact h3
 have hl':=p.isList;rw[e] at hl';refine max_intList (I.ok.hd hc) hl' hsz λv h' tk hv hk=>?_;obtain⟨t,rfl⟩:=intItems_at hv;obtain⟨h1,h2⟩:=argBest_gt (numAt ys) (ys.size-1);refine⟨.int (maxI ns),H,I.kept hk,⟨t,?_⟩,q⟩
 congr 1
 refine EK ?_ λb hb=>?_
 .rw[hns,numAt_eq];exact PySem.getD_mem (by rw[Zql,Ui];omega)
 .rw[hns] at hb;obtain⟨j,hj,rfl⟩:=PySem.mem_getD hb;rw[Zql,Ui] at hj;rw[<- numAt_eq];exact h2 j ()
def No (hc:X.calm=true):za1 X (.builtin "min") (λxs H Q=>∃a ns,xs=[.ref a]/\SqL X.K H a (ns.map V.int)/\ns ≠ []/\Q (.int (minI ns)) H):=by
 intro Y s Z H xs us Q I r h;obtain⟨a,ns,rfl,hl,hne,q⟩:=h;obtain⟨u,rfl,ru⟩:=Q7 r;obtain rfl:u=Value.ref a:=ru;obtain⟨its,rv,p,hz⟩:=I.list hl;have hi:IntsAre its ns:=B5 rv;obtain⟨ys,e⟩:=hi.allInts.items;have hns:ns=ys.toList.map (·.1):=by
  rw[<- hi.numsOf,<- nums_intItems,<- e]
 have hsz:0<ys.size:=by
  have h3:0<ns.length:=Jk.mpr hne;rw[hns,Zql,Ui] at h3;exact h3
 have hl':=p.isList;rw[e] at hl';refine min_intList (I.ok.hd hc) hl' hsz λv h' tk hv hk=>?_;obtain⟨t,rfl⟩:=intItems_at hv;obtain⟨h1,h2⟩:=argBest_lt (numAt ys) (ys.size-1);refine⟨.int (minI ns),H,I.kept hk,⟨t,?_⟩,q⟩
 congr 1
 refine Nm ?_ λb hb=>?_
 .rw[hns,numAt_eq];exact PySem.getD_mem (by rw[Zql,Ui];omega)
 .rw[hns] at hb;obtain⟨j,hj,rfl⟩:=PySem.mem_getD hb;rw[Zql,Ui] at hj;rw[<- numAt_eq];exact h2 j ()
def zan (P:Program)(w:World)(K:W.Frag)(mg:Yc)(base:Heap)(name:Str)(k:Nat)(ps:Yh)(sp:Sp):Prop:=
 ∃f fd,FnOk P w K mg base CX0 k f fd ps sp/\zgd K fd ps []/\W.keepIn K (.ref f)=true/\mg name=some (.ref f)
theorem zan.mono {P:Program}{w:World}{K:W.Frag}{mg:Yc}{base:Heap}{name:Str}{j k:Nat}{ps:Yh}{sp:Sp}(c:zan P w K mg base name j ps sp)(h:j<=k):zan P w K mg base name k ps sp:=by
 obtain⟨f,fd,F,r⟩:=c;exact⟨f,fd,F.mono h,r⟩
def EM (c:zan X.prog X.w X.K X.mg X.base name k ps sp)(hr:Room k X.A)(hg:Gl X name)(ha:PA X (e::es) t)
 (hdb:(name == ("__debug__" : Str))=false:=by decide) (he:starEach (e::es) X.env=(false,eval e X.env)::starEach es X.env:=by rfl) (hpl:(backTo pos (starEach es X.env)).any (·.1)=false:=by rfl):
 PE X (.Call (.Name name p) (e::es) [] pos) (El sp [] E0 t):=by
 obtain⟨f,fd,F,b,hk,hm⟩:=c;exact Mm F hr hg hm hk b .nil EA ha hdb he hpl
end
def Kh (h:H p=none)(o:HO):Same H (upd H p o):=λb u q=>by rw[JC (Kf q h)];exact q
def QL (h:n<=1000):n<=sizeLine:=Zz (EB h)
def pD (p:Int×Int):PyData:=.tuple [.int p.1,.int p.2]
def rD (r:Jx):PyData:=.tuple (r.map pD)
def zgi:Is H (pD p) v↔∃a,v=.ref a/\H a=some (.tup [.int p.1,.int p.2]):=by
 unfold pD;rw[Is.tuple_iff];constructor
 .rintro⟨a,xs,h1,h2,h3⟩;have e:xs=[.int p.1,.int p.2]:=EH (ns:=[p.1,p.2]) h3;subst e;exact⟨a,h1,h2⟩
 .rintro⟨a,h1,h2⟩;exact⟨a,_,h1,h2,EG [p.1,p.2]⟩
def EN (o:HO)(s:Same H H')(h:H l=none):Same H (upd H' l o):=λb u e=>by
 rw[JC (Kf e h)];exact s b u e
theorem EO:∀ns:Ye,Kn (ns.map PyData.int)=true
 | []=>by show Kn []=true;unfold Kn;rfl
 |n::ns=>by
  show Kn (PyData.int n::ns.map PyData.int)=true;unfold Kn;rw[EO ns];unfold Qm;rfl
def XG (p:Int×Int):Qm (pD p)=true:=by unfold pD Qm;exact EO [p.1,p.2]
theorem EQ:∀ns:Ye,PyData.depthAll (ns.map PyData.int)=0
 | []=>by show PyData.depthAll []=0;unfold PyData.depthAll;rfl
 |n::ns=>by
  show PyData.depthAll (PyData.int n::ns.map PyData.int)=0;unfold PyData.depthAll;rw[EQ ns];unfold PyData.depth;rfl
def Qy:bootBuiltins "len" = some (.builtin "len"):=boot_len
def BI:bootBuiltins "max" = some (.builtin "max"):=boot_max
def BJ:bootBuiltins "min" = some (.builtin "min"):=boot_min
def XH:bootBuiltins "sorted" = some (.builtin "sorted"):=boot_sorted
def ER:bootBuiltins "sum" = some (.builtin "sum"):=boot_sum
def ES:bootBuiltins "str" = some (.type "str"):=boot_str
def XI:bootBuiltins "list" = some (.type "list"):=boot_list
def WW:bootBuiltins "tuple" = some (.type "tuple"):=boot_tuple
def ZU:bootBuiltins "dict" = some (.type "dict"):=boot_dict
def bt_set:bootBuiltins "set" = some (.type "set"):=boot_set
def ET:entryFor table "dict.update.loop" = some Builtin.«dict.update.loop»:=entryFor_of_tree (by kernel_rfl)
def ZV:plainId "dict.update.loop" = true:=by decide +kernel
section
variable {prog:Program}{w:World}{K:Type}[DecidableEq K]{knd:KeyKind prog w K}
def dloop (knd:KeyKind prog w K)(it t d:Addr)(items:Yk)(ps:List (K×Value))(h0:Heap)(hlen:items.size=ps.length)
 (hit:∀(j:Nat) k v,ps[j]? = some (k,v)->∃ta key,items[j]? = some (.ref ta)/\h0.IsTuple ta #[key,v]/\knd.is k key=true/\ta≠it/\ta≠d)
 (ht0:h0.IsTuple t items) (n1:t≠it) (n2:t≠d) (n3:d≠it) (m:Nat):
 ∀i:Nat,ps.length-i=m->∀(A:Around) (R:Result->Yu) (s:Shared) (kvs:List (K×Value)),A.handled=none->s.heap.IsTupleIter it t i->(∀b o,b≠it->b≠d->h0.get? b=some o->s.heap.get? b=some o) ->
  s.heap.DictOf knd d kvs->kvs.length+(ps.length-i)<=sizeLine ->
  (∀h' tk,h'.DictOf knd d (merged kvs (ps.drop i))->(∀b o,b≠it->b≠d->h0.get? b=some o->h'.get? b=some o)->R (.ok (.ret .none)) { s with heap:=h',toks:=tk }) ->
  wpAny (model prog w) A.in1 (Builtin.«dict.update.loop» ⟨[.ref d,.ref it,rawInt i,.none],[]⟩) (λfin s'=>match fin with | .done f=>R (.ok f) s' | .again c'=>c'.quiet=true/\codeAny (model prog w) A c' R s') (λe s'=>R (.error e) s') s:=by
 induction m with
 |zero =>
  intro i hm A R s kvs hh st keep hD hz hR;have hx:items[i]? = none:=by rw[Array.getElem?_eq_none_iff];omega
  have ht:s.heap.IsTuple t items:=by
   obtain⟨o,ho,r⟩:=ht0;exact⟨o,keep t o n1 n2 ho,r⟩
  unfold Builtin.«dict.update.loop»;refine Za (wpAny_pyNext_tuple_end hh st ht hx λh' eb=>?_);have hd0:ps.drop i=[]:=VW ();rw[hd0] at hR;have hD':h'.DictOf knd d kvs:=by
   obtain⟨o,es,ep,ho,r⟩:=hD;exact⟨o,es,ep,eb d o n3 ho,r⟩
  have fin:=hR h' s.toks hD' (λb o h1 h2 e=>eb b o h1 (keep b o h1 h2 e));unfold Builtin.Dict.addKeywords;exact Za (Zb (Zb fin))
 |succ m ih =>
  intro i hm A R s kvs hh st keep hD hz hR;have hlt:i<ps.length:=()
  obtain⟨kv,hkv⟩:∃kv,ps[i]? = some kv:=⟨_,Zqg hlt⟩;obtain⟨ta,key,hx,hta,hkey,a1,a2⟩:=hit i kv.1 kv.2 hkv;have ht:s.heap.IsTuple t items:=by
   obtain⟨o,ho,r⟩:=ht0;exact⟨o,keep t o n1 n2 ho,r⟩
  unfold Builtin.«dict.update.loop»;refine Za (wpAny_pyNext_tuple_item st ht hx λh1 st1 sb1=>?_);obtain⟨ot,hot,hoc,nn,hod⟩:=hta;have hot1:h1.get? ta=some ot:=(sb1.2 ta a1).trans (keep ta ot a1 a2 hot);have hD1:h1.DictOf knd d kvs:=by
   obtain⟨o,es,ep,ho,r⟩:=hD;exact⟨o,es,ep,(sb1.2 d n3).trans ho,r⟩
  dsimp only;refine Za (wpAny_holding (Za (wpAny_tryCatch ?_)));unfold Builtin.Dict.pairItems;refine Za (wpAny_typeOf (T:= "tuple") ⟨ot,hot1,hoc⟩ ?_);rw[Zd (by decide)];refine Za (wpAny_seqItems hot1 hod (Zb ?_));show wpAny _ _ (holding [key,kv.2] (dictSet d key kv.2)) _ _ _;refine wpAny_holding (wpAny_dictSet_pairs hkey hD1 (λh2 hD2 sb2=>?_) ());have hc:((i:Int)+1)=((i+1:Nat):Int):=by push_cast;rfl
  refine Zb ?_;rw[hc];have st2:h2.IsTupleIter it t (i+1):=by
   obtain⟨o,ho,r⟩:=st1;exact⟨o,(sb2.2 it (Ne.symm n3)).trans ho,r⟩
  have k2:∀b o,b≠it->b≠d->h0.get? b=some o->h2.get? b=some o:=λb o b1 b2 e=>(sb2.2 b b2).trans ((sb1.2 b b1).trans (keep b o b1 b2 e));have z2:(stored kvs kv.1 kv.2).length+(ps.length-(i+1))<=sizeLine:=by
   have:(stored kvs kv.1 kv.2).length<=kvs.length+1:=by
    unfold stored
    split
    .rw[Zql];omega
    .rw[Ub,Uq];omega
   rw[hm] at hz;rw[Nat.sub_succ,hm];exact Zh (Nat.add_le_add_right this m) (Zh (Yq (Nat.succ_add_eq_add_succ kvs.length m)) hz)
  have e:merged kvs (ps.drop i)=merged (stored kvs kv.1 kv.2) (ps.drop (i+1)):=by
   rw[U6 hlt];have:ps[i]=kv:=by
    have:=Zqg hlt;rw[this] at hkv;exact Zqi hkv
   rw[this];rfl
  exact⟨plainId_quiet ZV _,codeAny_builtin ET (by
   rw[Around.under_plainId ZV _];exact ih (i+1) (by rw[Nat.sub_succ,hm];rfl) A R { s with heap:=h2,toks:=s.toks+1 } (stored kvs kv.1 kv.2) hh st2 k2 hD2 z2 λh' tk hD' kk=>hR h' tk (by rw[e];exact hD') kk)⟩
end
def Np:typeLookup (.type "tuple") "keys" = pure none:=by rw[typeLookup_type,builtinLookup_eq_fast];kernel_rfl
def Nq
 (hx:s.heap.get? a=some o) (hc:o.cls=.type "tuple") (hdat:o.data=.seq xs k) (hd:o.dict=none) (hmiss:typeLookup (.type "tuple") name=pure none) (hname:(["__module__", "__name__", "__qualname__", "__doc__", "__annotations__"]:Yh).contains name=false) (hA:A.handled=none)
 (h:∀h' tk,(∀b o,s.heap.get? b=some o->h'.get? b=some o)->Q none { s with heap:=h',toks:=tk }) (hsz:name.length+100<=sizeLine:=by size_fits):
 YB prog w A (getAttr? (.ref a) name) Q E s:=by
 obtain⟨c,dct,dat,sl⟩:=o;simp only at hc hdat hd;subst hc hdat hd;obtain⟨hp,g,d,tk,os⟩:=s;have hT:∀tk',(⟨hp,g,d,tk',os⟩:Shared).TypeIs (.ref a) "tuple" := λ_=>⟨_,hx,rfl⟩;have f1:=sub_AttributeError;have f3:=F.slot_tuple_getattribute.lookup;have f4:=F.slot_tuple_getattribute.bind (.ref a);have f5:=am_tuple_getattr_none;unfold getAttr? getAttrBy? getAttrBy
 repeat (any_goals (first|assumption|exact hT _|((with_reducible show wpAny _ _ (call (Value.builtin "tuple.__getattribute__") _ _) _ _ _);refine call_meets F.slot_tuple_getattribute (hT _) am_entry_tuple_getattribute (F.args_tuple_getattribute_2 _ _) (meets_getattribute_miss_tuple a xs k sl name _ hmiss hname hsz) ⟨hx,hA,λh' tk' e hx'=>?_⟩)|wp_step))
 obtain⟨t',u',he⟩:=hx'.there;show wpAny _ _ (getattributeRaised _ _ _ _ _ _ _) _ _ _;unfold getattributeRaised
 repeat (any_goals (first|assumption|wp_step))
 exact h _ _ hx'.of.keeps
section
variable {prog:Program}{w:World}{K:Type}[DecidableEq K]{A:Around}{E:Ya}{s:Shared}
def Nr (knd:KeyKind prog w K)(hA:A.handled=none)(ho:s.heap.get? t=some o)(hc:o.cls=.type "tuple")(hdat:o.data=.seq items n)(hd:o.dict=none)
 (hlen:items.size=ps.length) (hit:∀(j:Nat) k v,ps[j]? = some (k,v)->∃ta key,items[j]? = some (.ref ta)/\s.heap.IsTuple ta #[key,v]/\knd.is k key=true) (hz:ps.length<=sizeLine)
 (h:∀h' tk,h'.DictOf knd s.heap.objs.size (merged [] ps)->(∀b u,s.heap.get? b=some u->h'.get? b=some u)->Q (.ref s.heap.objs.size) { s with heap:=h',toks:=tk }):
 YB prog w A (call (.type "dict") [.ref t]) Q E s:=by
 refine callType_codes (Q₁:=λobj s₁=>obj=.ref s.heap.objs.size/\s₁={ s with heap:=s.heap.push { cls:=.type "dict",data:=.dict #[] } }) F.kt_called_dict (F.kt_typeCall_dict_1 _) F.entry_dict_init (kt_code_dict_new _ ⟨rfl,rfl⟩) ?_;rintro obj s₁ ⟨rfl,rfl⟩;have hnew:(s.heap.push { cls:=.type "dict",data:=.dict #[] }).DictOf knd s.heap.objs.size []:=Heap.DictOf.new s.heap;refine⟨hnew.typeIs,F.args_dict_init_2 _ _,?_⟩;have ho1:(s.heap.push { cls:=.type "dict",data:=.dict #[] }).get? t=some o:=Zq _ ho;unfold Builtin.«dict.__init__»;refine Za ?_;unfold Builtin.Dict.selfAndRest;refine Za (wpAny_notOrdered_dict hnew.typeIs ?_);show wpAny _ _ (pure (s.heap.objs.size,[Value.ref t])) _ _ _;refine Zb ?_;show wpAny _ _ (Builtin.Dict.updateFrom "dict.__init__" s.heap.objs.size (.ref t) [] .none) _ _ _;unfold Builtin.Dict.updateFrom;refine Za (wpAny_typeOf (T:= "tuple") ⟨o,ho1,hc⟩ ?_);rw[Zd (by decide)];refine Za (Nq ho1 hc hdat hd Np (by decide +kernel) hA (λh2 tk2 k2=>?_) (by decide));rw[Zd (by rfl)];have ht2:h2.IsTuple t items:=⟨o,k2 _ _ ho1,hc,n,hdat⟩;have lt:s.heap.objs.size<h2.objs.size:=by
  obtain⟨od,_,_,e,_⟩:=hnew;exact Zk (k2 _ _ e)
 have D2:h2.DictOf knd s.heap.objs.size []:=by
  obtain⟨od,es,ep,e,r⟩:=hnew;exact⟨od,es,ep,k2 _ _ e,r⟩
 refine Za (wpAny_rule ?_);refine Za (wpAny_pyIter_tuple ht2 ?_);have lt0:∀b u,s.heap.get? b=some u->b≠s.heap.objs.size/\b≠h2.objs.size:=λb u e=>by
  have z:=Zk e;exact⟨Zi z,Zi (UL z lt)⟩
 have up:∀b u,s.heap.get? b=some u->h2.get? b=some u:=λb u e=>k2 b u (Zq _ e);have hit2:∀(j:Nat) k v,ps[j]? = some (k,v)->∃ta key,items[j]? = some (.ref ta)/\h2.IsTuple ta #[key,v]/\knd.is k key=true/\ta≠h2.objs.size/\ta≠s.heap.objs.size:=λj k v e=>by
  obtain⟨ta,key,a1,⟨oa,a2,a3⟩,a4⟩:=hit j k v e;exact⟨ta,key,a1,⟨oa,up _ _ a2,a3⟩,a4,(lt0 ta oa a2).2,(lt0 ta oa a2).1⟩
 refine Zb ⟨plainId_quiet ZV _,codeAny_builtin ET ?_⟩;rw[Around.under_plainId ZV _];refine dloop knd h2.objs.size t s.heap.objs.size items ps h2 hlen hit2 ht2 (lt0 t o ho).2 (lt0 t o ho).1 (Zi lt) ps.length 0 (by simp) A.in1 _ _ [] hA ⟨_,Zr _ rfl,rfl,rfl⟩ (λb u _ _ e=>Zq _ e) ?_ (by simpa using hz) ?_
 .obtain⟨od,es,ep,e,r⟩:=D2;exact⟨od,es,ep,Zq _ e,r⟩
 .intro h' tk hD' kk;exact⟨rfl,h h' tk hD' λb u e=>kk b u (lt0 b u e).2 (lt0 b u e).1 (up b u e)⟩
end
def kvR (r:Jx):List (Key×V):=r.map λp=>(Uh p.1,V.int p.2)
def XJ (r:Jx):List (Key×V):=W7 [] (kvR r)
theorem EU (ok:HOk P w H h):∀{r:Jx} {xs:Yw} {us:Yd},zau H (r.map pD) xs->Vals xs us ->
 ∃ps:List (Key×Value),KV (kvR r) ps/\us.length=ps.length/\∀(j:Nat) k v,ps[j]? = some (k,v)->∃ta key,us[j]? = some (.ref ta)/\h.IsTuple ta #[key,v]/\(Qg P w).is k key=true
 | [],xs,us,ha,r=>by
  have ha:zau H [] xs:=ha;unfold zau at ha;subst ha;cases r;exact⟨[],.nil,rfl,λj k v e=>by simp at e⟩
 |p::r,xs,us,ha,rv=>by
  have ha:zau H (pD p::r.map pD) xs:=ha;unfold zau at ha;obtain⟨x,ys,rfl,h1,h2⟩:=ha;cases rv with
  | @cons _ u _ us' r1 r2 =>
   obtain⟨ps,k1,k2,k3⟩:=EU ok h2 r2;obtain⟨a,rfl,ht⟩:=zgi.mp h1;obtain rfl:u=Value.ref a:=r1;obtain⟨_,its,ri,o,e1,e2,n,e3⟩:=(show zbj P w H h a (.tup [.int p.1,.int p.2]) from ok a _ ht);obtain⟨u1,u2,rfl,q1,q2⟩:=ZP ri;obtain⟨t1,rfl⟩:=(show ∃t,u1=Value.int p.1 t from q1);refine⟨(Uh p.1,u2)::ps,.cons ⟨rfl,q2⟩ k1,by rw[Zu,Zu,k2],λj k v e=>?_⟩;cases j with
   |zero =>
    have e:some ((Uh p.1:Key),u2)=some (k,v):=e;cases e;exact⟨a,.int p.1 t1,rfl,⟨o,e1,e2,n,e3⟩,DQ p.1 t1⟩
   |succ j =>
    exact k3 j k v (by simpa using e)
section
variable {X:Cx}
def Nt (hc:X.calm=true):za1 X (.type "dict") (λxs H Q=>∃a r,xs=[.ref a]/\Is H (rD r) (.ref a)/\r.length<=100/\∀p,H p=none->Q (.ref p) (upd H p (.dK (XJ r)))):=by
 intro Y s Z H xs us Q I rv h;obtain⟨a,r,rfl,hr,hz,q⟩:=h;obtain⟨u,rfl,ru⟩:=Q7 rv;obtain rfl:u=Value.ref a:=ru;unfold rD at hr;rw[Is.tuple_iff] at hr;obtain⟨a',xs,ea,ht,hA⟩:=hr;cases ea;obtain⟨⟨hl,od,e0,d0⟩,its,ri,o,e1,e2,n,e3⟩:=(show zbj X.prog X.w H s.heap a (.tup xs) from I.hok a _ ht);rw[e0] at e1;obtain rfl:=Zqi e1;obtain⟨ps,k1,k2,k3⟩:=EU I.hok hA ri;have lk:=k1.length;have lr:(kvR r).length=r.length:=Zql _;refine Nr (Qg X.prog X.w) (I.ok.hd hc) e0 e2 e3 d0 (by rw[Zm];exact k2) (λj k v e=>?_) (by rw[<- lk,lr];exact QL ()) λh' tk hD hk=>?_
 .obtain⟨ta,key,b1,b2,b3⟩:=k3 j k v e;exact⟨ta,key,by simpa using b1,b2,b3⟩
 .refine⟨.ref s.heap.objs.size,upd H s.heap.objs.size (.dK (XJ r)),I.laid (a:=s.heap.objs.size) (o:=.dK (XJ r)) (t':=tk) hk (Zf _) ?_,rfl,q _ (I.hok.fresh (Zf _))⟩;refine E4 ?_ (beq_eq_false_iff_ne.mpr (Ne.symm (Zi I.big))) (KV.merge k1 .nil) hD;have z:=E7 (kvR r) [];rw[ZC,lr] at z;exact QL (by unfold XJ;omega)
end
def JA:Jx->Int->Option Int
 | [],_=>none
 |p::r,t=>match JA r t with
  |some w=>some w
  |none=>if p.1=t then some p.2 else none
def Nu (r s:Jx)(t:Int):JA (r++s) t=match JA s t with|some w=>some w|none=>JA r t:=by
 induction r with
 |nil=>simp[JA];cases JA s t<;>rfl
 |cons p r ih =>
  rw[List.cons_append,JA,ih];cases JA s t with
  |none=>rw[JA]
  |some w=>rfl
def V3 (h:JA r t=some w):(t,w)∈r:=by
 induction r with
 |nil=>simp[JA] at h
 |cons p r ih =>
  rw[JA] at h;cases q:JA r t with
  |some v =>
   rw[q] at h;obtain rfl:=Zqi h;exact Zqm _ (ih q)
  |none =>
   rw[q] at h;by_cases e:p.1=t
   .rw[Zd e] at h;obtain rfl:=Zqi h;subst e;exact Zqs
   .rw[Ze e] at h;exact J3 h
def EV (h:JA r t=none):∀w,(t,w)∉r:=by
 induction r with
 |nil=>intro w hw;cases hw
 |cons p r ih =>
  intro w hw;rw[JA] at h;cases q:JA r t with
  |some v=>rw[q] at h;cases h
  |none =>
   rw[q] at h;rcases UB.mp hw with e|e
   .rw[Zd (by rw[<- e])] at h;cases h
   .exact ih q w e
def Once (r:Jx):Prop:=(r.map (·.1)).Nodup
def Once.eq (h:Once r)(h1:(t,v)∈r)(h2:(t,w)∈r):v=w:=by
 induction r with
 |nil=>cases h1
 |cons p r ih =>
  obtain⟨n1,n2⟩:=Jh.mp (show(p.1::r.map (·.1)).Nodup from h);rcases UB.mp h1 with e1|e1<;>rcases UB.mp h2 with e2|e2
  .rw[<- e1] at e2;cases e2;rfl
  .exact Zn (Ja.mpr ⟨(t,w),e2,by rw[<- e1]⟩) n1
  .exact Zn (Ja.mpr ⟨(t,v),e1,by rw[<- e2]⟩) n1
  .exact ih n2 e1 e2
def Once.look (h:Once r)(hm:(t,w)∈r):JA r t=some w:=by
 cases q:JA r t with
 |none=>exact Zn hm (EV q w)
 |some v=>rw[h.eq (V3 q) hm]
def okAt (o:Jx)(p:Int×Int):Bool:=match JA o p.1 with
 |some w=>decide (p.2<=w)
 |none=>false
def JG (r o:Jx):Bool:=r.all (okAt o)
def EW (h:Once r)(hl:∀p∈r,p.1<t):Once (r++[(t,w)]):=by
 unfold Once at h ⊢;rw[Ug,Vo];refine⟨h,by simp,?_⟩;intro a ha b hb;obtain⟨p,hp,rfl⟩:=Ja.mp ha;have:=hl p hp;simp at hb;subst hb;omega
def ZW {r o:Jx}{i:Nat}{p:Int×Int}(hp:r[i]? = some p)(h:okAt o p=false):JG r o=false:=by
 unfold JG;rw[List.all_eq_false];exact⟨p,Ud hp,by rw[h];simp⟩
def V4 {α: Type}{r:List α}{p:α}(hp:r[i]? = some p):r.take (i+1)=r.take i++[p]:=by
 rw[Uy,hp];rfl
def EX {r o:Jx}{i:Nat}{p:Int×Int}(hp:r[i]? = some p)(h:JG (r.take i) o=true)(h1:okAt o p=true):JG (r.take (i+1)) o=true:=by
 rw[V4 hp];unfold JG at h ⊢;rw[List.all_append,h,Uz,h1];rfl
open PySem PyProof.Rows
def EY (h:l<r)(gap:r-l<=k-x):∃m,(l+r) / 2=m/\l<=m/\m<r/\m-l<=k-(x+1)/\r-(m+1)<=k-(x+1):=by
 have a:l<=(l+r) / 2:=()
 have b:(l+r) / 2<r:=()
 generalize (l+r) / 2=m at a b ⊢;exact⟨m,rfl,a,b,Nat.le_pred_of_lt (Zg (Nat.sub_lt_sub_right a b) gap),Nat.pred_le_pred (Zh (Nat.sub_le_sub_left a r) gap)⟩
structure Wk (lt:Nat->Nat->Bool):Prop where
 asy:∀i j,lt i j=true->lt j i=false
 neg:∀i j k,lt i k=true->lt i j=true\/lt j k=true
def Bef (lt:Nat->Nat->Bool)(i j:Nat):Prop:=lt i j=true\/(lt j i=false/\i<j)
section
variable {lt:Nat->Nat->Bool}(W:Wk lt)
include W
theorem Bef.no (h:Bef lt i j):lt j i=false:=by
 rcases h with h|h
 .exact W.asy _ _ h
 .exact h.1
theorem Bef.trans (h1:Bef lt i j)(h2:Bef lt j k):Bef lt i k:=by
 have n1:=Bef.no W h1;have n2:=Bef.no W h2;have n3:lt k i=false:=by
  cases q:lt k i with
  |false=>rfl
  |true =>
   rcases W.neg k j i q with z|z
   .rw[n2] at z;exact JB z
   .rw[n1] at z;exact JB z
 rcases h1 with a|a
 .rcases W.neg i k j a with z|z
  .exact .inl z
  .rw[n2] at z;exact JB z
 .rcases h2 with b|b
  .rcases W.neg j i k b with z|z
   .rw[a.1] at z;exact JB z
   .exact .inl z
  .exact .inr ⟨n3,()⟩
end
def Nv:∀{n:Nat},2<=n->n<64->minRun' n n 0=n
 | 0,h,_=>()
 |f+1,_,h=>by
  rw[minRun'_succ,Zd h]
def gx (ix:Yf)(k:Nat):Nat:=(ix[k]?).getD 0
def EZ (h:k<ix.size):ix[k]? = some (gx ix k):=by
 unfold gx;rw[Us h];rfl
def ZX (hs:src<ix.size)(hd:d<=src)(k:Nat):gx (bubble ix src d) k=if k=src-d then gx ix src else if src-d<k/\k<=src then gx ix (k-1) else gx ix k:=by
 unfold gx;rw[getElem?_bubble hs d hd k]
 repeat' split
 all_goals rfl
def Kw (hj:j<=ix.size)(k:Nat):gx (mirror ix i j ((j-i) / 2)) k=if i<=k/\k<j then gx ix (i+j-1-k) else gx ix k:=by
 unfold gx;rw[getElem?_mirror_all hj k]
 split
 all_goals rfl
def Nw {α β: Type}(f:α -> β)(xs:Array α)(i j:Nat):(xs.map f).swapIfInBounds i j=(xs.swapIfInBounds i j).map f:=by
 apply Array.ext_getElem?;intro k;by_cases hi:i<xs.size
 .by_cases hj:j<xs.size
  .rw[getElem?_swapIB (by simpa using hi) (by simpa using hj),U7,U7,U7,U7,getElem?_swapIB hi hj]
   repeat' split
   all_goals rfl
  .rw[VL,VL,dif_pos (by simpa using hi),dif_neg (by simpa using hj),dif_pos hi,dif_neg hj]
 .rw[VL,VL,dif_neg (by simpa using hi),dif_neg hi]
theorem BK {α β γ: Type}(f:α -> β)(p q:γ -> Nat):∀(l:List γ) (xs:Array α),l.foldl (λa k=>a.swapIfInBounds (p k) (q k)) (xs.map f)=(l.foldl (λa k=>a.swapIfInBounds (p k) (q k)) xs).map f
 | [],xs=>rfl
 |k::l,xs=>by
  rw[UE,UE,Nw,BK f p q l]
def Nx {α β: Type}(f:α -> β)(xs:Array α)(src d:Nat):bubble (xs.map f) src d=(bubble xs src d).map f:=BK f _ _ _ xs
def ZY {α β: Type}(f:α -> β)(xs:Array α)(i j d:Nat):mirror (xs.map f) i j d=(mirror xs i j d).map f:=BK f _ _ _ xs
structure Pl (n:Nat)(ix:Yf)(k:Nat):Prop where
 size:ix.size=n
 perm:ix.Perm (Array.range n)
 pre:∀a,a<k->gx ix a<k
 suf:∀a,k<=a->a<n->gx ix a=a
def Pl.lt (h:Pl n ix k)(hk:k<=n)(ha:a<n):gx ix a<n:=by
 by_cases c:a<k
 .exact Zg (h.pre a c) hk
 .rw[h.suf a () ha];exact ha
def Pl.succ (h:Pl n ix k)(hk:k<n):Pl n ix (k+1):=by
 refine⟨h.size,h.perm,λa ha=>?_,λa h1 h2=>h.suf a () h2⟩;by_cases c:a<k
 .have:=h.pre a c;omega
 .have:a=k:=()
  subst this;rw[h.suf a (Zf _) hk];omega
def Pl.rev (h:Pl n ix k)(hk:k<=n)(hi:i<=k):Pl n (mirror ix i k ((k-i) / 2)) k:=by
 have hz:k<=ix.size:=by rw[h.size];exact hk
 refine⟨by rw[mirror_size];exact h.size,(mirror_perm _ _ _ _).trans h.perm,λa ha=>?_,λa h1 h2=>?_⟩
 .rw[Kw hz]
  split
  .exact h.pre _ ()
  .exact h.pre a ha
 .rw[Kw hz,Ze ()];exact h.suf a h1 h2
def Up (lt:Nat->Nat->Bool)(ix:Yf)(k:Nat):Prop:=∀a b,a<b->b<k->Bef lt (gx ix a) (gx ix b)
def Dn (lt:Nat->Nat->Bool)(ix:Yf)(k:Nat):Prop:=∀a b,a<b->b<k->Bef lt (gx ix b) (gx ix a)
structure SB (it:Nat->Keyed)(kind:SortKind)(ix:Yf)(st:SortSt):Prop where
 arr:arrOf st=ix.map it
 kd:kindOf st=kind
 fl:failedOf st=none
 pd:pendingOf st = #[]
def Orc (prog:Program)(w:World)(A:Around)(s:Shared)(kind:SortKind)(it:Nat->Keyed)(lt:Nat->Nat->Bool)(n:Nat):Prop:=
 ∀i j,i<n->j<n->∀(E:Ya) (Q:Bool->Yu),Q (lt i j) s->YB prog w A (keyLt' kind (it i).1 (it j).1) Q E s
section
variable {prog:Program}{w:World}{A:Around}{E:Ya}{s:Shared}{kind:SortKind}{it:Nat->Keyed}{lt:Nat->Nat->Bool}{n:Nat}{ix:Yf}{st:SortSt}
def XL {Q:Option Bool->SortSt->Prop}(O:Orc prog w A s kind it lt n)(B:SB it kind ix st)(L:Pl n ix k)(hk:k<=n)(ha:a<n)(hb:b<n)(h:Q (some (lt (gx ix a) (gx ix b))) st):
 YC prog w A E s (ltAt' a b) Q st:=by
 have e1:(arrOf st)[a]? = some (it (gx ix a)):=by rw[B.arr,U7,EZ (by rw[L.size];exact ha)];rfl
 have e2:(arrOf st)[b]? = some (it (gx ix b)):=by rw[B.arr,U7,EZ (by rw[L.size];exact hb)];rfl
 rw[ltAt'_eq];have go:YC prog w A E s (lt' (it (gx ix a)) (it (gx ix b))) Q st:=by
  rw[lt'_eq];refine Yl (wpS_get ?_);rw[B.kd];exact Yl (wpS_lift (wpAny_attempt (O _ _ (L.lt hk ha) (L.lt hk hb) _ _ ⟨rfl,Ym h⟩)))
 refine Yl (wpS_get ?_);show wpS _ _ _ _ (elem' (arrOf st) a >>= λx=>elem' (arrOf st) b >>= λy=>lt' x y) Q st;rw[elem'_eq,elem'_eq,e1,e2];exact Yl (Ym (Yl (Ym go)))
def SB.set (B:SB it kind ix st)(e:xs=jx.map it):SB it kind jx (setArr st xs):=⟨e,B.kd,B.fl,B.pd⟩
variable (W:Wk lt)(O:Orc prog w A s kind it lt n)
include W O
theorem Ny {Q:Bool->SortSt->Prop}(hok:ok<=n)(h1:1<=ok)(B:SB it kind ix st)(L:Pl n ix ok)(U:Up lt ix ok)
 (h:∀jx st',SB it kind jx st'->Pl n jx n->Up lt jx n->Q true st'):YC prog w A E s (binarySort' 0 n ok) Q st:=by
 rw[binarySort'_eq];simp only[U8];have hm:max ok 1=ok:=()
 rw[hm];refine Yl (wpS_mono (Yn (I:=λk c st'=>c=(none,Yp)/\∃jx,SB it kind jx st'/\Pl n jx k/\Up lt jx k) (Q:=λc st'=>c=(none,Yp)/\∃jx,SB it kind jx st'/\Pl n jx n/\Up lt jx n) ?_ ?_ ⟨rfl,ix,B,L,U⟩) ?_)
 .rintro k c sk hk1 hk2 ⟨rfl,jx,Bk,Lk,Uk⟩;have ek:gx jx k=k:=Lk.suf k (Zf _) hk2;refine Yl (wpS_mono (Yn (I:=λx c sx=>sx=sk/\∃l r,c=(none,l,r)/\l<=r/\r<=k/\r-l<=k-x/\(∀i,i<l->lt k (gx jx i)=false)/\(∀i,r<=i->i<k->lt k (gx jx i)=true))
   (Q:=λc sx=>sx=sk/\∃l r,c=(none,l,r)/\l<=k/\(∀i,i<l->lt k (gx jx i)=false)/\(∀i,l<=i->i<k->lt k (gx jx i)=true)) ?_ ?_ ⟨rfl,0,k,rfl,(),(),(),λi hi=>(),λi a b=>()⟩) ?_)
  .rintro x c sx _ hx ⟨rfl,l,r,rfl,lr,rk,gap,lo,hi⟩;dsimp only;by_cases ge:l ≥ r
   .rw[Zd ge];have e:l=r:=()
    subst e;exact Ym ⟨rfl,l,l,rfl,rk,lo,hi⟩
   .rw[Ze ge];obtain⟨m,hm,m1,m2,m3,m4⟩:=EY (Nat.lt_of_not_le ge) gap;rw[hm];have mk:=Zg m2 rk;refine Yl (XL O Bk Lk (Zz hk2) hk2 (UL mk hk2) ?_);rw[ek];cases q:lt k (gx jx m) with
    |true =>
     simp only[if_true];refine Ym ⟨rfl,l,m,rfl,m1,Zz mk,m3,lo,λi a b=>?_⟩;by_cases im:i=m
     .rw[im];exact q
     .rcases W.neg k (gx jx i) _ q with z|z
      .exact z
      .rw[Bef.no W (Uk m i (VM a (Ne.symm im)) b)] at z;exact JB z
    |false =>
     simp only[Uf,if_false];refine Ym ⟨rfl,m+1,r,rfl,m2,rk,m4,λi a=>?_,hi⟩;by_cases im:i=m
     .rw[im];exact q
     .cases z:lt k (gx jx i) with
      |false=>rfl
      |true =>
       rcases W.neg k (gx jx m) _ z with y|y
       .rw[q] at y;exact JB y
       .rw[Bef.no W (Uk i m (VM (VN a) im) mk)] at y;exact JB y
  .rintro c sx ⟨rfl,l,r,rfl,lr,rk,gap,lo,hi⟩;have e:l=r:=()
   subst e;exact⟨rfl,l,l,rfl,rk,lo,hi⟩
  .rintro c sx ⟨rfl,l,r,rfl,lk,lo,hi⟩;show wpS _ _ _ _ (moveDown' k l >>= λ_=>pure (ForInStep.yield (none,Yp))) _ _;rw[moveDown'_eq];have hs:k<jx.size:=by rw[Lk.size];exact hk2
   refine Yl (wpS_modify (Ym ⟨rfl,bubble jx k (k-l),Bk.set (by rw[Bk.arr,Nx]),⟨by rw[bubble_size];exact Lk.size,(bubble_perm _ _ _).trans Lk.perm,λa ha=>?_,λa a1 a2=>?_⟩,λa b ab bk=>?_⟩))
   .rw[ZX hs ()]
    repeat' split
    .rw[ek];omega
    .have:=Lk.pre (a-1) ();omega
    .by_cases c:a<k
     .have:=Lk.pre a c;omega
     .have:a=k:=()
      subst this;rw[ek];omega
   .rw[ZX hs (),Ze (),Ze ()];exact Lk.suf a () a2
   .rw[ZX hs (),ZX hs (),show k-(k-l)=l by omega,ek]
    repeat' split
    all_goals first
     | (exfalso;omega)
     |exact Uk _ _ () ()
     |exact .inl (hi _ () ())
     |exact .inr ⟨lo _ (),Lk.pre _ ()⟩
 .rintro c sk ⟨rfl,jx,b1,b2,b3⟩;have e:max ok n=n:=()
  rw[e] at b2 b3;exact⟨rfl,jx,b1,b2,b3⟩
 .rintro c sk ⟨rfl,jx,b1,b2,b3⟩;exact Ym (h jx sk b1 b2 b3)
theorem Fa {Q:AscSt->SortSt->Prop}(ha:1<=a)(han:a<=n)(B:SB it kind ix st)(L:Pl n ix a)(U:Up lt ix a)
 (h:∀m,a<=m->m<=n->Pl n ix m->Up lt ix m->(m=n\/lt m (gx ix (m-1))=true)->Q (none,m) st):YC prog w A E s (ascLoop a n) Q st:=by
 unfold ascLoop;refine Yn (I:=λx c sx=>sx=st/\c=(none,x)/\Pl n ix x/\Up lt ix x) ?_ ?_ ⟨rfl,rfl,L,U⟩
 .rintro x c sx ax xn ⟨rfl,rfl,Lx,Ux⟩;dsimp only;refine Yl (XL O B Lx () xn () ?_);have ex:gx ix x=x:=Lx.suf x (Zf _) xn;rw[ex];cases q:lt x (gx ix (x-1)) with
  |true =>
   simp only[if_true];exact Ym (h x ax () Lx Ux (.inr q))
  |false =>
   simp only[Uf,if_false];refine Ym ⟨rfl,rfl,Lx.succ xn,λi j ij jx=>?_⟩;have last:Bef lt (gx ix (x-1)) x:=.inr ⟨q,Lx.pre _ ()⟩;by_cases c:j<x
   .exact Ux i j ij c
   .have e:j=x:=()
    subst e;rw[ex];by_cases d:i=j-1
    .rw[d];exact last
    .exact Bef.trans W (Ux i (j-1) () ()) last
 .rintro c sx ⟨rfl,rfl,Lx,Ux⟩;have e:max a n=n:=()
  rw[e] at Lx Ux ⊢;exact h n han (Zf _) Lx Ux (.inl rfl)
theorem Fb {Q:Option Nat->SortSt->Prop}(h1:1<=m)(hm:m<=n)(B:SB it kind ix st)(L:Pl n ix m)(D:Dn lt ix m)
 (h:∀k jx st',SB it kind jx st'->1<=k->k<=n->Pl n jx k->Up lt jx k->Q (some k) st'):YC prog w A E s (tail3 m n) Q st:=by
 unfold tail3;have hz:m<=ix.size:=by rw[L.size];exact hm
 refine Yl (wpS_reverse ?_);have B':SB it kind (mirror ix 0 m ((m-0) / 2)) (setArr st (mirror (arrOf st) 0 m ((m-0) / 2))):=B.set (by rw[B.arr,ZY]);refine Yl (Fa W O h1 hm B' (L.rev hm (Ue _)) (λa b ab bm=>?_) λk k1 k2 Lk Uk _=>Ym (h k _ _ B' () k2 Lk Uk));rw[Kw hz,Kw hz,Zd (),Zd ()];exact D _ _ () ()
structure Eqs (lt:Nat->Nat->Bool)(ix:Yf)(x q:Nat):Prop where
 le:q+1<=x
 out:∀a b,a<b->b<x->a<x-(q+1)->lt (gx ix b) (gx ix a)=true\/(b<x-(q+1)/\Bef lt (gx ix b) (gx ix a))
 same:∀a b,x-(q+1)<=a->a<x->x-(q+1)<=b->b<x->lt (gx ix a) (gx ix b)=false
 rise:∀a b,x-(q+1)<=a->a<b->b<x->gx ix a<gx ix b
omit O in
theorem Eqs.down (h:Eqs lt ix x q)(hz:x<=ix.size):Dn lt (mirror ix (x-(q+1)) x ((x-(x-(q+1))) / 2)) x:=by
 intro a b ab bx;have le:=h.le;rw[Kw hz,Kw hz];by_cases ca:x-(q+1)<=a
 .rw[Zd (),Zd ()];exact .inr ⟨h.same _ _ () () () (),h.rise _ _ () () ()⟩
 .rw[Ze (show ¬(x-(q+1)<=a/\a<x) from ())]
  split
  .rcases h.out a (x-(q+1)+x-1-b) () () () with z|z
   .exact .inl z
   .exact z.2
  .rcases h.out a b ab bx () with z|z
   .exact .inl z
   .exact z.2
omit O in
theorem Eqs.down0 (h:Eqs lt ix x 0):Dn lt ix x:=by
 intro a b ab bx;have le:=h.le;rcases h.out a b ab bx () with z|z
 .exact .inl z
 .exact z.2
omit O in
theorem Eqs.of_down (hx:1<=x)(D:Dn lt ix x)(top:∀a,a<x-1->lt (gx ix (x-1)) (gx ix a)=true):Eqs lt ix x 0:=by
 refine⟨(),λa b ab bx ax=>?_,λa b a1 a2 b1 b2=>?_,λa b a1 ab bx=>()⟩
 .by_cases c:b=x-1
  .rw[c];exact .inl (top a ())
  .exact .inr ⟨(),D a b ab bx⟩
 .have e1:a=x-1:=()
  have e2:b=x-1:=()
  rw[e1,e2];cases z:lt (gx ix (x-1)) (gx ix (x-1)) with
  |false=>rfl
  |true=>have:=W.asy _ _ z;rw[z] at this;cases this
omit O in
theorem Eqs.less (hx:1<=x)(D:Dn lt ix x)(hl:lt (gx ix x) (gx ix (x-1))=true):Eqs lt ix (x+1) 0:=by
 have top:∀a,a<x->lt (gx ix x) (gx ix a)=true:=λa ax=>by
  by_cases c:a=x-1
  .rw[c];exact hl
  .rcases W.neg _ (gx ix a) _ hl with z|z
   .exact z
   .rw[Bef.no W (D a (x-1) () ())] at z;exact JB z
 refine Eqs.of_down W () (λa b ab bx=>?_) λa ax=>by
  rw[show x+1-1=x by omega];exact top a ()
 by_cases c:b<x
 .exact D a b ab c
 .have e:b=x:=()
  rw[e];exact .inl (top a ())
omit O in
theorem Eqs.more (h:Eqs lt ix x q)(hx:gx ix x=x)(pre:∀a,a<x->gx ix a<x)(n1:lt (gx ix x) (gx ix (x-1))=false)(n2:lt (gx ix (x-1)) (gx ix x)=false):Eqs lt ix (x+1) (q+1):=by
 have le:=h.le;have up:∀k,lt (gx ix (x-1)) k=true->lt (gx ix x) k=true:=λk z=>by
  rcases W.neg _ (gx ix x) _ z with y|y
  .rw[n2] at y;exact JB y
  .exact y
 have dn:∀k,lt k (gx ix x)=true->lt k (gx ix (x-1))=true:=λk z=>by
  rcases W.neg _ (gx ix (x-1)) _ z with y|y
  .exact y
  .rw[n2] at y;exact JB y
 have up':∀k,lt (gx ix x) k=true->lt (gx ix (x-1)) k=true:=λk z=>by
  rcases W.neg _ (gx ix (x-1)) _ z with y|y
  .rw[n1] at y;exact JB y
  .exact y
 refine⟨(),λa b ab bx ax=>?_,λa b a1 a2 b1 b2=>?_,λa b a1 ab bx=>?_⟩
 .by_cases c:b=x
  .rw[c];rcases h.out a (x-1) () () () with z|z
   .exact .inl (up _ z)
   .omega
  .rcases h.out a b ab () () with z|z
   .exact .inl z
   .exact .inr ⟨(),z.2⟩
 .by_cases ca:a=x
  .by_cases cb:b=x
   .rw[ca,cb];cases z:lt (gx ix x) (gx ix x) with
    |false=>rfl
    |true=>have:=W.asy _ _ z;rw[z] at this;cases this
   .rw[ca];cases z:lt (gx ix x) (gx ix b) with
    |false=>rfl
    |true =>
     have y:=up' _ z;rw[h.same (x-1) b () () () ()] at y;exact JB y
  .by_cases cb:b=x
   .rw[cb];cases z:lt (gx ix a) (gx ix x) with
    |false=>rfl
    |true =>
     have y:=dn _ z;rw[h.same a (x-1) () () () ()] at y;exact JB y
   .exact h.same a b () () () ()
 .by_cases cb:b=x
  .rw[cb,hx];exact pre a ()
  .exact h.rise a b () ab ()
theorem Nz {Q:DescSt->SortSt->Prop}(h1:1<=m)(hm:m<=n)(B:SB it kind ix st)(L:Pl n ix m)(X:Eqs lt ix m 0)
 (h:∀k q jx st',SB it kind jx st'->m<=k->k<=n->Pl n jx k->Eqs lt jx k q->Q (none,k,q) st'):YC prog w A E s (descLoop m n) Q st:=by
 unfold descLoop;refine Yn (I:=λx c sx=>∃q jx,c=(none,x,q)/\SB it kind jx sx/\Pl n jx x/\Eqs lt jx x q) ?_ ?_ ⟨0,ix,rfl,B,L,X⟩
 .rintro x c sx mx xn ⟨q,jx,rfl,Bx,Lx,Ex⟩;dsimp only;have hz:x<=jx.size:=by rw[Lx.size];omega
  have ex:gx jx x=x:=Lx.suf x (Zf _) xn;refine Yl (XL O Bx Lx () xn () ?_);cases z:lt (gx jx x) (gx jx (x-1)) with
  |true =>
   simp only[if_true];by_cases hq:q > 0
   .rw[Zd hq];refine Yl (wpS_reverse (Ym ⟨0,mirror jx (x-(q+1)) x ((x-(x-(q+1))) / 2),rfl,Bx.set (by rw[Bx.arr,ZY]),(Lx.rev () ()).succ xn,Eqs.less W () (Ex.down W hz) ?_⟩));rw[Kw hz,Kw hz,Ze (show ¬(x-(q+1)<=x/\x<x) from ())];have le:=Ex.le;rw[Zd ()];rcases W.neg _ (gx jx (x-(q+1)+x-1-(x-1))) _ z with y|y
    .exact y
    .rw[Ex.same _ _ () () () ()] at y;exact JB y
   .rw[Ze hq];have q0:q=0:=()
    subst q0;exact Ym ⟨0,jx,rfl,Bx,Lx.succ xn,Eqs.less W () (Ex.down0 W) z⟩
  |false =>
   simp only[Uf,if_false];refine Yl (XL O Bx Lx () () xn ?_);cases y:lt (gx jx (x-1)) (gx jx x) with
   |true =>
    simp only[if_true];exact Ym (h x q jx sx Bx mx () Lx Ex)
   |false =>
    simp only[Uf,if_false];exact Ym ⟨q+1,jx,rfl,Bx,Lx.succ xn,Ex.more W ex Lx.pre z y⟩
 .rintro c sx ⟨q,jx,rfl,Bx,Lx,Ex⟩;have e:max m n=n:=()
  rw[e] at Lx Ex ⊢;exact h n q jx sx Bx hm (Zf _) Lx Ex
theorem Fc {Q:Option Nat->SortSt->Prop}(hm:m+1<=n)(B:SB it kind ix st)(L:Pl n ix (m+1))(X:Eqs lt ix (m+1) 0)
 (h:∀k jx st',SB it kind jx st'->1<=k->k<=n->Pl n jx k->Up lt jx k->Q (some k) st'):YC prog w A E s (descPart m n) Q st:=by
 unfold descPart;refine Yl (wpS_lift (wpAny_rule ⟨rfl,?_⟩));refine Yl (Nz W O () hm B L X λk q jx sx Bx k1 k2 Lx Ex=>?_);dsimp only;have hz:k<=jx.size:=by rw[Lx.size];exact k2
 by_cases hq:q > 0
 .rw[Zd hq];have le:=Ex.le;exact Yl (wpS_reverse (Fb W O () k2 (Bx.set (by rw[Bx.arr,ZY])) (Lx.rev k2 ()) (Ex.down W hz) h))
 .rw[Ze hq];have q0:q=0:=()
  subst q0;exact Fb W O () k2 Bx Lx (Ex.down0 W) h
theorem N0 {Q:Option Nat->SortSt->Prop}(h1:1<=n)(B:SB it kind ix st)(L:Pl n ix 1)
 (h:∀k jx st',SB it kind jx st'->1<=k->k<=n->Pl n jx k->Up lt jx k->Q (some k) st'):YC prog w A E s (countRun' 0 n) Q st:=by
 rw[countRun0_eq];refine Yl (Fa W O (Zf 1) h1 B L (λa b ab b1=>()) λm m1 m2 Lm Um why=>?_);dsimp only;by_cases mn:m=n
 .rw[Zd (by simpa using mn)];exact Ym (h m ix st B m1 m2 Lm Um)
 .rw[Ze (by simpa using mn)];have hl:lt m (gx ix (m-1))=true:=why.resolve_left mn;have em:gx ix m=m:=Lm.suf m (Zf _) ();have hz:m<=ix.size:=by rw[Lm.size];exact m2
  by_cases gt:m > 1
  .rw[Zd gt];refine Yl (XL O B Lm m2 () () ?_);cases rose:lt (gx ix 0) (gx ix (m-1)) with
   |true =>
    simp only[if_true];exact Ym (h m ix st B m1 m2 Lm Um)
   |false =>
    simp only[Uf,if_false];have flat:∀a b,a<m->b<m->lt (gx ix a) (gx ix b)=false:=λa b am bm=>by
     cases z:lt (gx ix a) (gx ix b) with
     |false=>rfl
     |true =>
      rcases W.neg _ (gx ix 0) _ z with y|y
      .by_cases a0:a=0
       .rw[a0] at y;have:=W.asy _ _ y;rw[y] at this;cases this
       .rw[Bef.no W (Um 0 a () am)] at y;exact JB y
      .rcases W.neg _ (gx ix (m-1)) _ y with u|u
       .rw[rose] at u;exact JB u
       .by_cases bm':b=m-1
        .rw[bm'] at u;have:=W.asy _ _ u;rw[u] at this;cases this
        .rw[Bef.no W (Um b (m-1) () ())] at u;exact JB u
    have rise:∀a b,a<b->b<m->gx ix a<gx ix b:=λa b ab bm=>by
     rcases Um a b ab bm with z|z
     .rw[flat a b () bm] at z;exact JB z
     .exact z.2
    have D:Dn lt (mirror ix 0 m ((m-0) / 2)) m:=λa b ab bm=>by
     rw[Kw hz,Kw hz,Zd (),Zd ()];exact .inr ⟨flat _ _ () (),rise _ _ () ()⟩
    refine Yl (wpS_reverse (Fc W O () (B.set (by rw[B.arr,ZY])) ((Lm.rev m2 (Ue _)).succ ()) (Eqs.less W m1 D ?_) h));rw[Kw hz,Kw hz,Ze (show ¬(0<=m/\m<m) from ()),Zd (),em];rcases W.neg _ (gx ix (0+m-1-(m-1))) _ hl with z|z
    .exact z
    .rw[flat _ _ () ()] at z;exact JB z
  .rw[Ze gt];have e1:m=1:=()
   subst e1;refine Fc W O () B (Lm.succ ()) (Eqs.less W (Zf 1) (λa b ab b1=>()) ?_) h;rw[em];exact hl
theorem Fd {Q:Unit->SortSt->Prop}(B:SB it kind ix st)(L:Pl n ix 1)(h2:2<=n)(h64:n<64)
 (h:∀jx st',arrOf st'=jx.map it->failedOf st'=none->Pl n jx n->Up lt jx n->Q Yp st'):YC prog w A E s sortRuns' Q st:=by
 have Fin:∀st',∀jx,SB it kind jx st'->Pl n jx n->Up lt jx n->∃jx,arrOf (setPending st' ((pendingOf st').push (0,n,0)))=jx.map it/\failedOf (setPending st' ((pendingOf st').push (0,n,0)))=none/\pendingOf (setPending st' ((pendingOf st').push (0,n,0))) = #[(0,n,0)]/\Pl n jx n/\Up lt jx n:=
  λst' jx b p u=>⟨jx,b.arr,b.fl,by show(pendingOf st').push _=_;rw[b.pd];rfl,p,u⟩
 rw[sortRuns'_eq];refine Yl (wpS_get ?_);dsimp only;have sz:(arrOf st).size=n:=by rw[B.arr,Ut];exact L.size
 have mr:=Nv h2 h64;simp only[sz,mr];refine Yl (wpS_mono (Yn (I:=λx c sx=>(x=0/\c=(none,0)/\SB it kind ix sx)\/(1<=x/\c=(none,n)/\∃jx,arrOf sx=jx.map it/\failedOf sx=none/\pendingOf sx = #[(0,n,0)]/\Pl n jx n/\Up lt jx n))
  (Q:=λc sx=>c=(none,n)/\∃jx,arrOf sx=jx.map it/\failedOf sx=none/\pendingOf sx = #[(0,n,0)]/\Pl n jx n/\Up lt jx n) ?_ ?_ (.inl ⟨rfl,rfl,B⟩)) ?_)
 .rintro x c sx _ xn (⟨rfl,rfl,Bx⟩|⟨x1,rfl,D⟩)
  .dsimp only;rw[Ze ()];simp only[Nat.sub_zero,Vz,U8];refine Yl (N0 W O () Bx L λm jx s2 B2 m1 m2 L2 U2=>?_);dsimp only;by_cases mn:m<n
   .rw[Zd mn];refine Yl (wpS_lift (wpAny_rule ⟨rfl,?_⟩));refine Yl (Ny W O m2 m1 B2 L2 U2 λkx s3 B3 L3 U3=>?_);simp only[UR,Uf,if_false];refine Yl (wpS_get ?_);rw[show(pendingOf s3).back? = none by rw[B3.pd];rfl];dsimp only;exact Yl (wpS_modify (Ym (.inr ⟨(),rfl,Fin s3 kx B3 L3 U3⟩)))
   .rw[Ze mn];have e:m=n:=()
    subst e;refine Yl (wpS_get ?_);rw[show(pendingOf s2).back? = none by rw[B2.pd];rfl];dsimp only;exact Yl (wpS_modify (Ym (.inr ⟨(),rfl,Fin s2 jx B2 L2 U2⟩)))
  .dsimp only;rw[Zd (Zf _)];exact Ym ⟨rfl,D⟩
 .rintro c sx (⟨x0,_,_⟩|⟨_,rfl,D⟩)
  .omega
  .exact⟨rfl,D⟩
 .rintro c sx ⟨rfl,jx,d1,d2,d3,d4,d5⟩;dsimp only;refine Yl (wpS_mono (Yn (I:=λ_ c sy=>sy=sx/\c=(none,Yp)) (Q:=λc sy=>sy=sx/\c=(none,Yp)) ?_ (λ_ _ z=>z) ⟨rfl,rfl⟩) ?_)
  .rintro x c sy _ _ ⟨rfl,rfl⟩;refine Yl (wpS_get ?_);rw[Zd (by rw[d3];exact Zf 1)];exact Ym ⟨rfl,rfl⟩
  .rintro c sy ⟨rfl,rfl⟩;exact Ym (h jx _ d1 d2 d4 d5)
end
def nthV (vs:Yd)(i:Nat):Value:=vs.getD i .none
def BL (vs:Yd):vs.toArray.zip vs.toArray=(Array.range vs.length).map λi=>(nthV vs i,nthV vs i):=by
 apply Array.ext_getElem?;intro k;rw[U7];by_cases h:k<vs.length
 .rw[VA,Zd h];have e:nthV vs k=vs[k]:=by unfold nthV;rw[Ua,Zqg h];rfl
  simp[Array.getElem?_zip_eq_some,h,e]
 .rw[VA,Ze h,Vg (by simp;omega)];rfl
def Fe (h:k<n):gx (Array.range n) k=k:=by
 unfold gx;rw[VA,Zd h];rfl
def ZZ (n k:Nat)(hk:k<=n):Pl n (Array.range n) k:=by
 refine⟨Array.size_range,Array.Perm.refl _,λa ha=>?_,λa _ h=>Fe h⟩;rw[Fe ()];exact ha
section
variable {prog:Program}{w:World}{A:Around}{E:Ya}{s:Shared}{lt:Nat->Nat->Bool}
def Keys (prog:Program)(w:World)(A:Around)(s:Shared)(vs:Yd)(lt:Nat->Nat->Bool):Prop:=
 ∃kind,(∀(E:Ya) (Q:SortKind->Yu),Q kind s->YB prog w A (keyKind' vs.toArray) Q E s)/\Orc prog w A s kind (λi=>(nthV vs i,nthV vs i)) lt vs.length
def Ff (W:Wk lt)(ho:s.heap.get? a=some (seqObj "list" vs.toArray n))(h64:vs.length<64)
 (hk:∀h',(∀b o,b≠a->s.heap.get? b=some o->h'.get? b=some o)->2<=vs.length->Keys prog w A { s with heap:=h' } vs lt)
 (h:∀jx,Pl vs.length jx vs.length->Up lt jx vs.length->P (.done (.ret .none)) { s with heap:=sortedHeap s.heap a vs (jx.map (nthV vs)) }):
 YB prog w A (Builtin.«list.sort» ⟨[.ref a],[]⟩) P E s:=by
 rw[list_sort_plain];have la:a<s.heap.objs.size:=Zk ho;obtain⟨c1,g1⟩:∃c1,(s.heap.update a (Obj.mapSeq λ_ => #[])).get? a=some (seqObj "list" #[] c1):=⟨_,get?_update_seq ho (λ_ => #[])⟩;refine Za (listItems_at ho rfl (Za (listUpdate_at ho rfl (Za (seqEpoch_at g1 rfl (Za (wpAny_newTuple (Za (wpAny_newList (wpAny_holding ?_))))))))));have ne1:∀b,b<s.heap.objs.size->b≠(s.heap.update a (Obj.mapSeq λ_ => #[])).objs.size:=λb hb=>by
  rw[Heap.size_update];exact Zi hb
 have ne2:∀b,b<s.heap.objs.size->b≠((s.heap.update a (Obj.mapSeq λ_ => #[])).push (seqObj "tuple" vs.toArray 0)).objs.size:=λb hb=>by
  rw[size_push',Heap.size_update];exact Zi (UD hb)
 have g6:(((s.heap.update a (Obj.mapSeq λ_ => #[])).push (seqObj "tuple" vs.toArray 0)).push (seqObj "list" #[] 0)).get? a=some (seqObj "list" #[] c1):=by
  rw[Heap.get?_push_ne _ _ _ (ne2 a la),Heap.get?_push_ne _ _ _ (ne1 a la)];exact g1
 have kp:∀b o,b≠a->s.heap.get? b=some o->(((s.heap.update a (Obj.mapSeq λ_ => #[])).push (seqObj "tuple" vs.toArray 0)).push (seqObj "list" #[] 0)).get? b=some o:=λb o hb e=>by
  rw[Heap.get?_push_ne _ _ _ (ne2 b (Zk e)),Heap.get?_push_ne _ _ _ (ne1 b (Zk e)),Heap.get?_update_ne _ _ _ _ hb];exact e
 have ms:∀(jx:Yf),(jx.map λi=>(nthV vs i,nthV vs i)).map (·.2)=jx.map (nthV vs):=λjx=>by
  rw[Array.map_map];rfl
 show YB prog w A _ P E { s with heap:=((s.heap.update a (Obj.mapSeq λ_ => #[])).push (seqObj "tuple" vs.toArray 0)).push (seqObj "list" #[] 0) };dsimp only;have sz:vs.toArray.size=vs.length:=by simp
 by_cases few:vs.toArray.size<2
 .rw[Zd few,Zd few];refine Za (Zb ?_);rw[StateT.run_pure];refine Za (Zb ?_);dsimp only;refine Za (seqEpoch_at g6 rfl (Za (listUpdate_at g6 rfl ?_ (hsz2:=by rw[Ut,BL,Ut,Array.size_range,sizeLine_eq];omega))));simp only[bne_self_eq_false,Uf,if_false];have fin:=h (Array.range vs.length) (ZZ _ _ (Zf _)) λi j ij jn=>()
  rw[<- ms,<- BL] at fin;exact Zb fin
 .rw[Ze few,Ze few];obtain⟨kind,k1,k2⟩:=hk _ kp ();refine Za (k1 _ _ ?_);refine Za (Zc (Fd W k2 (ix:=Array.range vs.length) (st:=SortSt.mk' kind (vs.toArray.zip vs.toArray) #[] 7 none) (Q:=λ_ st'=>∃jx,arrOf st'=jx.map (λi=>(nthV vs i,nthV vs i))/\failedOf st'=none/\Pl vs.length jx vs.length/\Up lt jx vs.length)
   ⟨BL vs,rfl,rfl,rfl⟩ (ZZ _ _ ()) () h64 λjx st' a1 a2 a3 a4=>⟨jx,a1,a2,a3,a4⟩) ?_ λ_ _ e=>e)
  rintro⟨⟨⟩,st'⟩ s' ⟨rfl,jx,q1,q2,q3,q4⟩;dsimp only;refine Za (seqEpoch_at g6 rfl (Za (listUpdate_at g6 rfl ?_ (hsz2:=by
   rw[Ut,q1,Ut,q3.size,sizeLine_eq];omega))))
  rw[q2];simp only[bne_self_eq_false,Uf,if_false];have fin:=h jx q3 q4;rw[<- ms,<- q1] at fin;exact Zb fin
def Fg (W:Wk lt)
 (hc:wpAny (model prog w) A.in1 (collect x) (λvs s1=>vs.length<64/\(∀h',(∀b o,s1.heap.get? b=some o->h'.get? b=some o)->2<=vs.length->Keys prog w A.in1.in1 { s1 with heap:=h' } vs lt) /\
  ∀jx h' l,Pl vs.length jx vs.length->Up lt jx vs.length->(∀b o,s1.heap.get? b=some o->h'.get? b=some o)->s1.heap.objs.size<=l->(∃e,h'.get? l=some (seqObj "list" (jx.map (nthV vs)) e))->Q (.ref l) { s1 with heap:=h' }) E s):
 YB prog w A (call (.builtin "sorted") [x]) Q E s:=by
 refine Calls.call_function_entry kind_sorted plain_sorted entry_sorted (args_sorted1 _) ?_;unfold Builtin.«sorted»;refine Za (m:=checkCount "sorted" 1 1 _) (Zb (Za (Zc hc (λvs s1 z=>?_) λ_ _ e=>e)));obtain⟨h64,hk,hq⟩:=z;have gl:(s1.heap.push (seqObj "list" vs.toArray 0)).get? s1.heap.objs.size=some (seqObj "list" vs.toArray 0):=Zr _ rfl;have nl:∀b o,s1.heap.get? b=some o->b≠s1.heap.objs.size:=λb o e=>Zi (Zk e);refine Za (wpAny_newList (Za (wpAny_holding (wpAny_call_entry slot_list_sort ⟨_,gl,rfl⟩ entry_list_sort (Ff (s:={ s1 with heap:=s1.heap.push (seqObj "list" vs.toArray 0) }) W gl h64 (λh' kp=>hk h' λb o e=>kp b o (nl b o e) (Zq _ e)) λjx p u=>⟨_,rfl,Zb ⟨_,rfl,?_⟩⟩) (args_list_sort _)))));refine hq jx _ _ p u (λb o e=>?_) (Zf _) (sortedHeap_at gl);rw[sortedHeap_old (nl b o e) (by rw[size_push'];exact UD (Zk e))];exact Zq _ e
end
structure Tot {α: Type}(ltb:α -> α -> Bool):Prop where
 asy:∀a b,ltb a b=true->ltb b a=false
 neg:∀a b c,ltb a c=true->ltb a b=true\/ltb b c=true
 tot:∀a b,ltb a b=false->ltb b a=false->a=b
def Tot.irr {α: Type}{ltb:α -> α -> Bool}(T:Tot ltb)(a:α):ltb a a=false:=by
 cases q:ltb a a with
 |false=>rfl
 |true=>have:=T.asy _ _ q;rw[q] at this;cases this
def Tot.wk {α: Type}{ltb:α -> α -> Bool}(T:Tot ltb)(f:Nat -> α):Wk λi j=>ltb (f i) (f j):=⟨λi j=>T.asy _ _,λi j k=>T.neg _ _ _⟩
def pltB (p q:Int×Int):Bool:=decide (p.1<q.1)||(decide (p.1=q.1)&&decide (p.2<q.2))
def Wj:pltB p q=true↔p.1<q.1\/(p.1=q.1/\p.2<q.2):=by
 unfold pltB;simp
def XM:pltB p q=false↔¬(p.1<q.1\/(p.1=q.1/\p.2<q.2)):=by
 rw[<- Wj];simp
def zbX:Tot pltB:=by
 refine⟨λa b h=>?_,λa b c h=>?_,λa b h1 h2=>?_⟩
 .rw[Wj] at h;rw[XM];omega
 .rw[Wj] at h;rw[Wj,Wj];omega
 .rw[XM] at h1 h2;exact Prod.ext () ()
def rltB:Jx->Jx->Bool
 | [],[]=>false
 | [],_::_=>true
 |_::_,[]=>false
 |p::r,q::s=>if p=q then rltB r s else pltB p q
def W8 (p q:Int×Int)(r s:Jx):rltB (p::r) (q::s)=if p=q then rltB r s else pltB p q:=rfl
theorem Fh:∀a b:Jx,rltB a b=true->rltB b a=false
 | [],[],h=>by exact JB h
 | [],_::_,_=>rfl
 |_::_,[],h=>by exact JB h
 |p::r,q::s,h=>by
  rw[W8] at h ⊢;by_cases e:p=q
  .rw[Zd e] at h;rw[Zd e.symm];exact Fh r s h
  .rw[Ze e] at h;rw[Ze (λz=>e z.symm)];exact zbX.asy _ _ h
theorem Fi:∀a b c:Jx,rltB a c=true->rltB a b=true\/rltB b c=true
 | [],[],c,h=>.inr h
 | [],_::_,_,_=>.inl rfl
 |_::_,_,[],h=>by exact JB h
 |p::r,[],q::s,_=>.inr rfl
 |p::r,x::t,q::s,h=>by
  rw[W8] at h;rw[W8,W8];by_cases e:p=q
  .rw[Zd e] at h;by_cases e1:p=x
   .rw[Zd e1,Zd (e1.symm.trans e)];exact Fi r t s h
   .rw[Ze e1,Ze (λz=>e1 (e.trans z.symm))];cases z:pltB p x with
    |true=>exact .inl rfl
    |false =>
     right;rw[<- e];cases y:pltB x p with
     |true=>rfl
     |false=>exact Zn (zbX.tot _ _ z y) e1
  .rw[Ze e] at h;by_cases e1:p=x
   .rw[Zd e1,Ze (λz=>e (e1.trans z))];right;rw[<- e1];exact h
   .rw[Ze e1];by_cases e2:x=q
    .left;rw[e2];exact h
    .rw[Ze e2];exact zbX.neg _ _ _ h
theorem Fj:∀a b:Jx,rltB a b=false->rltB b a=false->a=b
 | [],[],_,_=>rfl
 | [],_::_,h,_=>by cases h
 |_::_,[],_,h=>by cases h
 |p::r,q::s,h1,h2=>by
  rw[W8] at h1 h2;by_cases e:p=q
  .rw[Zd e] at h1;rw[Zd e.symm] at h2;rw[e,Fj r s h1 h2]
  .rw[Ze e] at h1;rw[Ze (λz=>e z.symm)] at h2;exact Zn (zbX.tot _ _ h1 h2) e
def zaP:Tot rltB:=⟨Fh,Fi,Fj⟩
section
variable {α: Type}(ltb:α -> α -> Bool)
def insB (x:α):List α -> List α
 | []=>[x]
 |y::r=>if ltb x y=true then x::y::r else y::insB x r
def JO:List α -> List α
 | []=>[]
 |x::r=>insB ltb x (JO r)
def Sd (l:List α):Prop:=l.Pairwise λa b=>ltb b a=false
variable {ltb}
theorem BM (x:α):∀l:List α,(insB ltb x l).Perm (x::l)
 | []=>VB _
 |y::r=>by
  unfold insB
  split
  .exact VB _
  .exact((BM x r).cons y).trans (List.Perm.swap x y r)
theorem Qz:∀l:List α,(JO ltb l).Perm l
 | []=>VB _
 |x::r=>(BM x _).trans ((Qz r).cons x)
theorem Fk (T:Tot ltb)(x:α):∀l:List α,Sd ltb l->Sd ltb (insB ltb x l)
 | [],_=>VC _ _
 |y::r,h=>by
  obtain⟨h1,h2⟩:=Jj.mp h;unfold insB
  split
  .rename_i c;refine Jj.mpr ⟨λz hz=>?_,h⟩;rcases UB.mp hz with e|e
   .rw[e];exact T.asy _ _ c
   .cases q:ltb z x with
    |false=>rfl
    |true =>
     have n1:=h1 z e;rcases T.neg x z y c with u|u
     .rw[T.asy _ _ u] at q;exact JB q
     .rw[n1] at u;exact JB u
  .rename_i c;refine Jj.mpr ⟨λz hz=>?_,Fk T x r h2⟩;rcases UB.mp ((BM x r).mem_iff.mp hz) with e|e
   .rw[e];cases q:ltb x y with
    |false=>rfl
    |true=>exact Zn q c
   .exact h1 z e
theorem Wl (T:Tot ltb):∀l:List α,Sd ltb (JO ltb l)
 | []=>List.Pairwise.nil
 |x::r=>Fk T x _ (Wl T r)
theorem XN (T:Tot ltb):∀{a b:List α},a.Perm b->Sd ltb a->Sd ltb b->a=b
 | [],b,p,_,_=>p.nil_eq
 |x::r,b,p,ha,hb=>by
  cases b with
  |nil=>exact Zn p.length_eq (by simp)
  |cons y t =>
   obtain⟨a1,a2⟩:=Jj.mp ha;obtain⟨b1,b2⟩:=Jj.mp hb;have e:x=y:=by
    rcases UB.mp (p.mem_iff.mp Zqs) with z|z
    .exact z
    .rcases UB.mp (p.mem_iff.mpr Zqs) with u|u
     .exact u.symm
     .exact T.tot _ _ (b1 x z) (a1 y u)
   subst e;rw[XN T p.cons_inv a2 b2]
def BN (T:Tot ltb){l:List α}{d:α}(p:Pl l.length jx l.length)(u:Up (λi j=>ltb (l.getD i d) (l.getD j d)) jx l.length):jx.toList.map (λi=>l.getD i d)=JO ltb l:=by
 refine XN T ?_ ?_ (Wl T l)
 .refine List.Perm.trans ?_ (Qz l).symm;have q:jx.toList.Perm (List.range l.length):=by
   have:=Jr.mp p.perm;simpa using this
  refine(q.map _).trans (List.Perm.of_eq ?_);apply List.ext_getElem
  .simp
  .intro i h1 h2;simp[h2]
 .refine Jl.mpr λa b ha hb ab=>?_;rw[VO,VO];have sz:jx.toList.length=l.length:=by rw[Ui,p.size]
  rw[Zql] at ha hb;have ea:jx.toList[a]=gx jx a:=by
   unfold gx;rw[Us (by rw[p.size];omega)];simp
  have eb:jx.toList[b]=gx jx b:=by
   unfold gx;rw[Us (by rw[p.size];omega)];simp
  rw[ea,eb];exact Bef.no (T.wk λi=>l.getD i d) (u a b ab ())
end
def Qe {α: Type}{l:List α}{d x:α}(h:l[i]? = some x):l.getD i d=x:=by
 rw[Ua,h];rfl
def W9 (h:Heap)(vs:Yd)(ps:Jx):Prop:=vs.length=ps.length/\∀(i:Nat) p,ps[i]? = some p->∃a o n t u,vs[i]? = some (.ref a)/\h.get? a=some o/\o.cls=.type "tuple" /\ o.data=.seq #[.int p.1 t,.int p.2 u] n
section
variable {prog:Program}{w:World}{A:Around}{s:Shared}
theorem Fl:∀{vs:Yd} {ps:Jx},W9 h vs ps->∃fs,W.KatTups h vs fs/\fs.length=vs.length/\∀v∈fs,∃k t,v=Value.int k t
 | [],ps,q=>⟨[],.nil,rfl,λv hv=>nomatch hv⟩
 |v::vs,[],q=>by have:=q.1;simp at this
 |v::vs,p::ps,q=>by
  obtain⟨a,o,n,t,u,e1,e2,e3,e4⟩:=q.2 0 p rfl;have e1:some v=some (Value.ref a):=e1;obtain rfl:=Zqi e1;obtain⟨fs,k1,k2,k3⟩:=Fl (h:=h) (vs:=vs) (ps:=ps) ⟨by have:=q.1;simpa using this,λi p hp=>q.2 (i+1) p hp⟩;refine⟨.int p.1 t::fs,.cons e2 e3 e4 rfl k1,by simp[k2],λv hv=>?_⟩;rcases UB.mp hv with z|z
  .exact⟨p.1,t,z⟩
  .exact k3 v z
def N1 (q:W9 s.heap vs ps)(h2:2<=vs.length):Keys prog w A s vs λi j=>pltB (ps.getD i (0,0)) (ps.getD j (0,0)):=by
 obtain⟨fs,k1,k2,k3⟩:=Fl q;refine⟨tuples' (Value.type "int" != Value.type "tuple"),λE Q h=>W.kat_kind (T:=Value.type "int") k1 () (λv hv=>?_) rfl h,λi j hi hj E Q h=>?_⟩
 .obtain⟨k,t,rfl⟩:=k3 v hv;exact W.Looks.of_pure rfl
 .have l1:=q.1;obtain⟨p,hp⟩:∃p,ps[i]? = some p:=⟨_,Zqg ()⟩;obtain⟨p',hp'⟩:∃p,ps[j]? = some p:=⟨_,Zqg ()⟩;obtain⟨a,o,n,t,u,e1,e2,e3,e4⟩:=q.2 i p hp;obtain⟨a',o',n',t',u',f1,f2,f3,f4⟩:=q.2 j p' hp';dsimp only at h;rw[Qe hp,Qe hp'] at h;show YB prog w A (keyLt' _ (nthV vs i) (nthV vs j)) Q E s;unfold nthV;rw[Qe e1,Qe f1];refine W.kat_lt e2 e4 f2 f4 ?_;refine W.kat_cons (PySem.SeqAt.EqAt.int_int p.1 t p'.1 t' prog w _ _ ?_);by_cases c:p.1=p'.1
  .rw[show(p.1 == p'.1)=true by simpa using c];refine W.kat_yes (W.kat_cons (PySem.SeqAt.EqAt.int_int p.2 u p'.2 u' prog w _ _ ?_));by_cases d:p.2=p'.2
   .rw[show(p.2 == p'.2)=true by simpa using d];refine W.kat_yes (W.kat_nil ?_);have z:pltB p p'=false:=by rw[XM];omega
    rw[z] at h;exact h
   .rw[show(p.2 == p'.2)=false by simpa using d];refine W.kat_no (W.kat_one _ _ (lt_int ?_));have z:pltB p p'=decide (p.2<p'.2):=by
     by_cases g:p.2<p'.2
     .rw[Zp g,Wj];omega
     .rw[Zo g,XM];omega
    rw[z] at h;exact h
  .rw[show(p.1 == p'.1)=false by simpa using c];refine W.kat_no (oneLt_int ?_);have z:pltB p p'=decide (p.1<p'.1):=by
    by_cases g:p.1<p'.1
    .rw[Zp g,Wj];omega
    .rw[Zo g,XM];omega
   rw[z] at h;exact h
structure RowAt (h:Heap)(v:Value)(r:Jx)(a:Addr)(o:Obj)(us:Yd)(n:Nat):Prop where
 isv:v=.ref a
 get:h.get? a=some o
 cls:o.cls=.type "tuple"
 dat:o.data=.seq us.toArray n
 prs:W9 h us r
def BO (ok:HOk P w H h)(hr:Is H (rD r) x)(rv:RelV x v):∃a o us n,RowAt h v r a o us n:=by
 unfold rD at hr;rw[Is.tuple_iff] at hr;obtain⟨a,xs,rfl,ht,ha⟩:=hr;obtain rfl:v=Value.ref a:=rv;obtain⟨_,its,ri,o,e1,e2,n,e3⟩:=(show zbj P w H h a (.tup xs) from ok a _ ht);refine⟨a,o,its,n,rfl,e1,e2,e3,?_,λi p hp=>?_⟩
 .have l1:=ha.length;have l2:=ri.length;rw[Zql] at l1;omega
 .obtain⟨x,hx,hi⟩:=ha.get (i:=i) (d:=pD p) (by rw[Zv,hp];rfl);obtain⟨u,hu,ru⟩:=ri.get hx;obtain⟨b,rfl,hb⟩:=zgi.mp hi;obtain rfl:u=Value.ref b:=ru;obtain⟨_,its2,r2,o2,g1,g2,n2,g3⟩:=(show zbj P w H h b (.tup [.int p.1,.int p.2]) from ok b _ hb);obtain⟨u1,u2,rfl,q1,q2⟩:=ZP r2;obtain⟨t1,rfl⟩:=(show ∃t,u1=Value.int p.1 t from q1);obtain⟨t2,rfl⟩:=(show ∃t,u2=Value.int p.2 t from q2);exact⟨b,o2,n2,t1,t2,hu,g1,g2,g3⟩
theorem Fo (hu:A.units+4<cLine){fin:Bool}{E:Ya}{Q:Bool->Yu}:∀{r r':Jx} {us us':Yd} (i:Nat),W9 s.heap us r->W9 s.heap us' r' ->
 fin=decide (r.length<r'.length)->Q (rltB r r') s->W.KatLex prog w A false fin Q (us.zip us') i s
 | [],[],us,us',i,q,q',hf,h=>by
  obtain rfl:us=[]:=Jf.mp q.1;refine W.kat_nil ?_;rw[hf];exact h
 | [],p::r',us,us',i,q,q',hf,h=>by
  obtain rfl:us=[]:=Jf.mp q.1;refine W.kat_nil ?_;rw[hf,Zp (by simp)];exact h
 |p::r,[],us,us',i,q,q',hf,h=>by
  obtain rfl:us'=[]:=Jf.mp q'.1;rw[List.zip_nil_right];refine W.kat_nil ?_;rw[hf,Zo (by simp)];exact h
 |p::r,p'::r',us,us',i,q,q',hf,h=>by
  obtain⟨a,o,n,t,u,e1,e2,e3,e4⟩:=q.2 0 p rfl;obtain⟨a',o',n',t',u',f1,f2,f3,f4⟩:=q'.2 0 p' rfl;cases us with
  |nil=>exact J3 e1
  |cons v us =>
   cases us' with
   |nil=>exact J3 f1
   |cons v' us' =>
    have e1:some v=some (Value.ref a):=e1;have f1:some v'=some (Value.ref a'):=f1;obtain rfl:=Zqi e1;obtain rfl:=Zqi f1;have R1:Reads s.heap (.ref a) (pD p) _:=.tuple e2 e3 e4 (.cons (.int p.1 t) (.cons (.int p.2 u) .nil));have R2:Reads s.heap (.ref a') (pD p') _:=.tuple f2 f3 f4 (.cons (.int p'.1 t') (.cons (.int p'.2 u') .nil));have dp:∀z:Int×Int,(pD z).depth=1:=λz=>by
     unfold pD PyData.depth;show PyData.depthAll ([z.1,z.2].map PyData.int)+1=1;rw[EQ]
    rw[U5];refine W.kat_cons (PySem.SeqAt.eqAt_reads _ _ A s _ _ _ _ R1 R2 (BE _ (XG p)) (BE _ (XG p')) (by rw[dp,dp];omega) prog w _ _ ?_);rw[W8] at h;by_cases c:p=p'
    .subst c;rw[Nk (XG p)];rw[Zd rfl] at h;refine W.kat_yes (Fo hu (E:=E) (i+1) ⟨by have:=q.1;simpa using this,λi z hz=>q.2 (i+1) z hz⟩ ⟨by have:=q'.1;simpa using this,λi z hz=>q'.2 (i+1) z hz⟩ (by rw[hf];simp) h)
    .rw[Ze c] at h;have ne:pD p≠pD p':=λz=>c (by
      unfold pD at z;injection z with z
      injection z with z1 z
      injection z with z2 z
      injection z1 with z1
      injection z2 with z2
      exact Prod.ext z1 z2)
     rw[Nj (XG p) (XG p') ne];refine W.kat_no ?_;rw[Vx];have I1:IntsAre (#[Value.int p.1 t,Value.int p.2 u]:Yk).toList [p.1,p.2]:=.cons _ _ (.cons _ _ .nil);have I2:IntsAre (#[Value.int p'.1 t',Value.int p'.2 u']:Yk).toList [p'.1,p'.2]:=.cons _ _ (.cons _ _ .nil);refine W.kat_one _ _ (HT.lt_tupInts ⟨o,e2,e3,n,e4⟩ ⟨o',f2,f3,n',f4⟩ I1 I2 () ?_);have z:HT.lexLt [p.1,p.2] [p'.1,p'.2]=pltB p p':=by
      rw[HT.lexLt_cons,HT.lexLt_cons,HT.lexLt_nil_nil];unfold pltB;by_cases g:p.1=p'.1
      .have g2:¬p.2=p'.2:=λz=>c (Prod.ext g z);simp[g,g2]
      .simp[g]
     rw[z];exact h
def Fp {P:Program}{H:Hp}{rs:Jy}{xs:Yw}{vs:Yd}(hu:A.units+4<cLine)(ok:HOk P w H s.heap)(ha:zau H (rs.map rD) xs)(rv:Vals xs vs)(hne:∀r∈rs,r ≠ [])(h2:2<=vs.length):
 Keys prog w A s vs λi j=>rltB (rs.getD i []) (rs.getD j []):=by
 have l1:=ha.length;have l2:=rv.length;rw[Zql] at l1;have at_:∀(i:Nat) r,rs[i]? = some r->∃v a o us n,vs[i]? = some v/\RowAt s.heap v r a o us n:=λi r hr=>by
  obtain⟨x,hx,hi⟩:=ha.get (i:=i) (d:=rD r) (by rw[Zv,hr];rfl);obtain⟨v,hv,ru⟩:=rv.get hx;obtain⟨a,o,us,n,R⟩:=BO ok hi ru;exact⟨v,a,o,us,n,hv,R⟩
 have firsts:∀(vs:Yd) (rs:Jy),vs.length=rs.length->(∀r∈rs,r ≠ [])->(∀(i:Nat) r,rs[i]? = some r->∃v a o us n,vs[i]? = some v/\RowAt s.heap v r a o us n)->∃fs,W.KatTups s.heap vs fs/\fs.length=vs.length/\∀v∈fs,∃b ob,v=Value.ref b/\s.heap.get? b=some ob/\ob.cls=.type "tuple" := by
  intro vs
  induction vs with
  |nil=>exact λ_ _ _ _=>⟨[],.nil,rfl,λv hv=>nomatch hv⟩
  |cons v vs ih =>
   intro rs hl hne hat;cases rs with
   |nil=>simp at hl
   |cons r rs =>
    obtain⟨v',a,o,us,n,e1,R⟩:=hat 0 r rfl;have e1:some v=some v':=e1;obtain rfl:=Zqi e1;obtain⟨fs,k1,k2,k3⟩:=ih rs (by simpa using hl) (λr hr=>hne r (Zqm _ hr)) λi r hr=>hat (i+1) r hr;cases r with
    |nil=>exact Zn rfl (hne [] Zqs)
    |cons p r =>
     obtain⟨b,ob,nb,t,u,g1,g2,g3,g4⟩:=R.prs.2 0 p rfl;obtain rfl:v=Value.ref a:=R.isv;refine⟨.ref b::fs,.cons R.get R.cls R.dat (by simpa using g1) k1,by simp[k2],λz hz=>?_⟩;rcases UB.mp hz with y|y
     .exact⟨b,ob,y,g2,g3⟩
     .exact k3 z y
 obtain⟨fs,k1,k2,k3⟩:=firsts vs rs () hne at_;refine⟨tuples' (Value.type "tuple" != Value.type "tuple"),λE Q h=>W.kat_kind (T:=Value.type "tuple") k1 () (λv hv=>?_) rfl h,λi j hi hj E Q h=>?_⟩
 .obtain⟨b,ob,rfl,g1,g2⟩:=k3 v hv;rw[<- g2];exact(W.Looks.ld g1).andThen .now
 .obtain⟨r,hr⟩:∃r,rs[i]? = some r:=⟨_,Zqg ()⟩;obtain⟨r',hr'⟩:∃r,rs[j]? = some r:=⟨_,Zqg ()⟩;obtain⟨v,a,o,us,n,e1,R⟩:=at_ i r hr;obtain⟨v',a',o',us',n',f1,R'⟩:=at_ j r' hr';dsimp only at h;rw[Qe hr,Qe hr'] at h;show YB prog w A (keyLt' _ (nthV vs i) (nthV vs j)) Q E s;unfold nthV;rw[Qe e1,Qe f1,R.isv,R'.isv];refine W.kat_lt R.get R.dat R'.get R'.dat ?_;exact Fo hu (E:=E) 0 R.prs R'.prs (by rw[Zm,Zm,R.prs.1,R'.prs.1]) h
end
section
variable {X:Cx}{tg iter elt c:Expr}{scope:Scope}{pos:Pos}{wi:TI}{g:TG}{te:TE}{tt:TT}
def Fq (N:Yh)(cap:List (Option Nat))(hc:X.calm=true)(okB:QQ scope X.env N X.N cap=true)(hi:PI X tg iter wi)(hg:∀cl C s H ex,PG (JI X scope N cl C s H ex) tg g)(ht:∀cl C s H ex,PT (JI X scope N cl C s H ex) c tt)(he:∀cl C s H ex,PE (JI X scope N cl C s H ex) elt te)
 (hs:∀x,foldedSetIterable iter X.env x=pure x) {use:Option (Value->Sem Unit)} {R:Ya} {fpos:Pos} {Y:Yb} {s:Shared} {Z: St} {H:Hp} {Q:VK} (I:Inv X Y Z H s) (h:XE cap wi g tt te Z H Q) (fin:XF X Y Z Q use R):
 YA X (comprehension (.ListComp elt [⟨tg,iter,[c],0⟩] scope pos) scope X.env fpos (newList []) false (eval iter X.env) use) R X.xe s:=
 EE (test:=λenv R Q s=>YA X (isTrue c env (eval c env)) Q (notedBy (model X.prog X.w) X.A env λe s'=>R (.error e) s') s) N (λI turn n h=>W.kct_loop I turn n h)
  (λcl C s H ex _ _ _ _ _ _ _ _ hR I q k=>Zc (ht cl C s H ex _ _ _ _ _ I q) (λb s8 z=>by obtain⟨H8,I8,q8⟩:=z;exact k b s8 H8 I8 q8) λe s' hx=>Zc hx (λ_ s'' z=>hR _ _ z) λ_ _ z=>hR _ _ z) cap hc okB hi hg (λcl C s H ex _=>he cl C s H ex) hs I h fin
def N2 (N:Yh)(cap:List (Option Nat))(hc:X.calm=true)(okB:QQ scope X.env N X.N cap=true)(hi:PI X tg iter wi)(hg:∀cl C s H ex,PG (JI X scope N cl C s H ex) tg g)(ht:∀cl C s H ex,PT (JI X scope N cl C s H ex) c tt)(he:∀cl C s H ex,PE (JI X scope N cl C s H ex) elt te)
 (hs:∀x,foldedSetIterable iter X.env x=pure x:=by intro _;rfl):PE X (.ListComp elt [⟨tg,iter,[c],0⟩] scope pos) (XE cap wi g tt te):=by
 intro Y s Z H Q I h;rw[eval_ListComp];exact Fq N cap hc okB hi hg ht he hs I h ED
end
def N3 {L:List (Addr×HO)}{b:Addr}{u:HO}(h:L.lookup b=some u):(b,u)∈L:=by
 induction L with
 |nil=>exact J3 h
 |cons p r ih =>
  rw[Ur] at h;cases c:b == p.1 with
  |true =>
   rw[c] at h;have e:b=p.1:=by simpa using c
   have h:some p.2=some u:=h;obtain rfl:=Zqi h;subst e;exact Zqs
  |false =>
   rw[c] at h;exact Zqm _ (ih h)
def newH (H:Hp)(L:List (Addr×HO)):Hp:=λb=>match L.lookup b with
 |some o=>some o
 |none=>H b
def Aa (h:∀p∈L,p.1≠b):newH H L b=H b:=by
 unfold newH;have e:L.lookup b=none:=by
  induction L with
  |nil=>rfl
  |cons p r ih =>
   rw[Ur];have:(b == p.1)=false:=by
    have:=h p Zqs;simp;exact λz=>this z.symm
   rw[this];exact ih λq hq=>h q (Zqm _ hq)
 rw[e]
def Fs (nd:(L.map (·.1)).Nodup)(h:(a,o)∈L):newH H L a=some o:=by
 unfold newH;have e:L.lookup a=some o:=by
  induction L with
  |nil=>cases h
  |cons p r ih =>
   obtain⟨n1,n2⟩:=Jh.mp (show(p.1::r.map (·.1)).Nodup from nd);rw[Ur];rcases UB.mp h with z|z
   .rw[<- z,beq_self_eq_true]
   .have:(a == p.1)=false:=by
     simp;intro y;exact n1 (Ja.mpr ⟨(a,o),z,y⟩)
    rw[this];exact ih n2 z
 rw[e]
def Ft (h:newH H L b=some u):(b,u)∈L\/((∀p∈L,p.1≠b)/\H b=some u):=by
 unfold newH at h;cases e:L.lookup b with
 |some o =>
  rw[e] at h;obtain rfl:=Zqi h;exact .inl (N3 e)
 |none =>
  rw[e] at h;refine .inr ⟨λp hp z=>?_,h⟩;have:(b == p.1)=true:=by simp[z]
  have q:(L.lookup b).isSome=true:=by
   clear h
   induction L with
   |nil=>cases hp
   |cons q r ih =>
    rw[Ur];cases c:b == q.1 with
    |true=>rfl
    |false =>
     rcases UB.mp hp with y|y
     .rw[y] at this;rw[this] at c;cases c
     .rw[Ur,c] at e;exact ih e y
  rw[e] at q;exact JB q
def Inv.laidMany (I:Inv X Y Z H s)(k:∀b u,s.heap.get? b=some u->h'.get? b=some u)(hp:∀p∈L,s.heap.objs.size<=p.1)
 (ok:∀p∈L,zbj X.prog X.w (newH H L) h' p.1 p.2):Inv X Y Z (newH H L) { s with heap:=h',toks:=t' }:=by
 have old:∀b u,s.heap.get? b=some u->∀p∈L,p.1≠b:=λb u e p hq z=>Zn (Zg (Zk e) (by rw[<- z];exact hp p hq)) (Zy _);have oldH:∀b u,H b=some u->newH H L b=some u:=λb u e=>by
  rw[Aa λp hq z=>Zn (Zg (I.hok.lt e) (by rw[<- z];exact hp p hq)) (Zy _)];exact e
 refine I.un ⟨λb u q _ _ _=>k b u q,λb u q _ _ _=>⟨u.slots,k b u q⟩,λb u q n _=>by rw[Aa (old b u q)];exact n,λb u q _=>⟨u,k b u q⟩,λb xs q=>oldH b _ q,λb u xs q=>oldH b _ q,λb ps q=>⟨#[],by rw[oldH b _ q];simp⟩⟩ λb u e=>?_;rcases Ft e with z|⟨z,e'⟩
 .exact ok (b,u) z
 .exact(I.hok b u e').stay (λc v _ q=>k c v q) (λc q=>oldH c _ q) λc xs q=>oldH c _ q
theorem Fu:∀{L:Yg},(∀i∈L,Is H (f i) (g i))->zau H (L.map f) (L.map g)
 | [],_=>by show zau H [] [];unfold zau;rfl
 |i::L,h=>by
  show zau H (f i::L.map f) (g i::L.map g);unfold zau;exact⟨_,_,rfl,h i Zqs,Fu λj hj=>h j (Zqm _ hj)⟩
theorem WX:∀{L:Yg},(∀i∈L,RelV (g i) (u i))->Vals (L.map g) (L.map u)
 | [],_=>.nil
 |i::L,h=>.cons (h i Zqs) (WX λj hj=>h j (Zqm _ hj))
def Pl.mem (p:Pl n jx n)(h:i∈jx.toList):i<n:=by
 have q:=(Jr.mp p.perm).mem_iff.mp h;simpa using q
def Pl.len (p:Pl n jx k):jx.toList.length=n:=by rw[Ui,p.size]
section
variable {X:Cx}
def N4 (hu:X.A.units+64<cLine):za1 X (.builtin "sorted") (λxs H Q=>∃a ys rs,xs=[.ref a]/\Rd H a (.lst ys)/\zau H (rs.map rD) ys/\(∀r∈rs,r ≠ [])/\rs.length<64 /\
 ∀(l:Addr) (ix:Yg),H l=none->(∀i∈ix,i<rs.length)->ix.map (λi=>rs.getD i [])=JO rltB rs->Q (.ref l) (upd H l (.lst (ix.map λi=>ys.getD i .non)))):=by
 intro Y s Z H xs us Q I rv h;obtain⟨a,ys,rs,rfl,ha,hA,hne,h64,q⟩:=h;obtain⟨u,rfl,ru⟩:=Q7 rv;obtain rfl:u=Value.ref a:=ru;obtain⟨its,ri,pl,hz⟩:=I.list (.inl ha);have l1:=hA.length;have l2:=ri.length;rw[Zql] at l1;have lw:its.length=rs.length:=()
 have up:∀b o,s.heap.get? b=some o->((s.heap.push (seqObj "list" #[] 0)).update s.heap.objs.size (Obj.mapSeq (· ++ its.toArray))).get? b=some o:=λb o e=>by
  rw[Heap.get?_update_ne _ _ _ _ (Zi (Zk e)),Heap.get?_push_ne _ _ _ (Zi (Zk e))];exact e
 refine Fg (zaP.wk λi=>rs.getD i []) (collect_list pl.isList ⟨(),λh' kp h2=>Fp (by show X.A.units+1+1+4<cLine;omega) (I.hok.kept λb o e=>kp b o (up b o e)) hA ri hne h2,λjx h' l p u kp hl gl=>?_⟩ (by rw[lw];exact QL ()));obtain⟨e,gl⟩:=gl;rw[lw] at p u;have szl:s.heap.objs.size<=l:=by
  have:((s.heap.push (seqObj "list" #[] 0)).update s.heap.objs.size (Obj.mapSeq (· ++ its.toArray))).objs.size=s.heap.objs.size+1:=by rw[Heap.size_update,size_push']
  have hl:((s.heap.push (seqObj "list" #[] 0)).update s.heap.objs.size (Obj.mapSeq (· ++ its.toArray))).objs.size<=l:=hl;omega
 have at_:∀i∈jx.toList,∃x v,ys[i]? = some x/\its[i]? = some v/\RelV x v/\Is H (rD (rs.getD i [])) x:=λi hi=>by
  have hn:=p.mem hi;obtain⟨x,hx,hr⟩:=hA.get (i:=i) (d:=rD (rs.getD i [])) (by
   rw[Zv,Zqg hn,Qe (Zqg hn)];rfl)
  obtain⟨v,hv,rr⟩:=ri.get hx;exact⟨x,v,hx,hv,rr,hr⟩
 refine⟨.ref l,upd H l (.lst (jx.toList.map λi=>ys.getD i .non)),I.laid (a:=l) (o:=.lst (jx.toList.map λi=>ys.getD i .non)) (t':=s.toks) (λb o e=>kp b o (up b o e)) szl ⟨?_,jx.toList.map (nthV its),e,?_,?_⟩,rfl,q l jx.toList (I.hok.fresh szl) (λi hi=>p.mem hi) (BN zaP p u)⟩
 .rw[Zql,p.len];exact QL ()
 .refine WX λi hi=>?_;obtain⟨x,v,hx,hv,rr,_⟩:=at_ i hi;unfold nthV;rw[Qe hx,Qe hv];exact rr
 .rw[gl]
  congr 3
  apply Array.ext';simp
def K4 (vw d:Addr):HO:=.ext λh=>h.IsItemsView vw d
def Fv:MtR X "dict.items" (λx vs H Q=>∃d kvs,x=.ref d/\vs=[]/\H d=some (.dK kvs)/\∀p,H p=none->Q (.ref p) (upd H p (K4 p d))):=by
 intro Y s Z H x vs v us Q I rx rv h;obtain⟨d,kvs,rfl,rfl,hd,q⟩:=h;obtain rfl:v=Value.ref d:=rx;obtain rfl:us=[]:=Vals.zero rv;obtain⟨z,lo,ws,rel,dd⟩:=ZS I.hok hd;refine call_meetsIn PySem.F.slot_dict_items dd.typeIs PySem.F.entry_dict_items (PySem.F.args_dict_items_1 _) (meets_dict_items (Qg X.prog X.w) d lo) ⟨⟨ws,dd⟩,?_⟩;refine⟨.ref s.heap.objs.size,upd H s.heap.objs.size (K4 s.heap.objs.size d),I.laid (t':=s.toks) (λb o e=>Zq _ e) (Zf _) ?_,rfl,q _ (I.hok.fresh (Zf _))⟩;exact⟨⟨_,Zr _ rfl,rfl,rfl⟩,⟨_,Zr _ rfl⟩,λh1 h2 z kk=>by
  obtain⟨o,e,r⟩:=z;exact⟨o,kk o e,r⟩⟩
def N5 (hc:X.calm=true):za1 X (.builtin "sorted") (λxs H Q=>∃vw d r,xs=[.ref vw]/\H vw=some (K4 vw d)/\H d=some (.dK (kvR r))/\r ≠ []/\r.length<64 /\
 ∀l L,(∀p∈L,H p.1=none)->(L.map (·.1)).Nodup->(∀G,Is (newH G L) (.list ((JO pltB r).map pD)) (.ref l))->Q (.ref l) (newH H L)):=by
 intro Y s Z H xs us Q I rv h;obtain⟨vw,d,r,rfl,hv,hd,hne,h64,q⟩:=h;obtain⟨u,rfl,ru⟩:=Q7 rv;obtain rfl:u=Value.ref vw:=ru;obtain⟨hview,_,_⟩:=(show zbj X.prog X.w H s.heap vw (K4 vw d) from I.hok vw _ hv);obtain⟨z,lo,ws,rel,od,es,ep,d1,d2,d3,d4,d5,d6⟩:=ZS I.hok hd;have lk:=rel.length;have lr:(kvR r).length=r.length:=Zql _;have hat:s.heap.DictAt (Qg X.prog X.w) d ws ep:=⟨od,es,d1,d2,d3,d4,d5,d6⟩;refine Fg (zbX.wk λi=>r.getD i (0,0)) (W.kdx_collect (knd:=Qg X.prog X.w) (I.ok.hd hc) hview hat (by rw[<- lk,lr];exact QL ()) λh1 tk as kp1 la G=>?_);have lv:(as.map Value.ref).length=r.length:=by rw[Zql];omega
 have pa:∀h',(∀b o,h1.get? b=some o->h'.get? b=some o)->W9 h' (as.map Value.ref) r:=λh' kp=>by
  refine⟨lv,λi p hp=>?_⟩;have hi:i<as.length:=by
   have:=(Jb.mp hp).1;omega
  obtain⟨key,k,x,g1,g2,g3⟩:=G.pairs i as[i] (Zqg hi);have kv:KV (kvR r) ws:=rel;have hk:(kvR r)[i]? = some (Uh p.1,V.int p.2):=by unfold kvR;rw[Zv,hp];rfl
  have both:∀{l1:List (Key×V)} {l2:List (Key×Value)} {i:Nat} {a:Key×V} {b:Key×Value},KV l1 l2->l1[i]? = some a->l2[i]? = some b->a.1=b.1/\RelV a.2 b.2:=by
   intro l1 l2 i a b hkv;unfold KV at hkv
   induction hkv generalizing i with
   |nil=>intro e;simp at e
   |cons hh tt ih =>
    cases i with
    |zero =>
     intro e1 e2;simp at e1 e2;subst e1 e2;exact hh
    |succ i =>
     intro e1 e2;exact ih (by simpa using e1) (by simpa using e2)
  obtain⟨b1,b2⟩:=both kv hk g1;have b1:(Uh p.1:Key)=k:=b1;subst b1;obtain⟨t1,rfl⟩:=(show ∃t,x=Value.int p.2 t from b2);obtain⟨t0,rfl⟩:∃t,key=Value.int p.1 t:=by
   rcases Kv (show K3 (Uh p.1) key=true from g2) with ⟨i0,t,e1,e2⟩|⟨x0,t,e1,e2⟩
   .cases e1;exact⟨t,e2⟩
   .cases e1
  exact⟨as[i],_,_,t0,t1,by rw[Zv,Zqg hi];rfl,kp _ _ g3,rfl,rfl⟩
 refine⟨(),λh' kp h2=>N1 (pa h' kp) h2,λjx h' l p u kp hl gl=>?_⟩;obtain⟨e,gl⟩:=gl;rw[lv] at p u;have kk:∀b o,s.heap.get? b=some o->h'.get? b=some o:=λb o e=>kp b o (kp1 b o e);have asl:∀a∈as,s.heap.objs.size<a:=G.above;have ash:∀a∈as,a<l:=λa ha=>Zg (G.there ha) hl;have szl:s.heap.objs.size<=l:=by
  cases as with
  |nil=>exact Zn (Jf.mp (by rw[<- lv];rfl)) hne
  |cons a as'=>exact Zz (UL (asl a Zqs) (ash a Zqs))
 obtain⟨L,hL⟩:∃L:List (Addr×HO),L=(l,.lst (jx.toList.map λi=>V.ref (as.getD i 0)))::(as.zip r).map λz=>(z.1,HO.tup [.int z.2.1,.int z.2.2]):=⟨_,rfl⟩;have keysL:L.map (·.1)=l::as:=by
  rw[hL,Zl,Zw];show l::(as.zip r).map (λz=>z.1)=_;rw[List.map_fst_zip ()]
 have nd:(L.map (·.1)).Nodup:=by
  rw[keysL];refine Jh.mpr ⟨λm=>Zy _ (ash l m),?_⟩;exact G.rise.imp λhlt=>Zi hlt
 have inL:∀p∈L,s.heap.objs.size<=p.1:=λp hp=>by
  have:p.1∈L.map (·.1):=Ja.mpr ⟨p,hp,rfl⟩;rw[keysL] at this;rcases UB.mp this with z|z
  .rw[z];exact szl
  .exact Zz (asl _ z)
 have tupAt:∀(G:Hp) (i:Nat) p,r[i]? = some p->newH G L (as.getD i 0)=some (.tup [.int p.1,.int p.2]):=λG i p hp=>by
  have hi:i<as.length:=by
   have:=(Jb.mp hp).1;omega
  refine Fs nd ?_;rw[hL];refine Zqm _ (Ja.mpr ⟨(as[i],p),?_,by rw[Qe (Zqg hi)]⟩);refine Ud (i:=i) ?_;rw[VJ];exact⟨Zqg hi,hp⟩
 refine⟨.ref l,newH H L,I.laidMany (t':=tk) kk inL λy hy=>?_,rfl,q l L (λp hp=>I.hok.fresh (inL p hp)) nd λG'=>?_⟩
 .rw[hL] at hy;rcases UB.mp hy with z'|z'
  .rw[z'];refine⟨?_,jx.toList.map (nthV (as.map Value.ref)),e,?_,?_⟩
   .rw[Zql,p.len];exact QL ()
   .refine WX λi hi=>?_;have hn:=p.mem hi;have hi':i<as.length:=()
    unfold nthV;rw[Qe (Zqg hi'),Qe (x:=Value.ref as[i]) (by rw[Zv,Zqg hi'];rfl)];rfl
   .rw[gl]
    congr 3
    apply Array.ext';simp
  .obtain⟨⟨a,p'⟩,hm,rfl⟩:=Ja.mp z';obtain⟨i,hi⟩:=List.mem_iff_getElem?.mp hm;rw[VJ] at hi;obtain⟨i1,i2⟩:=hi;obtain⟨a',o',n',t',u',f1,f2,f3,f4⟩:=(pa h' kp).2 i p' i2;rw[Zv,i1] at f1;cases f1;obtain⟨key,k,x,g1,g2,g3⟩:=G.pairs i a i1;have g3':=kp _ _ g3;rw[g3'] at f2;obtain rfl:=Zqi f2;exact⟨⟨(by show 2<=sizeLine;decide),_,g3',rfl⟩,[.int p'.1 t',.int p'.2 u'],.cons ⟨t',rfl⟩ (.cons ⟨u',rfl⟩ .nil),_,g3',rfl,n',f4⟩
 .rw[Is.list_iff];refine⟨l,_,rfl,Fs nd (by rw[hL];exact Zqs),?_⟩;rw[<- BN zbX p u,Zw];refine Fu λi hi=>?_;have hn:=p.mem hi;refine zgi.mpr ⟨as.getD i 0,rfl,?_⟩;have:=tupAt G' i (r.getD i (0,0)) (by rw[Qe (Zqg hn)];exact Zqg hn);exact this
end
def putR (r:Jx)(t w:Int):Jx:=if(r.any λp=>decide (p.1=t))=true then r.map (λp=>if p.1=t then(p.1,w) else p) else r++[(t,w)]
def Fw:decide ((Uh a:Key)=Uh b)=decide (a=b):=by
 by_cases h:a=b
 .rw[h,Zp rfl,Zp rfl]
 .rw[Zo h,Zo (λz=>h (by injection z))]
def N6 (r:Jx)(t w:Int):putK (kvR r) (Uh t) (V.int w)=kvR (putR r t w):=by
 have e:((kvR r).any λkv=>decide (kv.1=Uh t))=r.any λp=>decide (p.1=t):=by
  unfold kvR;rw[Vp]
  congr 1
  funext p
  exact Fw
 unfold putK putR;rw[e]
 split
 .unfold kvR;rw[Zw,Zw];apply Vq;intro p _;by_cases c:p.1=t
  .simp[c]
  .have c':¬(Uh p.1:Key)=Uh t:=λz=>c (by injection z);simp[c]
 .unfold kvR;rw[Ug];rfl
def WY (p:Int×Int)(r:Jx)(t:Int):JA (p::r) t=match JA r t with|some w=>some w|none=>if p.1=t then some p.2 else none:=rfl
def N7 (r:Jx)(t w j:Int):JA (r.map λp=>if p.1=t then(p.1,w) else p) j=(JA r j).map λx=>if j=t then w else x:=by
 induction r with
 |nil=>rfl
 |cons p r ih =>
  rw[Zl,WY,WY,ih];cases q:JA r j with
  |some x=>rfl
  |none =>
   dsimp only[Option.map];by_cases c:p.1=t
   .rw[Zd c];by_cases d:p.1=j
    .rw[Zd d,Zd d];show some w=some (if j=t then w else p.2);rw[Zd (d.symm.trans c)]
    .rw[Ze d,Ze d]
   .rw[Ze c];by_cases d:p.1=j
    .rw[Zd d];show some p.2=some (if j=t then w else p.2);rw[Ze (λz=>c (d.trans z))]
    .rw[Ze d]
def N8 (r:Jx)(t:Int):(r.any λp=>decide (p.1=t))=(JA r t).isSome:=by
 cases q:JA r t with
 |none =>
  rw[Option.isSome_none,Vl];rintro⟨a,b⟩ hm;by_cases e:a=t
  .subst e;exact Zn hm (EV q b)
  .simp[e]
 |some w =>
  rw[Option.isSome_some,VP];exact⟨_,V3 q,by simp⟩
def N9 (r:Jx)(t w j:Int):JA (putR r t w) j=if j=t then some w else JA r j:=by
 unfold putR;rw[N8];by_cases a:(JA r t).isSome=true
 .rw[Zd a,N7];by_cases e:j=t
  .rw[Zd e,e];obtain⟨x,hx⟩:=Jo.mp a;rw[hx];simp
  .rw[Ze e];cases JA r j with
   |none=>rfl
   |some x=>simp[e]
 .rw[Ze a,Nu];have n:JA r t=none:=by
   cases q:JA r t with
   |none=>rfl
   |some x=>rw[q] at a;exact Zn rfl a
  rw[WY];show(match (if t=j then some w else none) with|some w=>some w|none=>JA r j)=_;by_cases e:j=t
  .rw[Zd e,Zd e.symm]
  .rw[Ze e,Ze (λz=>e z.symm)]
def NA (r:Jx)(t w:Int):(putR r t w).map (·.1)=if(r.any λp=>decide (p.1=t))=true then r.map (·.1) else r.map (·.1)++[t]:=by
 unfold putR
 split
 .rw[Zw];apply Vq;intro p _;by_cases c:p.1=t
  .simp[c]
  .simp[c]
 .rw[Ug];rfl
def NB (h:Once r):Once (putR r t w):=by
 unfold Once;rw[NA]
 split
 .exact h
 .rename_i c;unfold Once at h;rw[Vo];refine⟨h,by simp,λa ha b hb=>?_⟩;simp at hb;subst hb;rintro rfl;obtain⟨p,hp,e⟩:=Ja.mp ha;exact c (VP.mpr ⟨p,hp,by simp[e]⟩)
def NC (r:Jx)(t w:Int):(putR r t w).length<=r.length+1:=by
 unfold putR
 split
 .rw[Zql];omega
 .rw[Ub];exact Zf _
theorem Fx:∀(r acc:Jx),W7 (kvR acc) (kvR r)=kvR (r.foldl (λa p=>putR a p.1 p.2) acc)
 | [],acc=>rfl
 |p::r,acc=>by
  have e:W7 (kvR acc) (kvR (p::r))=W7 (putK (kvR acc) (Uh p.1) (V.int p.2)) (kvR r):=rfl;rw[e,N6,Fx r];rfl
theorem Fy:∀(r acc:Jx),Once (acc++r)->r.foldl (λa p=>putR a p.1 p.2) acc=acc++r
 | [],acc,_=>by simp
 |p::r,acc,h=>by
  have hn:(acc.any λq=>decide (q.1=p.1))=false:=by
   rw[Vl];intro q hq;simp;intro e;unfold Once at h;rw[Ug,Vo] at h;exact h.2.2 q.1 (Ja.mpr ⟨q,hq,rfl⟩) p.1 (by simp) e
  have e:putR acc p.1 p.2=acc++[p]:=by
   unfold putR;rw[hn];simp
  rw[UE,e,Fy r (acc++[p]) (by rw[UC];exact h),UC];rfl
def jw:Option Int->Option Int->Option Int
 |none,b=>b
 |some x,none=>some x
 |some x,some y=>some (if x > y then x else y)
def V5 (acc:Jx)(p:Int×Int):Jx:=putR acc p.1 (if(JA acc p.1).getD p.2 > p.2 then(JA acc p.1).getD p.2 else p.2)
def Qp (r o:Jx):Jx:=o.foldl V5 r
def ND (acc:Jx)(p:Int×Int)(t:Int):JA (V5 acc p) t=if t=p.1 then jw (JA acc t) (some p.2) else JA acc t:=by
 unfold V5;rw[N9];by_cases e:t=p.1
 .rw[Zd e,Zd e,e];cases JA acc p.1 with
  |none=>simp[jw]
  |some x=>simp[jw]
 .rw[Ze e,Ze e]
theorem Fz (t:Int):∀(o r:Jx),Once o->JA (Qp r o) t=jw (JA r t) (JA o t)
 | [],r,_=>by
  show JA r t=jw (JA r t) none;cases JA r t<;>rfl
 |p::o,r,h=>by
  obtain⟨h1,h2⟩:=Jh.mp (show(p.1::o.map (·.1)).Nodup from h);have e:Qp r (p::o)=Qp (V5 r p) o:=rfl;rw[e,Fz t o _ h2,ND,WY];by_cases c:t=p.1
  .have n:JA o t=none:=by
    cases q:JA o t with
    |none=>rfl
    |some w=>exact Zn (Ja.mpr ⟨_,V3 q,c⟩) h1
   rw[Zd c,n];dsimp only;rw[Zd c.symm];cases jw (JA r t) (some p.2)<;>rfl
  .rw[Ze c];cases JA o t with
   |some w=>rfl
   |none =>
    dsimp only;rw[Ze (λz=>c z.symm)]
theorem F6:∀(o r:Jx),Once r->Once (Qp r o)
 | [],r,h=>h
 |p::o,r,h=>F6 o _ (NB h)
theorem BP:∀(o r:Jx),(Qp r o).length<=r.length+o.length
 | [],r=>Zf _
 |p::o,r=>by
  have a:=BP o (V5 r p);have b:(V5 r p).length<=r.length+1:=NC _ _ _;show(Qp (V5 r p) o).length<=_;rw[Zu];omega
def NE (h:r ≠ [])(wo:Once o):Qp r o ≠ []:=by
 intro z;cases r with
 |nil=>exact h rfl
 |cons p r =>
  have q:=Fz p.1 o (p::r) wo;rw[z] at q;have:∃x,JA (p::r) p.1=some x:=by
   rw[WY];cases JA r p.1 with
   |some x=>exact⟨x,rfl⟩
   |none=>exact⟨p.2,Zd rfl⟩
  obtain⟨x,hx⟩:=this;rw[hx] at q;cases hq:JA o p.1 with
  |none=>rw[hq] at q;exact J3 q
  |some y=>rw[hq] at q;exact J3 q
theorem Ab {α: Type}{ltb:α -> α -> Bool}(T:Tot ltb):∀{a b:List α},a.Pairwise (λx y=>ltb x y=true)->b.Pairwise (λx y=>ltb x y=true)->(∀x,x∈a↔x∈b)->a=b
 | [],[],_,_,_=>rfl
 | [],y::b,_,_,h=>by
  have z:y∈([]:List α):=(h y).mpr Zqs;cases z
 |x::a,[],_,_,h=>by
  have z:x∈([]:List α):=(h x).mp Zqs;cases z
 |x::a,y::b,ha,hb,h=>by
  obtain⟨a1,a2⟩:=Jj.mp ha;obtain⟨b1,b2⟩:=Jj.mp hb;have e:x=y:=by
   rcases UB.mp ((h x).mp Zqs) with z|z
   .exact z
   .rcases UB.mp ((h y).mpr Zqs) with u|u
    .exact u.symm
    .have:=T.asy _ _ (b1 x z);rw[a1 y u] at this;cases this
  subst e
  congr 1
  refine Ab T a2 b2 λz=>⟨λhz=>?_,λhz=>?_⟩
  .rcases UB.mp ((h z).mp (Zqm _ hz)) with u|u
   .rw[u] at hz;have:=a1 x hz;rw[T.irr] at this;exact JB this
   .exact u
  .rcases UB.mp ((h z).mpr (Zqm _ hz)) with u|u
   .rw[u] at hz;have:=b1 x hz;rw[T.irr] at this;exact JB this
   .exact u
theorem BQ {α β: Type}(f:α -> β):∀{l:List α},(l.map f).Nodup->l.Nodup
 | [],_=>Vh
 |x::r,h=>by
  rw[Zl,List.nodup_cons] at h;exact Jh.mpr ⟨λm=>h.1 (List.mem_map_of_mem m),BQ f h.2⟩
end L2
namespace L2.DL
def NF {c:Prop}{_:Decidable c}{α: Type}{a z:α}(h:(if c then some a else none)=some z):c/\a=z:=by
 by_cases q:c
 .rw[Zd q] at h;exact⟨q,Zqi h⟩
 .rw[Ze q] at h;exact J3 h
inductive D where
 |non|bl (b:Bool)|int (i:Int)|str (x:Str)|ty (n:String)|scr (ns:Ye)
 |tup (ds:List D)|lst (ds:List D)|dct (ks:List Key) (ds:List D)|ins (c:Str) (fs:Yh) (ds:List D)
 |exc (c:Str)|ucl (c:Str)
 |adr (a:Addr)|dcf (ks:List Key) (ds:List D)
 |pin (a:Addr) (d:D)
abbrev _root_.Yy:=List D
abbrev _root_.Yz:=Option D
inductive Res (α: Type) where
 |ok (a:α)|ex (c:Str) (fs:Yy)|no
def Res.bind {α β: Type}(r:Res α)(g:α -> Res β):Res β:= match r with
 | .ok a=>g a
 | .ex c fs=>.ex c fs
 | .no=>.no
def Res.need {α: Type}(r:Res α)(p:α -> Prop)(q:Str->Yy->Prop):Prop:=match r with
 | .ok a=>p a
 | .ex c fs=>q c fs
 | .no=>False
@[simp]def Res.bind_ok {α β: Type}(a:α)(g:α -> Res β):(Res.ok a).bind g=g a:=rfl
@[simp]def Res.bind_ex {α β: Type}(c:Str)(fs:Yy)(g:α -> Res β):(Res.ex c fs:Res α).bind g=.ex c fs:=rfl
@[simp]def Res.bind_no {α β: Type}(g:α -> Res β):(Res.no:Res α).bind g=.no:=rfl
def Res.need_bind {α β: Type}{r:Res α}{g:α -> Res β}{p:β -> Prop}(h:(r.bind g).need p q):r.need (λa=>(g a).need p q) q:=by
 cases r<;>exact h
def Res.need.mono {α: Type}{r:Res α}{p p': α -> Prop}(h:r.need p q)(hp:∀a,p a->p' a)(hq:∀c fs,q c fs->q' c fs):r.need p' q':=by
 cases r with
 |ok a=>exact hp a h
 |ex c fs=>exact hq c fs h
 |no=>exact h
def Res.need.monoE {α: Type}{r:Res α}{p p': α -> Prop}(h:r.need p q)(hp:∀a,r=.ok a->p a->p' a)(hq:∀c fs,q c fs->q' c fs):r.need p' q':=by
 cases r with
 |ok a=>exact hp a rfl h
 |ex c fs=>exact hq c fs h
 |no=>exact h
def ExcO (C x:Addr):HO:=.ext λh=>∃o,h.get? x=some o/\o.cls=.ref C
def TupD (_:W.Frag)(H:Hp)(a:Addr)(xs:Yw):Prop:=H a=some (.tup xs)
def TupD.same {K:W.Frag}{H H':Hp}{a:Addr}{xs:Yw}(e:Same H H')(h:TupD K H a xs):TupD K H' a xs:=e _ _ h
def TupD.of {K:W.Frag}{H:Hp}{a:Addr}{xs:Yw}(h:H a=some (.tup xs)):TupD K H a xs:=h
def TupD.sq {K:W.Frag}{H:Hp}{a:Addr}{xs:Yw}(h:TupD K H a xs):SqT K H a xs:=SqT.of h
def LstD (_:W.Frag)(H:Hp)(a:Addr)(xs:Yw):Prop:=Rd H a (.lst xs)
def LstD.same {K:W.Frag}{H H':Hp}{a:Addr}{xs:Yw}(e:Same H H')(h:LstD K H a xs):LstD K H' a xs:=h.imp (λq=>e _ _ q) λ⟨o,q⟩=>⟨o,e _ _ q⟩
def LstD.of {K:W.Frag}{H:Hp}{a:Addr}{xs:Yw}(h:H a=some (.lst xs)):LstD K H a xs:=.inl h
def LstD.sq {K:W.Frag}{H:Hp}{a:Addr}{xs:Yw}(h:LstD K H a xs):SqL K H a xs:=.inl h
section
variable (K:W.Frag)
mutual
def IsD (H:Hp):D->V->Prop
 | .non,v=>v=.non
 | .bl b,v=>v=.bl b
 | .int i,v=>v=.int i
 | .str x,v=>v=.str x
 | .ty n,v=>v=.ty n
 | .scr ns,v=>∃a,v=.ref a/\SqL K H a (ns.map V.int)
 | .tup ds,v=>∃a xs,v=.ref a/\TupD K H a xs/\IsDs H ds xs
 | .lst ds,v=>∃a xs,v=.ref a/\LstD K H a xs/\IsDs H ds xs
 | .dct ks ds,v=>∃a xs,v=.ref a/\H a=some (.dK (ks.zip xs))/\ks.length=xs.length/\IsDs H ds xs
 | .ins c fs ds,v=>∃a C dx xs,v=.ref a/\W.nsIn K mainGlobals c=some (some (.ref C))/\H a=some (.ins C dx (fs.zip xs))/\fs.length=xs.length/\IsDs H ds xs
 | .exc c,v=>∃a C,v=.ref a/\W.nsIn K mainGlobals c=some (some (.ref C))/\H a=some (ExcO C a)
 | .ucl c,v=>∃C,v=.ref C/\W.nsIn K mainGlobals c=some (some (.ref C))
 | .adr a,v=>v=.ref a
 | .dcf ks ds,v=>∃a o xs,v=.ref a/\H a=some (.frz o (.dK (ks.zip xs)))/\ks.length=xs.length/\IsDs H ds xs
 | .pin a d,v=>v=.ref a/\IsD H d v
def IsDs (H:Hp):Yy->Yw->Prop
 | [],xs=>xs=[]
 |d::ds,xs=>∃x r,xs=x::r/\IsD H d x/\IsDs H ds r
end
end
section
variable {K:W.Frag}{H H':Hp}
def IsD.non_iff:IsD K H .non v↔v=.non:=.rfl
def IsD.bl_iff:IsD K H (.bl b) v↔v=.bl b:=.rfl
def IsD.int_iff:IsD K H (.int i) v↔v=.int i:=.rfl
def IsD.str_iff:IsD K H (.str x) v↔v=.str x:=.rfl
def IsD.ty_iff:IsD K H (.ty n) v↔v=.ty n:=.rfl
def IsD.scr_iff:IsD K H (.scr ns) v↔∃a,v=.ref a/\SqL K H a (ns.map V.int):=.rfl
def IsD.tup_iff:IsD K H (.tup ds) v↔∃a xs,v=.ref a/\TupD K H a xs/\IsDs K H ds xs:=.rfl
def IsD.lst_iff:IsD K H (.lst ds) v↔∃a xs,v=.ref a/\LstD K H a xs/\IsDs K H ds xs:=.rfl
def IsD.dct_iff:IsD K H (.dct ks ds) v↔∃a xs,v=.ref a/\H a=some (.dK (ks.zip xs))/\ks.length=xs.length/\IsDs K H ds xs:=.rfl
def IsD.ins_iff:IsD K H (.ins c fs ds) v↔∃a C dx xs,v=.ref a/\W.nsIn K mainGlobals c=some (some (.ref C))/\H a=some (.ins C dx (fs.zip xs))/\fs.length=xs.length/\IsDs K H ds xs:=.rfl
def IsD.exc_iff:IsD K H (.exc c) v↔∃a C,v=.ref a/\W.nsIn K mainGlobals c=some (some (.ref C))/\H a=some (ExcO C a):=.rfl
def IsD.ucl_iff:IsD K H (.ucl c) v↔∃C,v=.ref C/\W.nsIn K mainGlobals c=some (some (.ref C)):=.rfl
def IsD.adr_iff:IsD K H (.adr a) v↔v=.ref a:=.rfl
def IsD.dcf_iff:IsD K H (.dcf ks ds) v↔∃a o xs,v=.ref a/\H a=some (.frz o (.dK (ks.zip xs)))/\ks.length=xs.length/\IsDs K H ds xs:=.rfl
def IsD.pin_iff:IsD K H (.pin a d) v↔v=.ref a/\IsD K H d v:=.rfl
def IsDs.nil_iff:IsDs K H [] xs↔xs=[]:=.rfl
def IsDs.cons_iff:IsDs K H (d::ds) xs↔∃x r,xs=x::r/\IsD K H d x/\IsDs K H ds r:=.rfl
mutual
theorem IsD.same (e:Same H H'):∀(d:D) (v:V),IsD K H d v->IsD K H' d v
 | .non,_,h=>h
 | .bl _,_,h=>h
 | .int _,_,h=>h
 | .str _,_,h=>h
 | .ty _,_,h=>h
 | .scr _,_,h=>by
  obtain⟨a,h1,h2⟩:=IsD.scr_iff.mp h;exact IsD.scr_iff.mpr ⟨a,h1,Same.seq e h2⟩
 | .tup ds,_,h=>by
  obtain⟨a,xs,h1,h2,h3⟩:=IsD.tup_iff.mp h;exact IsD.tup_iff.mpr ⟨a,xs,h1,h2.same e,IsDs.same e ds xs h3⟩
 | .lst ds,_,h=>by
  obtain⟨a,xs,h1,h2,h3⟩:=IsD.lst_iff.mp h;exact IsD.lst_iff.mpr ⟨a,xs,h1,h2.same e,IsDs.same e ds xs h3⟩
 | .dct ks ds,_,h=>by
  obtain⟨a,xs,h1,h2,h4,h3⟩:=IsD.dct_iff.mp h;exact IsD.dct_iff.mpr ⟨a,xs,h1,e _ _ h2,h4,IsDs.same e ds xs h3⟩
 | .ins c fs ds,_,h=>by
  obtain⟨a,C,dx,xs,h1,h5,h2,h4,h3⟩:=IsD.ins_iff.mp h;exact IsD.ins_iff.mpr ⟨a,C,dx,xs,h1,h5,e _ _ h2,h4,IsDs.same e ds xs h3⟩
 | .exc _,_,h=>by
  obtain⟨a,C,h1,h2,h3⟩:=IsD.exc_iff.mp h;exact IsD.exc_iff.mpr ⟨a,C,h1,h2,e _ _ h3⟩
 | .ucl _,_,h=>h
 | .adr _,_,h=>h
 | .dcf ks ds,_,h=>by
  obtain⟨a,o,xs,h1,h2,h4,h3⟩:=IsD.dcf_iff.mp h;exact IsD.dcf_iff.mpr ⟨a,o,xs,h1,e _ _ h2,h4,IsDs.same e ds xs h3⟩
 | .pin a d,v,h=>IsD.pin_iff.mpr ⟨(IsD.pin_iff.mp h).1,IsD.same e d v (IsD.pin_iff.mp h).2⟩
theorem IsDs.same (e:Same H H'):∀(ds:Yy) (xs:Yw),IsDs K H ds xs->IsDs K H' ds xs
 | [],_,h=>h
 |d::ds,_,h=>by
  obtain⟨x,r,h1,h2,h3⟩:=IsDs.cons_iff.mp h;exact IsDs.cons_iff.mpr ⟨x,r,h1,IsD.same e d x h2,IsDs.same e ds r h3⟩
end
def IsDs.mk (h:IsD K H d x)(r:IsDs K H ds xs):IsDs K H (d::ds) (x::xs):=IsDs.cons_iff.mpr ⟨x,xs,rfl,h,r⟩
def IsDs.nil:IsDs K H [] []:=IsDs.nil_iff.mpr rfl
theorem IsDs.length:∀{ds:Yy} {xs:Yw},IsDs K H ds xs->xs.length=ds.length
 | [],xs,h=>by rw[IsDs.nil_iff] at h;subst h;rfl
 |d::ds,xs,h=>by
  rw[IsDs.cons_iff] at h;obtain⟨x,r,rfl,_,h3⟩:=h;rw[Zu,Zu,IsDs.length h3]
theorem IsDs.get:∀{ds:Yy} {xs:Yw} {i:Nat} {d:D},IsDs K H ds xs->ds[i]? = some d->∃x,xs[i]? = some x/\IsD K H d x
 | [],_,_,_,_,e=>by exact J3 e
 |d::ds,xs,i,e,h,q=>by
  rw[IsDs.cons_iff] at h;obtain⟨x,r,rfl,h2,h3⟩:=h;cases i with
  |zero=>cases q;exact⟨x,rfl,h2⟩
  |succ i=>exact IsDs.get (i:=i) h3 q
def IsDs.getV {ds:Yy}{xs:Yw}{i:Nat}{x:V}(h:IsDs K H ds xs)(q:xs[i]? = some x):∃d,ds[i]? = some d/\IsD K H d x:=by
 have hl:=h.length;have hi:i<ds.length:=by rw[<- hl];exact(Jb.mp q).1
 obtain⟨y,h1,h2⟩:=h.get (Zqg hi);rw[q] at h1;obtain rfl:=Zqi h1;exact⟨_,Zqg hi,h2⟩
theorem IsDs.append:∀{ds es:Yy} {xs ys:Yw},IsDs K H ds xs->IsDs K H es ys->IsDs K H (ds++es) (xs++ys)
 | [],_,xs,_,h,h'=>by rw[IsDs.nil_iff] at h;subst h;exact h'
 |d::ds,_,xs,_,h,h'=>by
  rw[IsDs.cons_iff] at h;obtain⟨x,r,rfl,h2,h3⟩:=h;exact IsDs.mk h2 (IsDs.append h3 h')
def IsDs.snoc (h:IsDs K H ds xs)(h':IsD K H d x):IsDs K H (ds++[d]) (xs++[x]):=h.append (.mk h' .nil)
theorem IsDs.set:∀(n:Nat) {ds:Yy} {xs:Yw} {d:D} {x:V},IsDs K H ds xs->IsD K H d x->IsDs K H (ds.set n d) (xs.set n x)
 |_,[],xs,_,_,h,_=>by rw[IsDs.nil_iff] at h;subst h;exact .nil
 | 0,d::ds,xs,_,_,h,q=>by
  rw[IsDs.cons_iff] at h;obtain⟨x,r,rfl,h2,h3⟩:=h;exact IsDs.mk q h3
 |n+1,d::ds,xs,_,_,h,q=>by
  rw[IsDs.cons_iff] at h;obtain⟨x,r,rfl,h2,h3⟩:=h;exact IsDs.mk h2 (IsDs.set n h3 q)
theorem IsDs.ints:∀(ns:Ye),IsDs K H (ns.map D.int) (ns.map V.int)
 | []=>.nil
 |n::ns=>.mk (IsD.int_iff.mpr rfl) (IsDs.ints ns)
theorem IsDs.ints_iff:∀{ns:Ye} {xs:Yw},IsDs K H (ns.map D.int) xs->xs=ns.map V.int
 | [],_,h=>IsDs.nil_iff.mp h
 |n::ns,xs,h=>by
  rw[Zl,IsDs.cons_iff] at h;obtain⟨x,r,rfl,h2,h3⟩:=h;rw[IsD.int_iff] at h2;rw[h2,IsDs.ints_iff h3];rfl
end
structure Ext (F H F' H':Hp):Prop where
 ff:Same F F'
 fh:Same F' H'
 hh:Same H H'
 new:∀a,F a=none->H a≠none->F' a=none
theorem Ext.refl (h:Same F H):Ext F H F H:=⟨.refl _,h,.refl _,λ_ e _=>e⟩
theorem Ext.trans (a:Ext F H F1 H1)(b:Ext F1 H1 F2 H2):Ext F H F2 H2:=
 ⟨a.ff.trans b.ff,b.fh,a.hh.trans b.hh,λx e n=>b.new x (a.new x e n) (by
  cases q:H x with
  |none=>exact Zn q n
  |some o=>rw[a.hh _ _ q];simp)⟩
def Qv (h:Same F H)(hp:H p=none):F p=none:=h.free hp
def Ext.alloc (h:Same F H)(hp:H p=none)(o:HO):Ext F H (upd F p o) (upd H p o):=
 ⟨Kh (h.free hp) o,λb u e=>by
  by_cases q:b=p
  .subst q;rw[JL] at e ⊢;exact e
  .rw[JC q] at e ⊢;exact h _ _ e,Kh hp o,λa e n=>by
  have q:a≠p:=λz=>n (by rw[z];exact hp);rw[JC q];exact e⟩
def Ext.keep (h:Same F H)(hp:H p=none)(o:HO):Ext F H F (upd H p o):=
 ⟨.refl _,h.trans (Kh hp o),Kh hp o,λ_ e _=>e⟩
def Ext.grow (h:Same F H)(hh:Same H H'):Ext F H F H':=⟨.refl _,h.trans hh,hh,λ_ e _=>e⟩
inductive SV where
 |val (d:D)|own (p:Bool) (d:D)
structure Bs where
 F0:Hp
 H0:Hp
 pa:Nat->Option (Addr×Yw)
abbrev SD:=List (Option SV)
def zeS (K:W.Frag)(F H:Hp)(l:Addr):D->Prop
 | .lst ds=>∃xs,H l=some (.lst xs)/\IsDs K F ds xs
 | .dct ks ds=>∃xs,H l=some (.dK (ks.zip xs))/\ks.length=xs.length/\IsDs K F ds xs
 | .ins c fs ds=>∃C dx xs,W.nsIn K mainGlobals c=some (some (.ref C))/\H l=some (.ins C dx (fs.zip xs))/\fs.length=xs.length/\IsDs K F ds xs
 |_=>False
def zeS.has {K:W.Frag}{F H:Hp}{l:Addr}{d:D}(h:zeS K F H l d):∃o,H l=some o:=by
 cases d with
 |lst ds=>obtain⟨xs,e,_⟩:=h;exact⟨_,e⟩
 |dct ks ds=>obtain⟨xs,e,_⟩:=h;exact⟨_,e⟩
 |ins c fs ds=>obtain⟨C,dx,xs,_,e,_⟩:=h;exact⟨_,e⟩
 |_=>exact False.elim h
def zeS.ext {K:W.Frag}{F H F' H':Hp}{l:Addr}{d:D}(h:zeS K F H l d)(ff:Same F F')(hh:∀o,H l=some o->H' l=some o):zeS K F' H' l d:=by
 cases d with
 |lst ds=>obtain⟨xs,e,q⟩:=h;exact⟨xs,hh _ e,IsDs.same ff _ _ q⟩
 |dct ks ds=>obtain⟨xs,e,z,q⟩:=h;exact⟨xs,hh _ e,z,IsDs.same ff _ _ q⟩
 |ins c fs ds=>obtain⟨C,dx,xs,k,e,z,q⟩:=h;exact⟨C,dx,xs,k,hh _ e,z,IsDs.same ff _ _ q⟩
 |_=>exact False.elim h
def zeS.frz {K:W.Frag}{F H:Hp}{l:Addr}{d:D}{o:HO}(h:zeS K F H l d)(e:H l=Option.some o)(n:F l=none):IsD K (upd F l o) d (.ref l):=by
 cases d with
 |lst ds =>
  obtain⟨xs,e',q⟩:=h;rw[e] at e';obtain rfl:=Zqi e';exact IsD.lst_iff.mpr ⟨l,xs,rfl,.of JL,IsDs.same (Kh n _) _ _ q⟩
 |dct ks ds =>
  obtain⟨xs,e',z,q⟩:=h;rw[e] at e';obtain rfl:=Zqi e';exact IsD.dct_iff.mpr ⟨l,xs,rfl,JL,z,IsDs.same (Kh n _) _ _ q⟩
 |ins c fs ds =>
  obtain⟨C,dx,xs,k,e',z,q⟩:=h;rw[e] at e';obtain rfl:=Zqi e';exact IsD.ins_iff.mpr ⟨l,C,dx,xs,rfl,k,JL,z,IsDs.same (Kh n _) _ _ q⟩
 |_=>exact False.elim h
def zqa (H:Hp)(l:Addr)(o:Option (Addr×Yw)):Prop:=∃xs,o=some (l,xs)/\H l=some (.lst xs)
structure RS (K:W.Frag)(B:Bs)(F H:Hp)(sd:SD)(Z: St):Prop where
 ext:Ext B.F0 B.H0 F H
 len:Z.length=sd.length
 val:∀{i:Nat} {d:D},sd[i]? = some (some (.val d))->∃v,Z[i]? = some (some v)/\IsD K F d v
 own:∀{i:Nat} {p:Bool} {d:D},sd[i]? = some (some (.own p d))->∃l,Z[i]? = some (some (.ref l))/\B.H0 l=none/\F l=none/\zeS K F H l d/\(p=true->zqa H l (B.pa i))
 apart:∀{i j:Nat} {p q:Bool} {d e:D} {l:Addr},i≠j->sd[i]? = some (some (.own p d))->sd[j]? = some (some (.own q e)) -> Z[i]? = some (some (.ref l)) -> Z[j]? ≠ some (some (.ref l))
section
variable {K:W.Frag}{B:Bs}{F H F' H':Hp}{sd:SD}{Z: St}
def zqa.mono (h:zqa H l o)(k:∀u,H l=some u->H' l=some u):zqa H' l o:=let ⟨xs,h1,h2⟩:=h;⟨xs,h1,k _ h2⟩
def RS.step (r:RS K B F H sd Z)(e:Ext F H F' H'):RS K B F' H' sd Z where
 ext:=r.ext.trans e
 len:=r.len
 val:=λh=>let ⟨v,h1,h2⟩:=r.val h;⟨v,h1,IsD.same e.ff _ _ h2⟩
 own:=λh=>by
  obtain⟨l,h1,h2,h3,h4,h5⟩:=r.own h;obtain⟨o,ho⟩:=h4.has;exact⟨l,h1,h2,e.new l h3 (by rw[ho];simp),h4.ext e.ff λo q=>e.hh _ _ q,λp=>(h5 p).mono λu q=>e.hh _ _ q⟩
 apart:=r.apart
def Q0 {α: Type}{l:List α}{a:α}(h:i≠j):(l.set i a)[j]? = l[j]?:= Zx h
def QH {α: Type}{l:List α}{a b:α}(h:(l.set i a)[i]? = some b):b=a/\i<l.length:=by
 have hi:i<l.length:=by
  have:=(Jb.mp h).1
  rwa [UQ] at this
 rw[U0 hi] at h;exact⟨(Zqi h).symm,hi⟩
def RS.setVal (r:RS K B F H sd Z)(h:IsD K F d v):RS K B F H (sd.set i (some (.val d))) (Z.set i (some v)) where
 ext:=r.ext
 len:=by rw[UQ,UQ,r.len]
 val:=λ{j e} q=>by
  by_cases z:i=j
  .subst z;obtain⟨e1,hi⟩:=QH q;cases e1;exact⟨v,U0 (by rw[r.len];exact hi),h⟩
  .rw[Q0 z] at q ⊢;exact r.val q
 own:=λ{j p e} q=>by
  by_cases z:i=j
  .subst z;obtain⟨e1,_⟩:=QH q;cases e1
  .rw[Q0 z] at q ⊢;exact r.own q
 apart:=λ{j k p1 p2 d1 d2 l} n q1 q2 q3=>by
  have z1:i≠j:=λz=>by subst z;obtain⟨e1,_⟩:=QH q1;cases e1
  have z2:i≠k:=λz=>by subst z;obtain⟨e1,_⟩:=QH q2;cases e1
  rw[Q0 z1] at q1 q3;rw[Q0 z2] at q2 ⊢;exact r.apart n q1 q2 q3
def RS.setOwn (r:RS K B F H sd Z)(h0:B.H0 l=none)(hf:F l=none)(h:zeS K F H l d)(fr:∀(j:Nat) (p:Bool) (e:D),sd[j]? = some (some (SV.own p e)) -> Z[j]? ≠ some (some (.ref l))):
 RS K B F H (sd.set i (some (.own false d))) (Z.set i (some (.ref l))) where
 ext:=r.ext
 len:=by rw[UQ,UQ,r.len]
 val:=λ{j e} q=>by
  by_cases z:i=j
  .subst z;obtain⟨e1,_⟩:=QH q;cases e1
  .rw[Q0 z] at q ⊢;exact r.val q
 own:=λ{j p e} q=>by
  by_cases z:i=j
  .subst z;obtain⟨e1,hi⟩:=QH q;cases e1;exact⟨l,U0 (by rw[r.len];exact hi),h0,hf,h,λz=>by cases z⟩
  .rw[Q0 z] at q ⊢;exact r.own q
 apart:=λ{j k p1 p2 d1 d2 m} n q1 q2 q3=>by
  by_cases z1:i=j
  .subst z1;obtain⟨_,hi⟩:=QH q1;rw[Q0 n] at q2 ⊢;rw[U0 (by rw[r.len];exact hi)] at q3;cases q3;exact fr k p2 d2 q2
  .rw[Q0 z1] at q1 q3;by_cases z2:i=k
   .subst z2;obtain⟨_,hi⟩:=QH q2;rw[U0 (by rw[r.len];exact hi)];intro e;cases e;exact fr j p1 d1 q1 q3
   .rw[Q0 z2] at q2 ⊢;exact r.apart n q1 q2 q3
def RS.chg {i:Nat}{p:Bool}{d d':D}{l:Addr}{o:HO}(r:RS K B F H sd Z)(hi:sd[i]? = some (some (.own p d)))(hl:Z[i]? = some (some (.ref l)))(h:zeS K F (upd H l o) l d'):
 RS K B F (upd H l o) (sd.set i (some (.own false d'))) Z:= by
 obtain⟨l',e1,h0,hf,_,_⟩:=r.own hi;rw[hl] at e1;cases e1;have hil:i<sd.length:=(Jb.mp hi).1;refine⟨⟨r.ext.ff,EN o r.ext.fh hf,EN o r.ext.hh h0,r.ext.new⟩,by rw[UQ,r.len],λ{j e} q=>?_,λ{j p e} q=>?_,λ{j k p1 p2 d1 d2 m} n q1 q2 q3=>?_⟩
 .by_cases z:i=j
  .subst z;obtain⟨e1,_⟩:=QH q;cases e1
  .rw[Q0 z] at q;exact r.val q
 .by_cases z:i=j
  .subst z;obtain⟨e1,_⟩:=QH q;cases e1;exact⟨l,hl,h0,hf,h,λz=>by cases z⟩
  .rw[Q0 z] at q;obtain⟨m,m1,m2,m3,m4,m5⟩:=r.own q;have ne:m≠l:=λe=>r.apart z hi q hl (by rw[<- e];exact m1);exact⟨m,m1,m2,m3,m4.ext (.refl _) λu q'=>by rw[JC ne];exact q',λp=>(m5 p).mono λu q'=>by rw[JC ne];exact q'⟩
 .have g:∀{j:Nat} {p:Bool} {e:D},(sd.set i (some (.own false d')))[j]? = some (some (.own p e))->∃p' e',sd[j]? = some (some (.own p' e')):=λ{j p e} q=>by
   by_cases z:i=j
   .subst z;exact⟨_,d,hi⟩
   .rw[Q0 z] at q;exact⟨p,e,q⟩
  obtain⟨_,_,p1⟩:=g q1;obtain⟨_,_,p2⟩:=g q2;exact r.apart n p1 p2 q3
def RS.frz1 (r:RS K B F H sd Z)(hi:sd[i]? = some (some (.own p d))):∃F',Same F F'/\RS K B F' H (sd.set i (some (.val d))) Z:= by
 obtain⟨l,hl,h0,hf,ho,_⟩:=r.own hi;obtain⟨o,e⟩:=ho.has;have hil:i<sd.length:=(Jb.mp hi).1;have sF:Same F (upd F l o):=Kh hf o;refine⟨upd F l o,sF,⟨r.ext.ff.trans sF,λb u q=>?_,r.ext.hh,λa q1 q2=>?_⟩,by rw[UQ,r.len],λ{j x} q=>?_,λ{j p x} q=>?_,λ{j k p1 p2 d1 d2 m} n q1 q2 q3=>?_⟩
 .by_cases z:b=l
  .subst z;rw[JL] at q;cases q;exact e
  .rw[JC z] at q;exact r.ext.fh _ _ q
 .have z:a≠l:=λz=>q2 (by rw[z];exact h0);rw[JC z];exact r.ext.new a q1 q2
 .by_cases z:i=j
  .subst z;obtain⟨e1,_⟩:=QH q;cases e1;exact⟨_,hl,ho.frz e hf⟩
  .rw[Q0 z] at q;obtain⟨v,v1,v2⟩:=r.val q;exact⟨v,v1,IsD.same sF _ _ v2⟩
 .by_cases z:i=j
  .subst z;obtain⟨e1,_⟩:=QH q;cases e1
  .rw[Q0 z] at q;obtain⟨m,m1,m2,m3,m4,m5⟩:=r.own q;have ne:m≠l:=λe=>r.apart z hi q hl (by rw[<- e];exact m1);exact⟨m,m1,m2,by rw[JC ne];exact m3,m4.ext sF λu q'=>q',m5⟩
 .have z1:i≠j:=λz=>by subst z;obtain⟨e1,_⟩:=QH q1;cases e1
  have z2:i≠k:=λz=>by subst z;obtain⟨e1,_⟩:=QH q2;cases e1
  rw[Q0 z1] at q1;rw[Q0 z2] at q2;exact r.apart n q1 q2 q3
def frzD:Yg->SD->SD
 | [],sd=>sd
 |i::is,sd=>frzD is (match sd[i]? with
  |some (some (.own _ d))=>sd.set i (some (.val d))
  |_=>sd)
theorem RS.frz:∀(is:Yg) {F:Hp} {sd:SD},RS K B F H sd Z -> ∃F',Same F F'/\RS K B F' H (frzD is sd) Z
 | [],F,sd,r=>⟨F,.refl _,r⟩
 |i::is,F,sd,r=>by
  unfold frzD
  split
  .rename_i p d h;obtain⟨F1,s1,r1⟩:=r.frz1 h;obtain⟨F2,s2,r2⟩:=RS.frz is r1;exact⟨F2,s1.trans s2,r2⟩
  .exact RS.frz is r
end
def ExcIs (K:W.Frag)(F H:Hp)(c:Str)(fs:Yy)(cv:Value)(a:Option Addr):Prop:=
 ∃C,cv=.ref C/\W.nsIn K mainGlobals c=some (some (.ref C))/\(fs=[]\/∃p n d x,fs=[d]/\a=some p/\H p=some (.xd [(n,x)])/\IsD K F d x)
def XW (K:W.Frag)(E:XK)(F H:Hp)(c:Str)(fs:Yy):Prop:=∀cv a F' H',Ext F H F' H'->ExcIs K F' H' c fs cv a->E cv a H'
def XW.ext {K:W.Frag}{E:XK}{F H F' H':Hp}{c:Str}{fs:Yy}(h:XW K E F H c fs)(e:Ext F H F' H'):XW K E F' H' c fs:=λcv a F2 H2 e2 q=>h cv a F2 H2 (e.trans e2) q
abbrev FE:=SD->Res D
abbrev FT:=SD->Res Bool
abbrev FA:=SD->Res Yy
def OkD (K:W.Frag)(F H:Hp)(Q:VK)(d:D):Prop:=∀v F' H',Ext F H F' H'->IsD K F' d v->Q v H'
def OkB (F H:Hp)(Q:Bool->Hp->Prop)(b:Bool):Prop:=∀F' H',Ext F H F' H'->Q b H'
def OkA (K:W.Frag)(F H:Hp)(Q:Yw->Hp->Prop)(ds:Yy):Prop:=∀vs F' H',Ext F H F' H'->IsDs K F' ds vs->Q vs H'
def OkN (K:W.Frag)(F H:Hp)(Q:VK)(d:D):Prop:=∀l F' H',Ext F H F' H'->H l=none->F' l=none->zeS K F' H' l d->Q (.ref l) H'
def tD (K:W.Frag)(E:XK)(f:FE):TE:=λZ H Q=>∃B F sd,RS K B F H sd Z /\ (f sd).need (OkD K F H Q) (XW K E F H)
def tDT (K:W.Frag)(E:XK)(f:FT):TT:=λZ H Q=>∃B F sd,RS K B F H sd Z /\ (f sd).need (OkB F H Q) (XW K E F H)
def tDA (K:W.Frag)(E:XK)(f:FA):TA:=λZ H Q=>∃B F sd,RS K B F H sd Z /\ (f sd).need (OkA K F H Q) (XW K E F H)
def tDN (K:W.Frag)(E:XK)(f:FE):TE:=λZ H Q=>∃B F sd,RS K B F H sd Z /\ (f sd).need (OkN K F H Q) (XW K E F H)
abbrev QE (X:Cx)(E:XK)(e:Expr)(f:FE):Prop:=PE X e (tD X.K E f)
abbrev QT (X:Cx)(E:XK)(e:Expr)(f:FT):Prop:=PT X e (tDT X.K E f)
abbrev QW (X:Cx)(E:XK)(e:Expr)(f:FT):Prop:=PW X e (tDT X.K E f)
abbrev QA (X:Cx)(E:XK)(es:Yj)(f:FA):Prop:=PA X es (tDA X.K E f)
abbrev QN (X:Cx)(E:XK)(e:Expr)(f:FE):Prop:=PE X e (tDN X.K E f)
def PE.weak (h:PE X e t)(w:∀Z H Q,t' Z H Q->t Z H Q):PE X e t':=λY s Z H Q I q=>h Y s Z H Q I (w _ _ _ q)
def PT.weak (h:PT X e t)(w:∀Z H Q,t' Z H Q->t Z H Q):PT X e t':=λY s Z H Q I q=>h Y s Z H Q I (w _ _ _ q)
def PW.weak (h:PW X e t)(w:∀Z H Q,t' Z H Q->t Z H Q):PW X e t':=λwhole Y s Z H Q I q=>h whole Y s Z H Q I (w _ _ _ q)
def PA.weak (h:PA X e t)(w:∀Z H Q,t' Z H Q->t Z H Q):PA X e t':=λpos Y s Z H Q I q=>h pos Y s Z H Q I (w _ _ _ q)
def PS.weak (h:PS X e t)(w:∀D Z H,t' D Z H->t D Z H):PS X e t':=λY s Z H D I q=>h Y s Z H D I (w _ _ _ q)
def PSs.weak (h:PSs X e t)(w:∀D Z H,t' D Z H->t D Z H):PSs X e t':=λY s Z H D I q=>h Y s Z H D I (w _ _ _ q)
def PI.weak (h:PI X tg e t)(w:∀Z H R,t' Z H R->t Z H R):PI X tg e t':=λY s Z H R I q=>h Y s Z H R I (w _ _ _ q)
section
variable {K:W.Frag}{E:XK}{F H F' H':Hp}
def OkD.ext (h:OkD K F H Q d)(e:Ext F H F' H'):OkD K F' H' Q d:=λv F2 H2 e2 q=>h v F2 H2 (e.trans e2) q
def OkB.ext (h:OkB F H Q b)(e:Ext F H F' H'):OkB F' H' Q b:=λF2 H2 e2=>h F2 H2 (e.trans e2)
def OkN.ext (h:OkN K F H Q d)(e:Ext F H F' H'):OkN K F' H' Q d:=λl F2 H2 e2 q=>h l F2 H2 (e.trans e2) (Qv e.hh q)
def BR {Q:VK}{r:Res D}(h:r.need (OkD K F H Q) (XW K E F H))(e:Ext F H F' H'):r.need (OkD K F' H' Q) (XW K E F' H'):=h.mono (λ_ q=>q.ext e) λ_ _ q=>q.ext e
def F7 {Q:Bool->Hp->Prop}{r:Res Bool}(h:r.need (OkB F H Q) (XW K E F H))(e:Ext F H F' H'):r.need (OkB F' H' Q) (XW K E F' H'):=h.mono (λ_ q=>q.ext e) λ_ _ q=>q.ext e
def needN {Q:VK}{r:Res D}(h:r.need (OkN K F H Q) (XW K E F H))(e:Ext F H F' H'):r.need (OkN K F' H' Q) (XW K E F' H'):=h.mono (λ_ q=>q.ext e) λ_ _ q=>q.ext e
theorem OkD.new (h:OkD K F H Q d):OkN K F H Q d:=λl F' H' e n n' o=>by
 obtain⟨u,hu⟩:=o.has;refine h (.ref l) (upd F' l u) H' ⟨e.ff.trans (Kh n' u),λb v q=>?_,e.hh,λa q1 q2=>?_⟩ (o.frz hu n')
 .by_cases z:b=l
  .subst z;rw[JL] at q;cases q;exact hu
  .rw[JC z] at q;exact e.fh _ _ q
 .have z:a≠l:=λz=>q2 (by rw[z];exact n);rw[JC z];exact e.new a q1 q2
end
section
variable {X:Cx}{E:XK}
def QN.qe (h:QN X E e f):QE X E e f:=PE.weak h λZ H Q ⟨B,F,sd,r,n⟩=>⟨B,F,sd,r,n.mono (λ_ q=>q.new) λ_ _ q=>q⟩
def dVar (i:Nat):FE:=λsd=>match sd[i]? with
 |some (some (.val d))=>.ok d
 |_=>.no
def dC (d:D):FE:=λ_=>.ok d
def J0 (h:PE X e (tVar i)):QE X E e (dVar i):=PE.weak h λZ H Q ⟨B,F,sd,r,n⟩=>by
 unfold dVar at n
 split at n
 .rename_i d q;obtain⟨v,h1,h2⟩:=r.val q;exact⟨v,h1,n v F H (.refl r.ext.fh) h2⟩
 .exact n.elim
def XO (h:PE X e (tC v))(i:∀F,IsD X.K F d v):QE X E e (dC d):=PE.weak h λZ H Q ⟨B,F,sd,r,n⟩=>n v F H (.refl r.ext.fh) (i F)
def J6 {i j pos}:QE X E (.Constant (.int i) j pos) (dC (.int i)):=XO Le λ_=>IsD.int_iff.mpr rfl
def K6 {b j pos}:QE X E (.Constant (.bool b) j pos) (dC (.bl b)):=XO pe_bl λ_=>IsD.bl_iff.mpr rfl
def NG {j pos}:QE X E (.Constant .none j pos) (dC .non):=XO Lf λ_=>IsD.non_iff.mpr rfl
def Q4 {x j pos}:QE X E (.Constant (.str x) j pos) (dC (.str x)):=XO DS λ_=>IsD.str_iff.mpr rfl
def Res.ofO {α: Type}:Option α -> Res α
 |some a=>.ok a
 |none=>.no
@[simp]def Res.ofO_some {α: Type}(a:α):Res.ofO (some a)=.ok a:=rfl
@[simp]def Res.ofO_none {α: Type}:Res.ofO (none:Option α)=.no:=rfl
def Res.need_ofO {α: Type}{o:Option α}{p:α -> Prop}(h:(Res.ofO o).need p q):∃a,o=some a/\p a:=by
 cases o with
 |none=>exact h.elim
 |some a=>exact⟨a,rfl,h⟩
def dOp (g:D->D->Yz)(fa fb:FE):FE:=λsd=>(fa sd).bind λx=>(fb sd).bind λy=>.ofO (g x y)
def dUn (g:D->Yz)(fa:FE):FE:=λsd=>(fa sd).bind λx=>.ofO (g x)
def rD2 (K:W.Frag)(g:D->D->Yz):R2:=λv w H Q=>∃F d e z,Same F H/\IsD K F d v/\IsD K F e w/\g d e=some z/\OkD K F H Q z
def rD2N (K:W.Frag)(g:D->D->Yz):R2:=λv w H Q=>∃F d e z,Same F H/\IsD K F d v/\IsD K F e w/\g d e=some z/\OkN K F H Q z
def rD1 (K:W.Frag)(g:D->Yz):V->Hp->VK->Prop:=λv H Q=>∃F d z,Same F H/\IsD K F d v/\g d=some z/\OkD K F H Q z
def rDA (K:W.Frag)(g:Yy->Yz):Yw->Hp->VK->Prop:=λvs H Q=>∃F ds z,Same F H/\IsDs K F ds vs/\g ds=some z/\OkD K F H Q z
def rDAN (K:W.Frag)(g:Yy->Yz):Yw->Hp->VK->Prop:=λvs H Q=>∃F ds z,Same F H/\IsDs K F ds vs/\g ds=some z/\OkN K F H Q z
def XQ {K:W.Frag}{g:D->D->Yz}{fa fb:FE}{Z: St}{H:Hp}{Q:VK}(h:tD K E (dOp g fa fb) Z H Q):tOp (rD2 K g) (tD K E fa) (tD K E fb) Z H Q:=by
 obtain⟨B,F,sd,r,n⟩:=h;refine⟨B,F,sd,r,(Res.need_bind n).mono (λx n1 v F1 H1 e1 i1=>?_) λ_ _ q=>q⟩;refine⟨B,F1,sd,r.step e1,(Res.need_bind n1).mono (λy n2 w F2 H2 e2 i2=>?_) λ_ _ q=>q.ext e1⟩;obtain⟨z,hz,q⟩:=Res.need_ofO n2;exact⟨F2,x,y,z,e2.fh,IsD.same e2.ff _ _ i1,i2,hz,q.ext (e1.trans e2)⟩
def NH {K:W.Frag}{g:D->D->Yz}{fa fb:FE}{Z: St}{H:Hp}{Q:VK}(h:tDN K E (dOp g fa fb) Z H Q):tOp (rD2N K g) (tD K E fa) (tD K E fb) Z H Q:=by
 obtain⟨B,F,sd,r,n⟩:=h;refine⟨B,F,sd,r,(Res.need_bind n).mono (λx n1 v F1 H1 e1 i1=>?_) λ_ _ q=>q⟩;refine⟨B,F1,sd,r.step e1,(Res.need_bind n1).mono (λy n2 w F2 H2 e2 i2=>?_) λ_ _ q=>q.ext e1⟩;obtain⟨z,hz,q⟩:=Res.need_ofO n2;exact⟨F2,x,y,z,e2.fh,IsD.same e2.ff _ _ i1,i2,hz,q.ext (e1.trans e2)⟩
def tD_un {K:W.Frag}{g:D->Yz}{fa:FE}{Z: St}{H:Hp}{Q:VK}(h:tD K E (dUn g fa) Z H Q):tUn (rD1 K g) (tD K E fa) Z H Q:=by
 obtain⟨B,F,sd,r,n⟩:=h;refine⟨B,F,sd,r,(Res.need_bind n).mono (λx n1 v F1 H1 e1 i1=>?_) λ_ _ q=>q⟩;obtain⟨z,hz,q⟩:=Res.need_ofO n1;exact⟨F1,x,z,e1.fh,i1,hz,q.ext e1⟩
abbrev OpD (X:Cx)(f:Value->Value->Sem Value)(g:D->D->Yz):Prop:=OpR X f (rD2 X.K g)
abbrev OpDN (X:Cx)(f:Value->Value->Sem Value)(g:D->D->Yz):Prop:=OpR X f (rD2N X.K g)
def OpR.weak (h:OpR X f r)(w:∀x y H Q,r' x y H Q->r x y H Q):OpR X f r':=λY s Z H x y v u Q I rx ry q=>h Y s Z H x y v u Q I rx ry (w _ _ _ _ q)
def UnR.weak (h:UnR X f r)(w:∀x H Q,r' x H Q->r x H Q):UnR X f r':=λY s Z H x v Q I rx q=>h Y s Z H x v Q I rx (w _ _ _ q)
def za1.weak (h:za1 X f r)(w:∀x H Q,r' x H Q->r x H Q):za1 X f r':=λY s Z H x v Q I rx q=>h Y s Z H x v Q I rx (w _ _ _ q)
def IxR.weak (h:IxR X r)(w:∀x y H Q,r' x y H Q->r x y H Q):IxR X r':=λvalue slice Y s Z H x y v u Q I rx ry q e=>h value slice Y s Z H x y v u Q I rx ry (w _ _ _ _ q) e
variable {a b:Expr}{fa fb:FE}{pos:Pos}
def q_op (ho:OpD X (binaryOp op) g)(ha:QE X E a fa)(hb:QE X E b fb):QE X E (.BinOp a op b pos) (dOp g fa fb):=PE.weak (Ea ho ha hb) λ_ _ _ h=>XQ h
def q_opN (ho:OpDN X (binaryOp op) g)(ha:QE X E a fa)(hb:QE X E b fb):QN X E (.BinOp a op b pos) (dOp g fa fb):=PE.weak (Ea ho ha hb) λ_ _ _ h=>NH h
def q_un (ho:UnR X (unaryOp op) (rD1 X.K g))(ha:QE X E a fa):QE X E (.UnaryOp op a pos) (dUn g fa):=PE.weak (pe_un ho ha) λ_ _ _ h=>tD_un h
def BS (ho:OpD X (compareOp op) g)(ha:QE X E a fa)(hb:QE X E b fb)(hm:behindInMarks op b=false):QE X E (.Compare a [op] [b] pos) (dOp g fa fb):=PE.weak (Ef ho ha hb hm) λ_ _ _ h=>XQ h
def J7 (fa:FE):FT:=λsd=>(fa sd).bind λx=>match x with
 | .bl b=>.ok b
 |_=>.no
def KO {K:W.Frag}{Z: St}{H:Hp}{Q:Bool->Hp->Prop}(h:tDT K E (J7 fa) Z H Q):tD K E fa Z H (λx H'=>∃k,x=.bl k/\Q k H'):=by
 obtain⟨B,F,sd,r,n⟩:=h;refine⟨B,F,sd,r,(Res.need_bind n).mono (λx n1 v F1 H1 e1 i1=>?_) λ_ _ q=>q⟩;cases x with
 |bl k=>exact⟨k,IsD.bl_iff.mp i1,n1 F1 H1 e1⟩
 |_=>exact n1.elim
def JY {op:CmpOp}{g:D->D->Yz}(ho:OpD X (compareOp op) g)(ha:QE X E a fa)(hb:QE X E b fb)(hm:behindInMarks op b=false):QT X E (.Compare a [op] [b] pos) (J7 (dOp g fa fb)):=
 PT.weak (ZO ho ha hb hm) λZ H Q h=>by
  have h:=KO h;exact XQ h
def K7 (ha:QE X E a fa)(he:∀whole,isTrue a X.env whole=(do let v <- whole;standAt a.pos;holding [v] (truthy v)):=by intro _;rfl):QT X E a (J7 fa):=PT.weak (Lj ha he) λZ H Q q=>KO q
def Q8 (f:FT):FT:=λsd=>(f sd).bind λb=>.ok (!b)
def K8 (f g:FT):FT:=λsd=>(f sd).bind λb=>if b then g sd else .ok false
def dOrT (f g:FT):FT:=λsd=>(f sd).bind λb=>if b then .ok true else g sd
variable {f g:FT}{rest:Yj}
def K9 (ha:QT X E a f):QT X E (.UnaryOp .Not a pos) (Q8 f):=PT.weak (Lp ha) λZ H Q ⟨B,F,sd,r,n⟩ =>
 ⟨B,F,sd,r,(Res.need_bind n).mono (λ_ q=>q) λ_ _ q=>q⟩
def WZ (ha:QT X E a f):QW X E (.BoolOp .And [a] pos) f:=Ll ha
def Xa (ha:QT X E a f):QW X E (.BoolOp .Or [a] pos) f:=Ln ha
def Xb (ha:QT X E a f)(hb:QW X E (.BoolOp .And (b::rest) pos) g):QW X E (.BoolOp .And (a::b::rest) pos) (K8 f g):=PW.weak (Lo ha hb) λZ H Q ⟨B,F,sd,r,n⟩=>by
 refine⟨B,F,sd,r,(Res.need_bind n).mono (λk n1 F1 H1 e1=>?_) λ_ _ q=>q⟩;cases k with
 |true=>exact⟨B,F1,sd,r.step e1,F7 n1 e1⟩
 |false=>exact n1 F1 H1 e1
def V6 (ha:QT X E a f)(hb:QW X E (.BoolOp .Or (b::rest) pos) g):QW X E (.BoolOp .Or (a::b::rest) pos) (dOrT f g):=PW.weak (pw_or ha hb) λZ H Q ⟨B,F,sd,r,n⟩=>by
 refine⟨B,F,sd,r,(Res.need_bind n).mono (λk n1 F1 H1 e1=>?_) λ_ _ q=>q⟩;cases k with
 |true=>exact n1 F1 H1 e1
 |false=>exact⟨B,F1,sd,r.step e1,F7 n1 e1⟩
def QW.qt (h:QW X E e f):QT X E e f:=PW.pt h
def BT (fa fb:FE):FE:=λsd=>(J7 fa sd).bind λb=>if b then fb sd else .ok (.bl false)
def dOrV (fa fb:FE):FE:=λsd=>(J7 fa sd).bind λb=>if b then .ok (.bl true) else fb sd
def dNotV (fa:FE):FE:=λsd=>(J7 fa sd).bind λb=>.ok (.bl !b)
def F8 {op}(h:QE X E a fa):QE X E (.BoolOp op [a] pos) fa:=Lq h
def q_and (ha:QE X E a fa)(hb:QE X E (.BoolOp .And (b::rest) pos) fb):QE X E (.BoolOp .And (a::b::rest) pos) (BT fa fb):=PE.weak (Lr ha hb) λZ H Q ⟨B,F,sd,r,n⟩=>by
 refine KO (K:=X.K) (E:=E) (Q:=λc H1=>if c=true then tD X.K E fb Z H1 Q else Q (.bl false) H1) ⟨B,F,sd,r,(Res.need_bind n).mono (λk n1 F1 H1 e1=>?_) λ_ _ q=>q⟩;cases k with
 |true=>exact⟨B,F1,sd,r.step e1,BR n1 e1⟩
 |false=>exact n1 _ F1 H1 e1 (IsD.bl_iff.mpr rfl)
def q_or (ha:QE X E a fa)(hb:QE X E (.BoolOp .Or (b::rest) pos) fb):QE X E (.BoolOp .Or (a::b::rest) pos) (dOrV fa fb):=PE.weak (pe_or ha hb) λZ H Q ⟨B,F,sd,r,n⟩=>by
 refine KO (K:=X.K) (E:=E) (Q:=λc H1=>if c=true then Q (.bl true) H1 else tD X.K E fb Z H1 Q) ⟨B,F,sd,r,(Res.need_bind n).mono (λk n1 F1 H1 e1=>?_) λ_ _ q=>q⟩;cases k with
 |true=>exact n1 _ F1 H1 e1 (IsD.bl_iff.mpr rfl)
 |false=>exact⟨B,F1,sd,r.step e1,BR n1 e1⟩
def dIf (c:FT)(fa fb:FE):FE:=λsd=>(c sd).bind λk=>if k then fa sd else fb sd
def dNil:FA:=λ_=>.ok []
def Jz (fa:FE)(fr:FA):FA:=λsd=>(fa sd).bind λx=>(fr sd).bind λxs=>.ok (x::xs)
def J2:QA X E [] dNil:=PA.weak X7 λZ H Q ⟨B,F,sd,r,n⟩=>n [] F H (.refl r.ext.fh) .nil
def J1 (ha:QE X E e fe)(hr:QA X E es fr)(hs:starEach (e::es) X.env=(false,eval e X.env)::starEach es X.env:=by rfl):QA X E (e::es) (Jz fe fr):=
 PA.weak (X8 ha hr hs) λZ H Q ⟨B,F,sd,r,n⟩=>by
  refine⟨B,F,sd,r,(Res.need_bind n).mono (λx n1 v F1 H1 e1 i1=>?_) λ_ _ q=>q⟩;refine⟨B,F1,sd,r.step e1,(Res.need_bind n1).mono (λxs n2 vs F2 H2 e2 i2=>?_) λ_ _ q=>q.ext e1⟩;exact n2 _ F2 H2 (e1.trans e2) (.mk (IsD.same e2.ff _ _ i1) i2)
def dLst (fr:FA):FE:=λsd=>(fr sd).bind λxs=>if xs.length<=1000 then .ok (.lst xs) else .no
def dTup (fr:FA):FE:=λsd=>(fr sd).bind λxs=>if xs.length<=1000 then .ok (.tup xs) else .no
def QJ (h:QA X E es fr):QN X E (.List es pos) (dLst fr):=PE.weak (Mj h) λZ H Q ⟨B,F,sd,r,n⟩=>by
 refine⟨B,F,sd,r,(Res.need_bind n).mono (λxs n1 vs F1 H1 e1 i1=>?_) λ_ _ q=>q⟩
 split at n1
 .rename_i hl;have hz:=i1.length;refine⟨QL (),λp hp=>?_⟩;exact n1 p F1 (upd H1 p (.lst vs)) (e1.trans (.keep e1.fh hp _)) (Qv e1.hh hp) (Qv e1.fh hp) ⟨vs,JL,i1⟩
 .exact n1.elim
def Q1 {x1}(h:QA X E es fr):QE X E (.Tuple es x1 pos) (dTup fr):=PE.weak (Mi h) λZ H Q ⟨B,F,sd,r,n⟩=>by
 refine⟨B,F,sd,r,(Res.need_bind n).mono (λxs n1 vs F1 H1 e1 i1=>?_) λ_ _ q=>q⟩
 split at n1
 .rename_i hl;have hz:=i1.length;refine⟨QL (),λp hp=>?_⟩;have ea:=Ext.alloc e1.fh hp (.tup vs);exact n1 _ _ _ (e1.trans ea) (IsD.tup_iff.mpr ⟨p,vs,rfl,.of JL,IsDs.same ea.ff _ _ i1⟩)
 .exact n1.elim
def SpD (K:W.Frag)(Fn:Yy->Res D):Sp:=λvs H Q _=>∃F ds,Same F H/\IsDs K F ds vs/\(Fn ds).need (OkD K F H Q) (XW K E0 F H)
def SpN (K:W.Frag)(Fn:Yy->Res D):Sp:=λvs H Q _=>∃F ds,Same F H/\IsDs K F ds vs/\(Fn ds).need (OkN K F H Q) (XW K E0 F H)
def J8 (Fn:Yy->Res D)(fr:FA):FE:=λsd=>(fr sd).bind Fn
def q_fn {name:Str}{k:Nat}{ps:Yh}{Fn:Yy->Res D}{p:Pos}{e:Expr}{es:Yj}{fr:FA}(c:zan X.prog X.w X.K X.mg X.base name k ps (SpD X.K Fn))(hr:Room k X.A)(hg:Gl X name)(ha:QA X E0 (e::es) fr)
 (hdb:(name == ("__debug__" : Str))=false:=by decide) (he:starEach (e::es) X.env=(false,eval e X.env)::starEach es X.env:=by rfl) (hpl:(backTo pos (starEach es X.env)).any (·.1)=false:=by rfl):
 QE X E0 (.Call (.Name name p) (e::es) [] pos) (J8 Fn fr):=PE.weak (EM c hr hg ha hdb he hpl) λZ H Q ⟨B,F,sd,r,n⟩=>by
 refine⟨B,F,sd,r,(Res.need_bind n).mono (λxs n1 vs F1 H1 e1 i1=>?_) λ_ _ q=>q⟩;show SpD X.K Fn (vs++[]) H1 Q E0;rw[ZA];exact⟨F1,xs,e1.fh,i1,BR n1 e1⟩
def Q2 {name:Str}{k:Nat}{ps:Yh}{Fn:Yy->Res D}{p:Pos}{e:Expr}{es:Yj}{fr:FA}(c:zan X.prog X.w X.K X.mg X.base name k ps (SpN X.K Fn))(hr:Room k X.A)(hg:Gl X name)(ha:QA X E0 (e::es) fr)
 (hdb:(name == ("__debug__" : Str))=false:=by decide) (he:starEach (e::es) X.env=(false,eval e X.env)::starEach es X.env:=by rfl) (hpl:(backTo pos (starEach es X.env)).any (·.1)=false:=by rfl):
 QN X E0 (.Call (.Name name p) (e::es) [] pos) (J8 Fn fr):=PE.weak (EM c hr hg ha hdb he hpl) λZ H Q ⟨B,F,sd,r,n⟩=>by
 refine⟨B,F,sd,r,(Res.need_bind n).mono (λxs n1 vs F1 H1 e1 i1=>?_) λ_ _ q=>q⟩;show SpN X.K Fn (vs++[]) H1 Q E0;rw[ZA];exact⟨F1,xs,e1.fh,i1,needN n1 e1⟩
def dBlt (g:Yy->Yz)(fr:FA):FE:=λsd=>(fr sd).bind λxs=>.ofO (g xs)
def Qf {id:String}{x:Str}{p:Pos}{e:Expr}{es:Yj}{g:Yy->Yz}{fr:FA}(hc:za1 X (.builtin id) (rDA X.K g))(hg:Gl X x)(hm:X.mg x=none)(hv:bootBuiltins x=some (.builtin id))(ha:QA X E (e::es) fr)(hn:x ≠ "__name__" := by decide)(hdb:(x == ("__debug__" : Str))=false:=by decide)
 (he:starEach (e::es) X.env=(false,eval e X.env)::starEach es X.env:=by rfl) (hpl:(backTo pos (starEach es X.env)).any (·.1)=false:=by rfl):QE X E (.Call (.Name x p) (e::es) [] pos) (dBlt g fr):=
 PE.weak (XA hc hg hm hv ha hn hdb he hpl) λZ H Q ⟨B,F,sd,r,n⟩=>by
  refine⟨B,F,sd,r,(Res.need_bind n).mono (λxs n1 vs F1 H1 e1 i1=>?_) λ_ _ q=>q⟩;obtain⟨z,hz,q⟩:=Res.need_ofO n1;exact⟨F1,xs,z,e1.fh,i1,hz,q.ext e1⟩
def BU {id:String}{x:Str}{p:Pos}{e:Expr}{es:Yj}{g:Yy->Yz}{fr:FA}(hc:za1 X (.builtin id) (rDAN X.K g))(hg:Gl X x)(hm:X.mg x=none)(hv:bootBuiltins x=some (.builtin id))(ha:QA X E (e::es) fr)(hn:x ≠ "__name__" := by decide)(hdb:(x == ("__debug__" : Str))=false:=by decide)
 (he:starEach (e::es) X.env=(false,eval e X.env)::starEach es X.env:=by rfl) (hpl:(backTo pos (starEach es X.env)).any (·.1)=false:=by rfl):QN X E (.Call (.Name x p) (e::es) [] pos) (dBlt g fr):=
 PE.weak (XA hc hg hm hv ha hn hdb he hpl) λZ H Q ⟨B,F,sd,r,n⟩=>by
  refine⟨B,F,sd,r,(Res.need_bind n).mono (λxs n1 vs F1 H1 e1 i1=>?_) λ_ _ q=>q⟩;obtain⟨z,hz,q⟩:=Res.need_ofO n1;exact⟨F1,xs,z,e1.fh,i1,hz,q.ext e1⟩
def Wm {T:String}{x:Str}{p:Pos}{e:Expr}{es:Yj}{g:Yy->Yz}{fr:FA}(hc:za1 X (.type T) (rDA X.K g))(hg:Gl X x)(hm:X.mg x=none)(hv:bootBuiltins x=some (.type T))(ha:QA X E (e::es) fr)(hn:x ≠ "__name__" := by decide)(hdb:(x == ("__debug__" : Str))=false:=by decide)
 (he:starEach (e::es) X.env=(false,eval e X.env)::starEach es X.env:=by rfl) (hpl:(backTo pos (starEach es X.env)).any (·.1)=false:=by rfl):QE X E (.Call (.Name x p) (e::es) [] pos) (dBlt g fr):=
 PE.weak (ZR hc hg hm hv ha hn hdb he hpl) λZ H Q ⟨B,F,sd,r,n⟩=>by
  refine⟨B,F,sd,r,(Res.need_bind n).mono (λxs n1 vs F1 H1 e1 i1=>?_) λ_ _ q=>q⟩;obtain⟨z,hz,q⟩:=Res.need_ofO n1;exact⟨F1,xs,z,e1.fh,i1,hz,q.ext e1⟩
def V7 {T:String}{x:Str}{p:Pos}{e:Expr}{es:Yj}{g:Yy->Yz}{fr:FA}(hc:za1 X (.type T) (rDAN X.K g))(hg:Gl X x)(hm:X.mg x=none)(hv:bootBuiltins x=some (.type T))(ha:QA X E (e::es) fr)(hn:x ≠ "__name__" := by decide)(hdb:(x == ("__debug__" : Str))=false:=by decide)
 (he:starEach (e::es) X.env=(false,eval e X.env)::starEach es X.env:=by rfl) (hpl:(backTo pos (starEach es X.env)).any (·.1)=false:=by rfl):QN X E (.Call (.Name x p) (e::es) [] pos) (dBlt g fr):=
 PE.weak (ZR hc hg hm hv ha hn hdb he hpl) λZ H Q ⟨B,F,sd,r,n⟩=>by
  refine⟨B,F,sd,r,(Res.need_bind n).mono (λxs n1 vs F1 H1 e1 i1=>?_) λ_ _ q=>q⟩;obtain⟨z,hz,q⟩:=Res.need_ofO n1;exact⟨F1,xs,z,e1.fh,i1,hz,q.ext e1⟩
def Qk:D->Bool
 | .tup _=>false
 | .lst _=>false
 | .dct _ _=>false
 | .ins _ _ _=>false
 | .exc _=>false
 | .dcf _ _=>false
 | .pin _ _=>false
 | .scr _=>false
 |_=>true
def IsD.scal {K:W.Frag}{F F':Hp}{d:D}{v:V}(s:Qk d=true)(h:IsD K F d v):IsD K F' d v:=by
 cases d with
 |tup _=>exact JB s
 |lst _=>exact JB s
 |dct _ _=>exact JB s
 |ins _ _ _=>exact JB s
 |exc _=>exact JB s
 |dcf _ _=>exact JB s
 |pin _ _=>exact JB s
 |scr _=>exact JB s
 |_=>exact h
def Res.bare {α: Type}(r:Res α):Res α:= match r with
 | .ok a=>.ok a
 | .ex c []=>.ex c []
 |_=>.no
def Res.need_bare {α: Type}{K:W.Frag}{F H F1:Hp}{r:Res α}{p:α -> Prop}(sF:Same F H)(h:r.bare.need p (XW K E0 F H)):r.need p (XW K E0 F1 H):=by
 cases r with
 |ok a=>exact h
 |no=>exact h
 |ex c fs =>
  cases fs with
  |nil=>exact λcv a F2 H2 e2 ⟨C,h1,h2,_⟩=>h cv none F H2 (.grow sF e2.hh) ⟨C,h1,h2,.inl rfl⟩
  |cons d r=>exact h.elim
def dTmp (is:Yg)(f:FE):FE:=λsd=>(f (frzD is sd)).bare.bind λd=>if Qk d then .ok d else .no
def WA (is:Yg)(f:FT):FT:=λsd=>(f (frzD is sd)).bare
def Wn {e:Expr}{fe:FE}(is:Yg)(h:QE X E0 e fe):QE X E0 e (dTmp is fe):=PE.weak h λZ H Q ⟨B,F,sd,r,n⟩=>by
 obtain⟨F1,s1,r1⟩:=r.frz is;refine⟨B,F1,_,r1,(Res.need_bare r.ext.fh (Res.need_bind n)).mono (λd n1 v F2 H2 e2 i2=>?_) λc fs q=>q⟩
 split at n1
 .rename_i hs;exact n1 v F H2 (.grow r.ext.fh e2.hh) (i2.scal hs)
 .exact n1.elim
def XR {e:Expr}{fe:FT}(is:Yg)(h:QT X E0 e fe):QT X E0 e (WA is fe):=PT.weak h λZ H Q ⟨B,F,sd,r,n⟩=>by
 obtain⟨F1,s1,r1⟩:=r.frz is;refine⟨B,F1,_,r1,(Res.need_bare r.ext.fh n).mono (λd n1 F2 H2 e2=>?_) λc fs q=>q⟩;exact n1 F H2 (.grow r.ext.fh e2.hh)
end
inductive Out where
 |next (sd:SD)|ret (d:D)|brk (sd:SD)|cont (sd:SD)
def OkM (K:W.Frag)(F H:Hp)(Q:VK)(d:D):Prop:=if Qk d=true then OkD K F H Q d else OkN K F H Q d
def RetOk (K:W.Frag)(m:Option Bool)(B:Bs)(Q:VK)(d:D):Prop:=match m with
 |some true=>OkN K B.F0 B.H0 Q d
 |some false=>OkD K B.F0 B.H0 Q d
 |none=>OkM K B.F0 B.H0 Q d
def zhe (K:W.Frag)(m:Option Bool)(B:Bs)(F:Hp)(T:Ends):Out->Prop
 | .next sd=>∀Z F' H',Same F F'->RS K B F' H' sd Z -> T.nx Z H'
 | .brk sd=>∀Z F' H',Same F F'->RS K B F' H' sd Z -> T.bk Z H'
 | .cont sd=>∀Z F' H',Same F F'->RS K B F' H' sd Z -> T.ct Z H'
 | .ret d=>RetOk K m B T.rt d
abbrev FS:=SD->Res Out
def tDS (K:W.Frag)(E:XK)(m:Option Bool)(g:FS):TS:=λT Z H=>∃B F sd,RS K B F H sd Z /\ (g sd).need (zhe K m B F T) (XW K E B.F0 B.H0)
abbrev QS (X:Cx)(E:XK)(m:Option Bool)(st:Stmt)(g:FS):Prop:=PS X st (tDS X.K E m g)
abbrev QSs (X:Cx)(E:XK)(m:Option Bool)(st:List Stmt)(g:FS):Prop:=PSs X st (tDS X.K E m g)
section
variable {K:W.Frag}{E:XK}{m:Option Bool}{B:Bs}{F F' H:Hp}{T:Ends}
def zhe.mono (h:zhe K m B F T o)(e:Same F F'):zhe K m B F' T o:=by
 cases o with
 |next sd=>exact λZ F2 H2 s r=>h Z F2 H2 (e.trans s) r
 |brk sd=>exact λZ F2 H2 s r=>h Z F2 H2 (e.trans s) r
 |cont sd=>exact λZ F2 H2 s r=>h Z F2 H2 (e.trans s) r
 |ret d=>exact h
end
section
variable {X:Cx}{E:XK}{m:Option Bool}{st:Stmt}{sts:List Stmt}{g g1 g2:FS}{pos:Pos}
def JF:FS:=λsd=>.ok (.next sd)
def sSeq (g1 g2:FS):FS:=λsd=>(g1 sd).bind λo=>match o with
 | .next sd'=>g2 sd'
 |o=>.ok o
def JP:QSs X E m [] JF:=PSs.weak DW λT Z H ⟨B,F,sd,r,n⟩=>n Z F H (.refl _) r
def J5 (h:QS X E m st g):QSs X E m [st] g:=Ls h
def J9 (h1:QS X E m st g1)(h2:QSs X E m sts g2):QSs X E m (st::sts) (sSeq g1 g2):=PSs.weak (DX h1 h2) λT Z H ⟨B,F,sd,r,n⟩=>by
 refine⟨B,F,sd,r,(Res.need_bind n).mono (λo n1=>?_) λ_ _ q=>q⟩;cases o with
 |next sd'=>exact λZ' F' H' s r'=>⟨B,F',sd',r',n1.mono (λo q=>q.mono s) λ_ _ q=>q⟩
 |ret d=>exact n1
 |brk sd'=>exact n1
 |cont sd'=>exact n1
def WC (is:Yg)(h:QS X E m st g):QS X E m st (λsd=>g (frzD is sd)):=PS.weak h λT Z H ⟨B,F,sd,r,n⟩=>by
 obtain⟨F1,s1,r1⟩:=r.frz is;exact⟨B,F1,_,r1,n.mono (λ_ q=>q.mono s1) λ_ _ q=>q⟩
def sBrk:FS:=λsd=>.ok (.brk sd)
def sCont:FS:=λsd=>.ok (.cont sd)
def NI:QS X E m (.Break pos) sBrk:=PS.weak Lv λT Z H ⟨B,F,sd,r,n⟩=>n Z F H (.refl _) r
variable {e:Expr}{fe:FE}
def sSet (i:Nat)(f:FE):FS:=λsd=>(f sd).bind λd=>.ok (.next (sd.set i (some (.val d))))
def sOwn (i:Nat)(f:FE):FS:=λsd=>(f sd).bind λd=>.ok (.next (sd.set i (some (.own false d))))
def Qi (hN:X.N.Nodup)(hi:X.N[i]? = some x)(hx:Loc X.env.scope x)(he:QE X E e fe)(hs:swapsWith e (some (.Name x pos')) pos.line X.env=pure false:=by rfl)
 (hf:X.fn x=true\/X.env.scope.names.lookup x=some .local:=by trivial):QS X E m (.Assign [.Name x pos'] e pos) (sSet i fe):=PS.weak (DZ hN hi hx he hs hf) λT Z H ⟨B,F,sd,r,n⟩=>by
 refine⟨B,F,sd,r,(Res.need_bind n).mono (λd n1 v F1 H1 e1 i1=>?_) λ_ _ q=>q.ext r.ext⟩;exact n1 _ F1 H1 e1.ff ((r.step e1).setVal i1)
def QZ (hN:X.N.Nodup)(hi:X.N[i]? = some x)(hx:Loc X.env.scope x)(he:QN X E e fe)(hs:swapsWith e (some (.Name x pos')) pos.line X.env=pure false:=by rfl)
 (hf:X.fn x=true\/X.env.scope.names.lookup x=some .local:=by trivial):QS X E m (.Assign [.Name x pos'] e pos) (sOwn i fe):=PS.weak (DZ hN hi hx he hs hf) λT Z H ⟨B,F,sd,r,n⟩=>by
 refine⟨B,F,sd,r,(Res.need_bind n).mono (λd n1 l F1 H1 e1 h1 h2 h3=>?_) λ_ _ q=>q.ext r.ext⟩;refine n1 _ F1 H1 e1.ff ((r.step e1).setOwn (Qv r.ext.hh h1) h2 h3 λj p d' q1 q2=>?_);obtain⟨l',p1,_,_,p4,_⟩:=r.own q1;rw[p1] at q2;cases q2;obtain⟨o,ho⟩:=p4.has;rw[h1] at ho;exact J3 ho
def sRet (f:FE):FS:=λsd=>(f sd).bind λd=>.ok (.ret d)
def JZ (he:QE X E e fe):QS X E false (.Return (some e) pos) (sRet fe):=PS.weak (B1 he) λT Z H ⟨B,F,sd,r,n⟩=>by
 refine⟨B,F,sd,r,(Res.need_bind n).mono (λd n1 v F1 H1 e1 i1=>?_) λ_ _ q=>q.ext r.ext⟩;exact n1 v F1 H1 (r.ext.trans e1) i1
def V8 (he:QN X E e fe):QS X E true (.Return (some e) pos) (sRet fe):=PS.weak (B1 he) λT Z H ⟨B,F,sd,r,n⟩=>by
 refine⟨B,F,sd,r,(Res.need_bind n).mono (λd n1 l F1 H1 e1 h1 h2 h3=>?_) λ_ _ q=>q.ext r.ext⟩;exact n1 l F1 H1 (r.ext.trans e1) (Qv r.ext.hh h1) h2 h3
def Ko (i:Nat):FS:=λsd=>match sd[i]? with
 |some (some (.own _ d))=>.ok (.ret d)
 |_=>.no
def Wo (he:PE X e (tVar i)):QS X E true (.Return (some e) pos) (Ko i):=PS.weak (B1 he) λT Z H ⟨B,F,sd,r,n⟩=>by
 unfold Ko at n
 split at n
 .rename_i d q;obtain⟨l,h1,h2,h3,h4,_⟩:=r.own q;exact⟨.ref l,h1,n l F H r.ext h2 h3 h4⟩
 .exact n.elim
def sRet0:FS:=λ_=>.ok (.ret .non)
def Wp (f:FE):FS:=λsd=>(f sd).bind λ_=>.ok (.next sd)
def XS (he:QE X E e fe)(hs:swapsWith e none pos.line X.env=pure false:=by rfl):QS X E m (.Expr e pos) (Wp fe):=PS.weak (B0 he hs) λT Z H ⟨B,F,sd,r,n⟩=>by
 refine⟨B,F,sd,r,(Res.need_bind n).mono (λd n1 v F1 H1 e1 i1=>?_) λ_ _ q=>q.ext r.ext⟩;exact n1 Z F1 H1 e1.ff (r.step e1)
def sIf (c:FT)(g1 g2:FS):FS:=λsd=>(c sd).bind λb=>if b then g1 sd else g2 sd
def JN (hc:QT X E c fc)(ha:QSs X E m a g1)(hb:QSs X E m b g2):QS X E m (.If c a b pos) (sIf fc g1 g2):=PS.weak (ps_if hc ha hb) λT Z H ⟨B,F,sd,r,n⟩=>by
 refine⟨B,F,sd,r,(Res.need_bind n).mono (λb n1 F1 H1 e1=>?_) λ_ _ q=>q.ext r.ext⟩;cases b with
 |true=>exact⟨B,F1,sd,r.step e1,n1.mono (λ_ q=>q.mono e1.ff) λ_ _ q=>q⟩
 |false=>exact⟨B,F1,sd,r.step e1,n1.mono (λ_ q=>q.mono e1.ff) λ_ _ q=>q⟩
def Qt (i:Nat)(f:FE):FS:=λsd=>match sd[i]? with
 |some (some (.own false (.lst ds)))=>(f sd).bind λd=>if ds.length<sizeLine then .ok (.next (sd.set i (some (.own false (.lst (ds++[d])))))) else .no
 |_=>.no
def Ki (ho:PE X o (tVar i))(he:QE X E e fe)
 (hp:∀{to:TE} {t:TA},PE X o to->PA X [e] t->PE X (.Call (.Attribute o "append" apos) [e] [] cpos) (tBM X.K "list" Ew to t))
 (hs:swapsWith (.Call (.Attribute o "append" apos) [e] [] cpos) none pos.line X.env=pure false:=by rfl)
 (hst:starEach [e] X.env=(false,eval e X.env)::starEach [] X.env:=by rfl):QS X E m (.Expr (.Call (.Attribute o "append" apos) [e] [] cpos) pos) (Qt i fe):=
 PS.weak (B0 (hp ho (J1 he J2 hst)) hs) λT Z H ⟨B,F,sd,r,n⟩=>by
  unfold Qt at n
  split at n
  .rename_i ds hi;obtain⟨l,h1,h2,h3,⟨xs,h4,h5⟩,_⟩:=r.own hi;refine⟨.ref l,h1,.inl ⟨rfl,xs,SqL.of h4⟩,B,F,sd,r,?_⟩;unfold Jz dNil;show((fe sd).bind λx=>.ok [x]).need _ _;have n2:=Res.need_bind n;cases q:fe sd with
   |no=>rw[q] at n2;exact n2
   |ex c fs=>rw[q] at n2;exact n2.ext r.ext
   |ok d =>
    rw[q] at n2;intro vs F1 H1 e1 i1;rw[IsDs.cons_iff] at i1;obtain⟨v,w,rfl,i2,i3⟩:=i1;rw[IsDs.nil_iff] at i3;subst i3;have n3:(if ds.length<sizeLine then Res.ok (Out.next (sd.set i (some (.own false (.lst (ds++[d])))))) else .no).need (zhe X.K m B F T) (XW X.K E B.F0 B.H0):=n2
    split at n3
    .rename_i hz;have hl:=h5.length;refine⟨l,xs,v,rfl,rfl,e1.hh _ _ h4,(),?_⟩;have r1:=r.step e1;exact n3 Z F1 _ e1.ff (r1.chg hi h1 ⟨xs++[v],JL,(IsDs.same e1.ff _ _ h5).snoc i2⟩)
    .exact n3.elim
  .exact n.elim
def XT (i:Nat)(f:FE):FS:=λsd=>match sd[i]? with
 |some (some (.own false (.lst ds)))=>(f sd).bind λd=>match d with
  | .lst es=>if ds.length+es.length<=sizeLine then .ok (.next (sd.set i (some (.own false (.lst (ds++es)))))) else .no
  |_=>.no
 |_=>.no
def NJ (ho:PE X o (tVar i))(he:QN X E e fe)
 (hp:∀{to:TE} {t:TA},PE X o to->PA X [e] t->PE X (.Call (.Attribute o "extend" apos) [e] [] cpos) (tBM X.K "list" Ey to t))
 (hs:swapsWith (.Call (.Attribute o "extend" apos) [e] [] cpos) none pos.line X.env=pure false:=by rfl)
 (hst:starEach [e] X.env=(false,eval e X.env)::starEach [] X.env:=by rfl):QS X E m (.Expr (.Call (.Attribute o "extend" apos) [e] [] cpos) pos) (XT i fe):=
 PS.weak (B0 (hp ho (X8 he X7 hst)) hs) λT Z H ⟨B,F,sd,r,n⟩=>by
  unfold XT at n
  split at n
  .rename_i ds hi;obtain⟨l,h1,h2,h3,⟨xs,h4,h5⟩,_⟩:=r.own hi;refine⟨.ref l,h1,.inl ⟨rfl,xs,SqL.of h4⟩,B,F,sd,r,(Res.need_bind n).mono (λd n1 b F1 H1 e1 i1 i2 i3=>?_) λ_ _ q=>q.ext r.ext⟩;cases d with
   |lst es =>
    obtain⟨ys,g1,g2⟩:=i3;have n3:(if ds.length+es.length<=sizeLine then Res.ok (Out.next (sd.set i (some (.own false (.lst (ds++es)))))) else .no).need (zhe X.K m B F T) (XW X.K E B.F0 B.H0):=n1
    split at n3
    .rename_i hz;have hl:=h5.length;have hl2:=g2.length;refine⟨l,b,xs,ys,rfl,rfl,e1.hh _ _ h4,g1,(),?_⟩;have r1:=r.step e1;exact n3 Z F1 _ e1.ff (r1.chg hi h1 ⟨xs++ys,JL,(IsDs.same e1.ff _ _ h5).append g2⟩)
    .exact n3.elim
   |_=>exact n1.elim
  .exact n.elim
inductive Tg where
 |one (i:Nat)|tup (is:Yg)
def setAll:Yg->Yy->SD->SD
 |i::is,d::ds,sd=>setAll is ds (sd.set i (some (.val d)))
 |_,_,sd=>sd
def Qa:Tg->D->SD->Res SD
 | .one i,d,sd=>.ok (sd.set i (some (.val d)))
 | .tup is,.tup ds,sd=>if ds.length=is.length then .ok (setAll is ds sd) else .no
 |_,_,_=>.no
def Ac:Yg->Yw->St->St
 |i::is,v::vs,Z => Ac is vs (Z.set i (some v))
 |_,_,Z => Z
theorem RS.setAll {K:W.Frag}{B:Bs}{F H:Hp}:∀{is:Yg} {ds:Yy} {vs:Yw} {sd:SD} {Z: St},RS K B F H sd Z -> IsDs K F ds vs->RS K B F H (setAll is ds sd) (Ac is vs Z)
 | [],ds,vs,sd,Z,r,_=>r
 |i::is,[],vs,sd,Z,r,h=>by
  rw[IsDs.nil_iff] at h;subst h;exact r
 |i::is,d::ds,vs,sd,Z,r,h=>by
  rw[IsDs.cons_iff] at h;obtain⟨v,w,rfl,h1,h2⟩:=h;exact RS.setAll (is:=is) (ds:=ds) (vs:=w) (r.setVal (i:=i) h1) h2
def RS.forget {K:W.Frag}{B:Bs}{F H:Hp}{sd sd':SD}{Z: St}(r:RS K B F H sd Z)(hl:sd'.length=sd.length)(h:∀(i:Nat) (x:SV),sd'[i]? = some (some x)->sd[i]? = some (some x)):RS K B F H sd' Z:=
 ⟨r.ext,by rw[r.len,hl],λq=>r.val (h _ _ q),λq=>r.own (h _ _ q),λn q1 q2 q3=>r.apart n (h _ _ q1) (h _ _ q2) q3⟩
def gT:Tg->W.Frag->TG
 | .one i,_=>KM i
 | .tup is,K=>λv Z H Q=>∃a xs,v=.ref a/\SqT K H a xs/\xs.length=is.length/\Q (Ac is xs Z) H
def Ad {K:W.Frag}{tg:Tg}{B:Bs}{F H:Hp}{sd:SD}{Z: St}{d:D}{v:V}{p:SD->Prop}{q:Str->Yy->Prop}{Q:St->Hp->Prop}(r:RS K B F H sd Z)(hi:IsD K F d v)(n:(Qa tg d sd).need p q)
 (h:∀sd' Z',p sd'->Qa tg d sd=.ok sd'->RS K B F H sd' Z'->Q Z' H):gT tg K v Z H Q:=by
 cases tg with
 |one i=>exact h _ _ n rfl (r.setVal hi)
 |tup is =>
  cases d with
  |tup ds =>
   rw[IsD.tup_iff] at hi;obtain⟨a,xs,rfl,h1,h2⟩:=hi;have eb:Qa (.tup is) (.tup ds) sd=if ds.length=is.length then .ok (setAll is ds sd) else .no:=rfl
   by_cases hl:ds.length=is.length
   .rw[Zd hl] at eb;rw[eb] at n;exact⟨a,xs,rfl,(h1.same r.ext.fh).sq,by rw[h2.length,hl],h _ _ n eb (r.setAll h2)⟩
   .rw[Ze hl] at eb;rw[eb] at n;exact n.elim
  |_=>exact n.elim
abbrev QG (X:Cx)(e:Expr)(tg:Tg):Prop:=PG X e (gT tg X.K)
def Walk (K:W.Frag)(F1:Hp)(J:It)(ds:Yy):Prop:=∀(i:Nat) (F2 H2:Hp),Same F1 F2->Same F2 H2 ->
 (i<ds.length->J.go i H2/\∀x H3,J.yld i H2 x H3->∃d F3,ds[i]? = some d/\Ext F2 H2 F3 H3/\IsD K F3 d x)/\(ds.length<=i->J.stop i H2)
def tDI (K:W.Frag)(E:XK)(f:FA):TI:=λZ H R=>∃B F sd,RS K B F H sd Z /\ (f sd).need (λds=>∀J F' H',Ext F H F' H'->Walk K F' J ds->R J H') (XW K E F H)
abbrev QI (X:Cx)(E:XK)(tg iter:Expr)(f:FA):Prop:=PI X tg iter (tDI X.K E f)
def forD (b:D->FS):Yy->FS
 | [],sd=>.ok (.next sd)
 |x::xs,sd=>(b x sd).bind λo=>match o with
  | .next sd'=>forD b xs sd'
  | .cont sd'=>forD b xs sd'
  | .brk sd'=>.ok (.next sd')
  | .ret d=>.ok (.ret d)
def sFor (it:FA)(tg:Tg)(b:FS):FS:=λsd=>(it sd).bind λds=>forD (λx sd=>(Qa tg x sd).bind b) ds sd
def Qj (hp:PassesOwn (model X.prog X.w) X.A X.env X.xe)(hc:X.calm=true)(hi:QI X E tg iter fi)(hg:QG X tg t)(hb:QSs X E m body g)
 (hss:∀x,foldedSetIterable iter X.env x=pure x:=by intro _;rfl):QS X E m (.For tg iter body [] pos) (sFor fi t g):=PS.weak (LD hp hc hi hg hb hss) λT Z H ⟨B,F,sd,r,n⟩=>by
 refine⟨B,F,sd,r,(Res.need_bind n).mono (λds n1 J F1 H1 e1 wk=>?_) λ_ _ q=>q.ext r.ext⟩;refine⟨λi k Z H=>k=ds.length-i/\i<=ds.length/\∃F2 sd,Same F1 F2/\RS X.K B F2 H sd Z /\ (forD (λx sd=>(Qa t x sd).bind g) (ds.drop i) sd).need (zhe X.K m B F2 T) (XW X.K E B.F0 B.H0),
  ⟨ds.length,rfl,Ue _,F1,sd,.refl _,r.step e1,n1.mono (λ_ q=>q.mono e1.ff) λ_ _ q=>q⟩,?_⟩
 rintro i k Z2 H2 ⟨rfl,hi,F2,sd2,s2,r2,n2⟩;obtain⟨w1,w2⟩:=wk i F2 H2 s2 r2.ext.fh;by_cases hlt:i<ds.length
 .obtain⟨go,yl⟩:=w1 hlt;refine .inr ⟨go,λZ' H'=>∃F3 sd3,Same F1 F3/\RS X.K B F3 H' sd3 Z'/\(forD (λx sd=>(Qa t x sd).bind g) (ds.drop (i+1)) sd3).need (zhe X.K m B F3 T) (XW X.K E B.F0 B.H0),
   λZ' H' ⟨F3,sd3,q1,q2,q3⟩=>⟨ds.length-(i+1),(),rfl,hlt,F3,sd3,q1,q2,q3⟩,λx H3 y=>?_⟩
  obtain⟨d,F3,hd,e3,i3⟩:=yl x H3 y;rw[U6 hlt] at n2;have hd':ds[i]=d:=by rw[Zqg hlt] at hd;exact Zqi hd
  rw[hd'] at n2;have r3:=r2.step e3;unfold forD at n2;have n3:=Res.need_bind (Res.need_bind n2);refine Ad r3 i3 n3 λsd' Z' n4 _ r4=>?_;refine⟨B,F3,sd',r4,n4.mono (λo n5=>?_) λ_ _ q=>q⟩;cases o with
  |next sd5=>exact λZ5 F5 H5 s5 r5=>⟨F5,sd5,(s2.trans e3.ff).trans s5,r5,n5.mono (λ_ q=>q.mono (e3.ff.trans s5)) λ_ _ q=>q⟩
  |cont sd5=>exact λZ5 F5 H5 s5 r5=>⟨F5,sd5,(s2.trans e3.ff).trans s5,r5,n5.mono (λ_ q=>q.mono (e3.ff.trans s5)) λ_ _ q=>q⟩
  |brk sd5=>exact λZ5 F5 H5 s5 r5=>n5 Z5 F5 H5 (e3.ff.trans s5) r5
  |ret d=>exact n5
 .have he:i=ds.length:=()
  refine .inl ⟨w2 (),?_⟩;subst he;rw[Vr] at n2;exact n2 Z2 F2 H2 (.refl _) r2
def pinned (i:Nat)(sd:SD):Bool:=match sd[i]? with
 |some (some (.own true _))=>true
 |_=>false
def F9 (i:Nat)(v:SV)(sd:SD):Res Out:=if pinned i sd then .ok (.next (sd.set i (some v))) else .no
def forO (i:Nat)(v:SV)(b:D->FS):Yy->FS
 | [],sd=>F9 i v sd
 |x::xs,sd=>if pinned i sd then(b x sd).bind λo=>match o with
  | .next sd'=>forO i v b xs sd'
  | .cont sd'=>forO i v b xs sd'
  | .brk sd'=>F9 i v sd'
  | .ret d=>.ok (.ret d) else .no
def sForO (i:Nat)(tg:Tg)(b:FS):FS:=λsd=>match sd[i]? with
 |some (some (.own p (.lst ds)))=>forO i (.own p (.lst ds)) (λx sd=>(Qa tg x sd).bind b) ds (sd.set i (some (.own true (.lst ds))))
 |_=>.no
def mapD {α β: Type}(f:α -> Res β):List α -> Res (List β)
 | []=>.ok []
 |x::xs=>(f x).bind λy=>(mapD f xs).bind λys=>.ok (y::ys)
def capD (cap:List (Option Nat))(sd:SD):SD:=cap.map λo=>o.bind λj=>match sd[j]? with
 |some (some (.val d))=>some (.val d)
 |_=>none
def KA (sd:SD)(i:Nat):Bool:=match sd[i]? with
 |some none=>true
 |_=>false
def KB (sd:SD):Tg->Bool
 | .one i=>KA sd i
 | .tup is=>is.all (KA sd)
def Qq (cap:List (Option Nat))(it:FA)(tg:Tg)(f:FE):FE:=λsd=>(it sd).bind λds=>if KB (capD cap sd) tg=true/\ds.length<sizeLine then
 (mapD (λx=>(Qa tg x (capD cap sd)).bind f) ds).bind λys=>.ok (.lst ys) else .no
theorem RS.cap {K:W.Frag}{B:Bs}{F H:Hp}{sd:SD}{Z: St}(cap:List (Option Nat))(r:RS K B F H sd Z):RS K B F H (capD cap sd) (KN cap Z):=by
 have key:∀{i:Nat} {x:SV},(capD cap sd)[i]? = some (some x)->∃j d,cap[i]? = some (some j)/\sd[j]? = some (some (.val d))/\x=.val d:=λ{i x} q=>by
  unfold capD at q;rw[Zv] at q;cases hc:cap[i]? with
  |none=>rw[hc] at q;exact J3 q
  |some o =>
   rw[hc] at q;cases o with
   |none=>cases q
   |some j =>
    have q:(match sd[j]? with
     |some (some (.val d))=>some (SV.val d)
     |_=>none)=some x:=Zqi q
    split at q
    .rename_i d hd;exact⟨j,d,rfl,hd,(Zqi q).symm⟩
    .exact J3 q
 refine⟨r.ext,by unfold capD KN;rw[Zql,Zql],λ{i d} q=>?_,λ{i p d} q=>?_,λ{i j p p' d e l} _ q=>?_⟩
 .obtain⟨j,d',h1,h2,h3⟩:=key q;cases h3;obtain⟨v,v1,v2⟩:=r.val h2;refine⟨v,?_,v2⟩;unfold KN;rw[Zv,h1];show some (Option.bind (some j) λj=>(Z[j]?).join)=_;rw[Option.bind_some,v1];rfl
 .obtain⟨j,d',h1,h2,h3⟩:=key q;cases h3
 .obtain⟨j,d',h1,h2,h3⟩:=key q;cases h3
theorem BV:∀(is:Yg) (ds:Yy) (sd0 sd:SD),is.all (KA sd0)=true->sd.length=sd0.length->(∀(i:Nat) (x:SV),sd0[i]? = some (some x)->sd[i]? = some (some x)) ->
 (setAll is ds sd).length=sd0.length/\∀(i:Nat) (x:SV),sd0[i]? = some (some x)->(setAll is ds sd)[i]? = some (some x)
 | [],ds,sd0,sd,_,hl,h=>⟨hl,h⟩
 |i::is,[],sd0,sd,_,hl,h=>⟨hl,h⟩
 |i::is,d::ds,sd0,sd,hn,hl,h=>by
  rw[Uz,Uc] at hn;refine BV is ds sd0 (sd.set i (some (.val d))) hn.2 (by rw[UQ,hl]) λj x q=>?_;have ne:i≠j:=λz=>by
   subst z;have:=hn.1;unfold KA at this;rw[q] at this;exact JB this
  rw[Q0 ne];exact h j x q
def BW (hn:KB sd0 tg=true)(h:Qa tg d sd0=.ok sd):sd0.length=sd.length/\∀(i:Nat) (x:SV),sd0[i]? = some (some x)->sd[i]? = some (some x):=by
 cases tg with
 |one i =>
  cases h;have:=BV [i] [d] sd0 sd0 (by rw[Uz,List.all_nil,Bool.and_true];exact hn) rfl λ_ _ q=>q;exact⟨this.1.symm,this.2⟩
 |tup is =>
  cases d with
  |tup ds =>
   have eb:Qa (.tup is) (.tup ds) sd0=if ds.length=is.length then .ok (setAll is ds sd0) else .no:=rfl
   rw[eb] at h
   split at h
   .cases h;have:=BV is ds sd0 sd0 hn rfl λ_ _ q=>q;exact⟨this.1.symm,this.2⟩
   .cases h
  |_=>cases h
def FB {α β: Type}{f:α -> Res β}{xs:List α}{x:α}{p:List β -> Prop}(hx:xs[i]? = some x)(h:(mapD f (xs.drop i)).need p q):(f x).need (λy=>(mapD f (xs.drop (i+1))).need (λys=>p (y::ys)) q) q:=by
 have hlt:i<xs.length:=(Jb.mp hx).1;rw[U6 hlt] at h;have e:xs[i]=x:=by rw[Zqg hlt] at hx;exact Zqi hx
 rw[e] at h;unfold mapD at h;refine(Res.need_bind h).mono (λy h1=>?_) λ_ _ z=>z;exact(Res.need_bind h1).mono (λys h2=>h2) λ_ _ z=>z
def FC {K:W.Frag}{t:Tg}{fi:FA}{f:FE}{cap:List (Option Nat)}{Z: St}{H:Hp}{Q:VK}(hh:tDN K E (Qq cap fi t f) Z H Q):WV cap (tDI K E fi) (gT t K) (tD K E f) Z H Q:=by
 obtain⟨B,F,sd,r,n⟩:=hh;refine⟨B,F,sd,r,(Res.need_bind n).mono (λds n1 J F1 H1 e1 wk=>?_) λ_ _ q=>q⟩
 split at n1
 .rename_i hh;obtain⟨hn,hz⟩:=hh;refine⟨λi k ys Z H2=>k=ds.length-i/\i<=ds.length/\∃F2 es,Ext F1 H1 F2 H2/\RS K B F2 H2 (capD cap sd) Z /\ IsDs K F2 es ys/\es.length=i /\
   (mapD (λx=>(Qa t x (capD cap sd)).bind f) (ds.drop i)).need (λrs=>OkN K F2 H2 Q (.lst (es++rs))) (XW K E F2 H2),⟨ds.length,rfl,Ue _,F1,[],.refl e1.fh,(r.step e1).cap cap,.nil,rfl,?_⟩,?_⟩
  .exact(Res.need_bind n1).mono (λrs q=>(show OkN K F H Q (.lst rs) from q).ext e1) λ_ _ q=>q.ext e1
  rintro i k ys Z2 H2 ⟨rfl,hi,F2,es,e2,r2,i2,hl,n2⟩;have ly:=i2.length;refine⟨(),?_⟩;obtain⟨w1,w2⟩:=wk i F2 H2 e2.ff e2.fh;by_cases hlt:i<ds.length
  .obtain⟨go,yl⟩:=w1 hlt;refine .inr ⟨go,λx H3 y=>?_⟩;obtain⟨d,F3,hd,e3,i3⟩:=yl x H3 y;have n3:=FB hd n2;have r3:=r2.step e3;refine Ad (K:=K) r3 i3 (Res.need_bind n3) λsd' Z' n4 hb r4=>?_;obtain⟨b1,b2⟩:=BW hn hb;refine⟨B,F3,sd',r4,n4.mono (λy n5 v F4 H4 e4 i4=>?_) λ_ _ q=>q.ext e3⟩;refine⟨ds.length-(i+1),(),rfl,hlt,F4,es++[y],(e2.trans e3).trans e4,(r4.step e4).forget b1 b2,(IsDs.same (e3.ff.trans e4.ff) _ _ i2).snoc i4,by rw[Ub,hl];rfl,?_⟩;refine n5.mono (λrs q=>?_) λ_ _ q=>q.ext (e3.trans e4);rw[UC];exact q.ext (e3.trans e4)
  .have he:i=ds.length:=()
   subst he;refine .inl ⟨w2 (Zf _),λD hD=>?_⟩;rw[Vr] at n2;have q:OkN K F2 H2 Q (.lst (es++[])):=n2;rw[ZA] at q;exact q D F2 _ (.keep r2.ext.fh hD _) hD (Qv r2.ext.fh hD) ⟨ys,JL,i2⟩
 .exact n1.elim
def QM (N:Yh)(cap:List (Option Nat))(hc:X.calm=true)(okB:QQ scope X.env N X.N cap=true)(hi:QI X E tg iter fi)
 (hg:∀cl C s H ex,QG (JI X scope N cl C s H ex) tg t) (he:∀cl C s H ex,QE (JI X scope N cl C s H ex) E elt f) (hs:∀x,foldedSetIterable iter X.env x=pure x:=by intro _;rfl):
 QN X E (.ListComp elt [⟨tg,iter,[],0⟩] scope pos) (Qq cap fi t f):=PE.weak (Ni (g:=gT t X.K) (te:=tD X.K E f) N cap hc okB hi hg he hs) λ_ _ _ h=>FC h
def Q5 (n:Nat)(ds:Yy):SD:=ds.map (λd=>some (.val d))++List.replicate (n-ds.length) none
def runD (n ar:Nat)(g:FS)(ds:Yy):Res D:=if ds.length=ar then(g (Q5 n ds)).bind λo=>match o with
 | .ret d=>.ok d
 | .next _=>.ok .non
 |_=>.no else .no
def runN (n ar:Nat)(g:FS)(ds:Yy):Res D:=if ds.length=ar then(g (Q5 n ds)).bind λo=>match o with
 | .ret d=>.ok d
 |_=>.no else .no
theorem RS.start {K:W.Frag}{F H:Hp}{N:Yh}{ds:Yy}{vs:Yw}(s:Same F H)(h:IsDs K F ds vs):RS K ⟨F,H,λ_=>none⟩ F H (Q5 N.length ds) (start N vs):=by
 have key:∀{i:Nat} {x:SV},(Q5 N.length ds)[i]? = some (some x)->∃d,ds[i]? = some d/\x=.val d:=λ{i x} q=>by
  unfold Q5 at q;by_cases hi:i<ds.length
  .rw[Vf (by rw[Zql];exact hi),Zv,Zqg hi] at q;exact⟨ds[i],Zqg hi,(Zqi (Zqi q)).symm⟩
  .rw[Ve (by rw[Zql];omega),List.getElem?_replicate] at q
   split at q<;>(first|exact J3 q|cases q)
 refine⟨.refl s,by unfold Q5 L2.start;simp[h.length],λ{i d} q=>?_,λ{i p d} q=>?_,λ{i j p p' d e l} _ q=>?_⟩
 .obtain⟨d',h1,h2⟩:=key q;cases h2;obtain⟨v,v1,v2⟩:=h.get h1;refine⟨v,?_,v2⟩;unfold L2.start;rw[Vf (by rw[Zql];exact(Jb.mp v1).1),Zv,v1];rfl
 .obtain⟨_,_,h2⟩:=key q;cases h2
 .obtain⟨_,_,h2⟩:=key q;cases h2
section
variable {P:Program}{w:World}{K:W.Frag}{mg:Yc}{base:Heap}{x qual:Str}{f:Addr}{fd:FuncData}{N ps:Yh}{k:Nat}
def fn_d (F:Fun K x qual st f fd)(S:FnScope N ps (JD st))
 (hb:∀(cdv:Value) (A:Around) (outer:List Env) (s:Shared) (H:Hp) (E:XK),Room k (A.deeper (envOfC qual (JD st) s.heap.objs.size f cdv))->QSs (cxOf CX0 P w K mg base N qual (JD st) f cdv A outer s H E).nox E0 false (V2 st) g):
 FnOk P w K mg base CX0 (k+1) f fd ps (SpD K (runD N.length ps.length g)):=by
 refine F.ok S (λvs H Q E ⟨F,ds,_,h,n⟩=>?_) λcdv A outer s H vs Q E hr ⟨F,ds,hs,h,n⟩=>⟨_,hb cdv A outer s H E hr,?_⟩
 .unfold runD at n
  split at n
  .rw[h.length];assumption
  .exact n.elim
 .unfold runD at n
  split at n
  .refine⟨⟨F,H,λ_=>none⟩,F,_,RS.start hs h,(Res.need_bind n).mono (λo n1=>?_) λ_ _ q=>q⟩;cases o with
   |next sd=>exact λZ F' H' _ r=>n1 .non F' H' r.ext (IsD.non_iff.mpr rfl)
   |ret d=>exact n1
   |brk sd=>exact n1.elim
   |cont sd=>exact n1.elim
  .exact n.elim
def fn_n (F:Fun K x qual st f fd)(S:FnScope N ps (JD st))
 (hb:∀(cdv:Value) (A:Around) (outer:List Env) (s:Shared) (H:Hp) (E:XK),Room k (A.deeper (envOfC qual (JD st) s.heap.objs.size f cdv))->QSs (cxOf CX0 P w K mg base N qual (JD st) f cdv A outer s H E).nox E0 true (V2 st) g):
 FnOk P w K mg base CX0 (k+1) f fd ps (SpN K (runN N.length ps.length g)):=by
 refine F.ok S (λvs H Q E ⟨F,ds,_,h,n⟩=>?_) λcdv A outer s H vs Q E hr ⟨F,ds,hs,h,n⟩=>⟨_,hb cdv A outer s H E hr,?_⟩
 .unfold runN at n
  split at n
  .rw[h.length];assumption
  .exact n.elim
 .unfold runN at n
  split at n
  .refine⟨⟨F,H,λ_=>none⟩,F,_,RS.start hs h,(Res.need_bind n).mono (λo n1=>?_) λ_ _ q=>q⟩;cases o with
   |next sd=>exact n1.elim
   |ret d=>exact n1
   |brk sd=>exact n1.elim
   |cont sd=>exact n1.elim
  .exact n.elim
end
end
def prD (p:Int×Int):D:=.tup [.int p.1,.int p.2]
def rwD (r:Jx):D:=.tup (r.map prD)
def XU:D->Option (Int×Int)
 | .tup [.int i,.int j]=>some (i,j)
 |_=>none
def Qh {α: Type}(f:D->Option α):Yy->Option (List α)
 | []=>some []
 |d::ds=>(f d).bind λx=>(Qh f ds).map λxs=>x::xs
def Kj:D->Option Jx
 | .tup ds=>Qh XU ds
 |_=>none
def Xc:D->Option Int
 | .int i=>some i
 |_=>none
theorem Xd {α β: Type}{f:D->Option α}{g:β -> D}{k:β -> α}(h:∀x,f (g x)=some (k x)):∀l:List β,Qh f (l.map g)=some (l.map k)
 | []=>rfl
 |x::r=>by rw[Zl];unfold Qh;rw[h,Xd h r];rfl
theorem XV {α: Type}{f:D->Option α}{g:α -> D}(h:∀d x,f d=some x->d=g x):∀{ds:Yy} {l:List α},Qh f ds=some l->ds=l.map g
 | [],l,e=>by cases e;rfl
 |d::ds,l,e=>by
  unfold Qh at e;cases h1:f d with
  |none=>rw[h1] at e;exact J3 e
  |some x =>
   cases h2:Qh f ds with
   |none=>rw[h1,h2] at e;exact J3 e
   |some xs =>
    rw[h1,h2] at e;obtain rfl:=Zqi e;rw[Zl,<- h d x h1,<- XV h h2]
def NK (p:Int×Int):XU (prD p)=some p:=rfl
def NL (h:XU d=some p):d=prD p:=by
 cases d with
 |tup ds =>
  cases ds with
  |nil=>exact J3 h
  |cons x ds =>
   cases x with
   |int i =>
    cases ds with
    |nil=>exact J3 h
    |cons y ds =>
     cases y with
     |int j =>
      cases ds with
      |nil=>obtain rfl:=Zqi h;rfl
      |cons _ _=>exact J3 h
     |_=>exact J3 h
   |_=>exact J3 h
 |_=>exact J3 h
def Ae (r:Jx):Kj (rwD r)=some r:=by
 show Qh XU (r.map prD)=some r;rw[Xd (k:=id) NK,List.map_id]
def FF (h:Kj d=some r):d=rwD r:=by
 cases d with
 |tup ds=>unfold rwD;rw[<- XV (λ_ _=>NL) (show Qh XU ds=some r from h)]
 |_=>exact J3 h
def NM (h:Xc d=some i):d=.int i:=by
 cases d with
 |int j=>cases h;rfl
 |_=>exact J3 h
def NN (h:Qh Xc ds=some l):ds=l.map D.int:=XV (λ_ _=>NM) h
def NO (l:Ye):Qh Xc (l.map D.int)=some l:=by
 have h:=Xd (f:=Xc) (g:=D.int) (k:=λi:Int=>i) (λ_=>rfl) l;rw[h,List.map_id']
def XX (l:Jy):Qh Kj (l.map rwD)=some l:=by rw[Xd (k:=id) Ae,List.map_id]
def BX (h:Qh Kj ds=some l):ds=l.map rwD:=XV (λ_ _=>FF) h
section
variable {K:W.Frag}{H:Hp}
def zqg:IsD K H (prD p) v↔Is H (pD p) v:=by
 rw[zgi];unfold prD;rw[IsD.tup_iff];constructor
 .rintro⟨a,xs,rfl,h1,h2⟩;have:xs=[p.1,p.2].map V.int:=IsDs.ints_iff (ns:=[p.1,p.2]) h2;subst this;exact⟨a,rfl,h1⟩
 .rintro⟨a,rfl,h1⟩;exact⟨a,_,rfl,h1,IsDs.ints [p.1,p.2]⟩
theorem zfn:∀{r:Jx} {xs:Yw},IsDs K H (r.map prD) xs↔zau H (r.map pD) xs
 | [],xs=>by rw[Uu,Uu,IsDs.nil_iff];unfold zau;exact Iff.rfl
 |p::r,xs=>by
  rw[Zl,Zl,IsDs.cons_iff];constructor
  .rintro⟨x,w,rfl,h1,h2⟩;unfold zau;exact⟨x,w,rfl,zqg.mp h1,zfn.mp h2⟩
  .intro h;unfold zau at h;obtain⟨x,w,e,h1,h2⟩:=h;exact⟨x,w,e,zqg.mpr h1,zfn.mpr h2⟩
def zsT:IsD K H (rwD r) v↔Is H (rD r) v:=by
 unfold rwD rD;rw[IsD.tup_iff,Is.tuple_iff];constructor
 .rintro⟨a,xs,e,h1,h2⟩;exact⟨a,xs,e,h1,zfn.mp h2⟩
 .rintro⟨a,xs,e,h1,h2⟩;exact⟨a,xs,e,h1,zfn.mpr h2⟩
theorem zcP:∀{r:Jy} {xs:Yw},IsDs K H (r.map rwD) xs↔zau H (r.map rD) xs
 | [],xs=>by rw[Uu,Uu,IsDs.nil_iff];unfold zau;exact Iff.rfl
 |p::r,xs=>by
  rw[Zl,Zl,IsDs.cons_iff];constructor
  .rintro⟨x,w,rfl,h1,h2⟩;unfold zau;exact⟨x,w,rfl,zsT.mp h1,zcP.mp h2⟩
  .intro h;unfold zau at h;obtain⟨x,w,e,h1,h2⟩:=h;exact⟨x,w,e,zsT.mpr h1,zcP.mpr h2⟩
end
section
variable {X:Cx}{E:XK}
def gI (f:Int->Int->D):D->D->Yz
 | .int i,.int j=>some (f i j)
 |_,_=>none
def gIc (c:Int->Int->Bool)(f:Int->Int->D):D->D->Yz
 | .int i,.int j=>if c i j then some (f i j) else none
 |_,_=>none
def XY (o:OpR X h (rI0 g))(hg:∀i j F,IsD X.K F (f i j) (g i j)):OpD X h (gI f):=OpR.weak o λx y H Q ⟨F,d,e,z,sF,id,ie,hz,q⟩=>by
 cases d with
 |int i =>
  cases e with
  |int j=>cases hz;exact⟨i,j,IsD.int_iff.mp id,IsD.int_iff.mp ie,q _ F H (.refl sF) (hg i j F)⟩
  |_=>exact J3 hz
 |_=>exact J3 hz
def Af (o:OpR X h (rI C g))(hc:∀i j,c i j=true->C i j)(hg:∀i j F,IsD X.K F (f i j) (g i j)):OpD X h (gIc c f):=OpR.weak o λx y H Q ⟨F,d,e,z,sF,id,ie,hz,q⟩=>by
 cases d with
 |int i =>
  cases e with
  |int j =>
   have hz:(if c i j then some (f i j) else none)=some z:=hz
   split at hz
   .rename_i hcc;cases hz;exact⟨i,j,IsD.int_iff.mp id,IsD.int_iff.mp ie,hc i j hcc,q _ F H (.refl sF) (hg i j F)⟩
   .exact J3 hz
  |_=>exact J3 hz
 |_=>exact J3 hz
def isI (i:Int)(F:Hp):IsD X.K F (.int i) (.int i):=IsD.int_iff.mpr rfl
def isB (b:Bool)(F:Hp):IsD X.K F (.bl b) (.bl b):=IsD.bl_iff.mpr rfl
def gSub:=gI λi j=>.int (i-j)
def bigB:Nat:=10715086071862673209484250490600018105614048117055336074437503883703510511249361224931983788156958581275946729175531468251871452856923140435984577574698574803934567774824230985421074605062371141877954182153046474983581941267398767559165543946077062914571196477686542167660429831652624386837205668069376
def Kp (i j:Int):Bool:=(UI i.natAbs 18446744073709551616||UI j.natAbs 18446744073709551616)||(UI i.natAbs bigB&&UI j.natAbs bigB)
def FI (h:k.natAbs<bigB):Builtin.Int.intBits k<=2 ^ 20:=by
 have e:bigB<=2 ^ 1000:=Nat.le_of_ble_eq_true rfl;have hn:k.natAbs<2 ^ 1000:=Zg h e;unfold Builtin.Int.intBits
 split
 .exact Ue _
 .have l:k.natAbs.log2<1000:=by
   rcases VQ k.natAbs with h0|hp
   .rw[h0];decide
   .exact(Nat.log2_lt (U1 hp)).mpr hn
  have e:(2:Nat) ^ 20=1048576:=by decide
  omega
def NP (h:Kp i j=true):IntMulOk i j:=by
 unfold Kp at h;rw[UU,UU,Uc,Uv,Uv,Uv,Uv] at h;rcases h with (h|h)|⟨h1,h2⟩
 .exact .of_left (intBits_le_64 () ())
 .exact .of_right (intBits_le_64 () ())
 .exact .of_bits (FI h1) (FI h2)
def NQ:OpR X (binaryOp .Mult) (rI (λi j=>Kp i j=true) λi j=>.int (i*j)):=opI λ_ _ _ _ _ _ _ hc q=>mul_int q (NP hc)
def gMul:=gIc Kp λi j=>.int (i*j)
def Kq:=gIc (λ_ j=>UI 0 j.toNat&&UI j.toNat 1073741824) λi j=>.int (i / j)
def gMod:=gIc (λ_ j=>UI 0 j.toNat) λi j=>.int (i % j)
def gPow:=gIc (λi j=>Nat.ble (-j).toNat 0&&(Nat.ble j.toNat 1000000&&UI i.natAbs 18446744073709551616)) λi j=>.int (i ^ j.toNat)
def gLt:=gI λi j=>.bl (decide (i<j))
def gLe:=gI λi j=>.bl (decide (i<=j))
def gGt:=gI λi j=>.bl (decide (j<i))
def gGe:=gI λi j=>.bl (decide (j<=i))
def Ag:OpD X (binaryOp .Sub) gSub:=XY LG λ_ _ F=>isI _ F
def Ah:OpD X (binaryOp .Mult) gMul:=Af NQ (λi j h=>h) λ_ _ F=>isI _ F
def V9:OpD X (binaryOp .FloorDiv) Kq:=Af LH (λi j h=>by rw[Uc,Uv,Uv] at h;unfold CDiv;omega) λ_ _ F=>isI _ F
def Q9:OpD X (binaryOp .Mod) gMod:=Af LI (λi j h=>by rw[Uv] at h;omega) λ_ _ F=>isI _ F
def FJ:OpD X (binaryOp .Pow) gPow:=Af LJ (λi j h=>by rw[Uc,Uc,Vs,Vs,Uv] at h;unfold CPow;omega) λ_ _ F=>isI _ F
def o_lt:OpD X (compareOp .Lt) gLt:=XY op_lt λ_ _ F=>isB _ F
def o_le:OpD X (compareOp .LtE) gLe:=XY op_le λ_ _ F=>isB _ F
def o_gt:OpD X (compareOp .Gt) gGt:=XY op_gt λ_ _ F=>isB _ F
def o_ge:OpD X (compareOp .GtE) gGe:=XY op_ge λ_ _ F=>isB _ F
def gNeg:D->Yz
 | .int i=>some (.int (-i))
 |_=>none
def Ai:UnR X (unaryOp .USub) (rD1 X.K gNeg):=UnR.weak LK λx H Q ⟨F,d,z,sF,id,hz,q⟩=>by
 cases d with
 |int i=>cases hz;exact⟨i,IsD.int_iff.mp id,q _ F H (.refl sF) (isI _ F)⟩
 |_=>exact J3 hz
def gAdd:D->D->Yz
 | .int i,.int j=>some (.int (i+j))
 | .str x,.str y=>if x.length+y.length<=sizeLine then some (.str (x++y)) else none
 | .tup a,.tup b=>if a ≠ []/\b ≠ []/\a.length+b.length<=sizeLine then some (.tup (a++b)) else none
 | .lst a,.lst b=>if a.length+b.length<=sizeLine then some (.lst (a++b)) else none
 |_,_=>none
def rCat' (K:W.Frag):R2:=λx y H Q=>∃l b xs zs,x=.ref l/\y=.ref b/\LstD K H l xs/\LstD K H b zs/\xs.length+zs.length<=sizeLine/\∀p,H p=none->Q (.ref p) (upd H p (.lst (xs++zs)))
def FK:OpR X (binaryOp .Add) (rCat' X.K):=by
 intro Y s Z H x y v u Q I rx ry h;obtain⟨l,b,xs,zs,rfl,rfl,hl,hb,hz,q⟩:=h;obtain rfl:v=Value.ref l:=rx;obtain rfl:u=Value.ref b:=ry;obtain⟨_,its,n,r1,e1⟩:=hl.ok I.hok;obtain⟨_,its2,n2,r2,e2⟩:=hb.ok I.hok;have hl1:=r1.length;have hl2:=r2.length;refine PySem.P.add_list e1 e2 ?_ (by rw[Zm,Zm];omega);have ea:its.toArray++its2.toArray=(its++its2).toArray:=by simp
 rw[ea];exact⟨.ref _,_,I.lnew (t':=s.toks) (r1.append r2) (by rw[Ub];omega),rfl,q _ I.fresh⟩
def Qr:OpD X (binaryOp .Add) gAdd:=by
 intro Y s Z H x y v u Q I rx ry ⟨F,d,e,z,sF,id,ie,hz,q⟩;cases d with
 |int i =>
  cases e with
  |int j=>cases hz;exact LF Y s Z H x y v u Q I rx ry ⟨i,j,IsD.int_iff.mp id,IsD.int_iff.mp ie,q _ F H (.refl sF) (isI _ F)⟩
  |_=>exact J3 hz
 |str a =>
  cases e with
  |str b =>
   have hz:(if a.length+b.length<=sizeLine then some (D.str (a++b)) else none)=some z:=hz
   split at hz
   .rename_i hl;cases hz;exact LP Y s Z H x y v u Q I rx ry ⟨a,b,IsD.str_iff.mp id,IsD.str_iff.mp ie,hl,q _ F H (.refl sF) (IsD.str_iff.mpr rfl)⟩
   .exact J3 hz
  |_=>exact J3 hz
 |tup a =>
  cases e with
  |tup b =>
   have hz:(if a ≠ []/\b ≠ []/\a.length+b.length<=sizeLine then some (D.tup (a++b)) else none)=some z:=hz
   split at hz
   .rename_i hl;obtain rfl:=Zqi hz;rw[IsD.tup_iff] at id ie;obtain⟨la,xs,rfl,h1,h2⟩:=id;obtain⟨lb,ys,rfl,h3,h4⟩:=ie;have l1:=h2.length;have l2:=h4.length;have x0:xs ≠ []:=λz=>hl.1 (Jf.mp (by rw[<- l1,z];rfl));have y0:ys ≠ []:=λz=>hl.2.1 (Jf.mp (by rw[<- l2,z];rfl));refine Mz Y s Z H _ _ v u Q I rx ry ⟨la,lb,xs,ys,rfl,rfl,(h1.same sF).sq,(h3.same sF).sq,x0,by have:=hl.2.2;omega,λz=>Zn z y0,λ_ p hp=>?_⟩;have ea:=Ext.alloc sF hp (.tup (xs++ys));exact q _ _ _ ea (IsD.tup_iff.mpr ⟨p,_,rfl,.of JL,IsDs.same ea.ff _ _ (h2.append h4)⟩)
   .exact J3 hz
  |_=>exact J3 hz
 |lst a =>
  cases e with
  |lst b =>
   have hz:(if a.length+b.length<=sizeLine then some (D.lst (a++b)) else none)=some z:=hz
   split at hz
   .rename_i hl;obtain rfl:=Zqi hz;rw[IsD.lst_iff] at id ie;obtain⟨la,xs,rfl,h1,h2⟩:=id;obtain⟨lb,ys,rfl,h3,h4⟩:=ie;have l1:=h2.length;have l2:=h4.length;refine FK Y s Z H _ _ v u Q I rx ry ⟨la,lb,xs,ys,rfl,rfl,h1.same sF,h3.same sF,(),λp hp=>?_⟩;have ea:=Ext.alloc sF hp (.lst (xs++ys));exact q _ _ _ ea (IsD.lst_iff.mpr ⟨p,_,rfl,.of JL,IsDs.same ea.ff _ _ (h2.append h4)⟩)
   .exact J3 hz
  |_=>exact J3 hz
 |_=>exact J3 hz
mutual
def toPy:D->PyData
 | .non=>.none
 | .bl b=>.bool b
 | .int i=>.int i
 | .str x=>.str x
 | .tup ds=>.tuple (KQ ds)
 | .lst ds=>.list (KQ ds)
 | .ty _=>.none
 | .scr _=>.none
 | .dct _ _=>.none
 | .ins _ _ _=>.none
 | .exc _=>.none
 | .ucl _=>.none
 | .adr _=>.none
 | .dcf _ _=>.none
 | .pin _ _=>.none
def KQ:Yy->List PyData
 | []=>[]
 |d::ds=>toPy d::KQ ds
end
def plN:Nat->D->Bool
 | 0,_=>false
 |_+1,.int _=>true
 |_+1,.str x=>PyData.strOk x
 |_+1,.non=>true
 |n+1,.tup ds=>ds.all (plN n)
 |n+1,.lst ds=>ds.all (plN n)
 |_+1,_=>false
def Xe:∀(n:Nat) (d:D),plN n d=true->(toPy d).canLay0=true/\(toPy d).depth<=n:=λn=>by
 induction n with
 |zero=>intro _ h;exact JB h
 |succ n ihn =>
  intro d h;have all:∀ds:Yy,ds.all (plN n)=true->PyData.canLayAll0 (KQ ds)=true/\PyData.depthAll (KQ ds)<=n:=by
   intro ds
   induction ds with
   |nil=>intro _;exact⟨rfl,Ue _⟩
   |cons d ds ih =>
    intro h;rw[Uz,Uc] at h;obtain⟨h1,h2⟩:=ihn d h.1;obtain⟨h3,h4⟩:=ih h.2;exact⟨Jp.mpr ⟨h1,h3⟩,Nat.max_le.mpr ⟨h2,h4⟩⟩
  cases d with
  |int i=>exact⟨rfl,Ue _⟩
  |str i=>exact⟨h,Ue _⟩
  |non=>exact⟨rfl,Ue _⟩
  |tup ds=>exact⟨(all ds h).1,VR (all ds h).2⟩
  |lst ds=>exact⟨(all ds h).1,VR (all ds h).2⟩
  |_=>exact JB h
def D.ne {d e:D}(h:(d.ctorIdx == e.ctorIdx)=false):¬d=e:=λq=>by
 rw[q,beq_self_eq_true] at h;cases  h
def BY:∀(n:Nat) (d e:D),plN n d=true->plN n e=true->(PyData.eqv (toPy d) (toPy e)=true↔d=e):=λn=>by
 induction n with
 |zero=>intro _ _ h;exact JB h
 |succ n ihn =>
  intro d e h h';have all:∀ds es:Yy,ds.all (plN n)=true->es.all (plN n)=true->(PyData.eqvAll (KQ ds) (KQ es)=true↔ds=es):=by
   intro ds
   induction ds with
   |nil =>
    intro es _ _;cases es with
    |nil=>exact iff_of_true rfl rfl
    |cons e es=>exact Zs Zj (λq=>List.cons_ne_nil _ _ q.symm)
   |cons d ds ih =>
    intro es h1 h2;cases es with
    |nil=>exact Zs Zj (List.cons_ne_nil _ _)
    |cons e es =>
     rw[Uz,Uc] at h1 h2;show(PyData.eqv (toPy d) (toPy e)&&PyData.eqvAll (KQ ds) (KQ es))=true↔_;rw[Bool.and_eq_true_iff,ihn d e h1.1 h2.1,ih es h1.2 h2.2,List.cons.injEq]
  cases d with
  |int i =>
   cases e with
   |int j=>exact⟨λq=>Zt D.int (Yo.mp q),λq=>Yo.mpr (D.int.inj q)⟩
   |str _=>exact Zs Zj (D.ne rfl)
   |non=>exact Zs Zj (D.ne rfl)
   |tup _=>exact Zs Zj (D.ne rfl)
   |lst _=>exact Zs Zj (D.ne rfl)
   |_=>exact JB h'
  |str i =>
   cases e with
   |str j=>exact⟨λq=>Zt D.str (of_decide_eq_true q),λq=>Zp (D.str.inj q)⟩
   |int _=>exact Zs Zj (D.ne rfl)
   |non=>exact Zs Zj (D.ne rfl)
   |tup _=>exact Zs Zj (D.ne rfl)
   |lst _=>exact Zs Zj (D.ne rfl)
   |_=>exact JB h'
  |non =>
   cases e with
   |non=>exact iff_of_true rfl rfl
   |int _=>exact Zs Zj (D.ne rfl)
   |str _=>exact Zs Zj (D.ne rfl)
   |tup _=>exact Zs Zj (D.ne rfl)
   |lst _=>exact Zs Zj (D.ne rfl)
   |_=>exact JB h'
  |tup ds =>
   cases e with
   |tup es=>exact(all ds es h h').trans ⟨λq=>Zt D.tup q,λq=>D.tup.inj q⟩
   |int _=>exact Zs Zj (D.ne rfl)
   |str _=>exact Zs Zj (D.ne rfl)
   |non=>exact Zs Zj (D.ne rfl)
   |lst _=>exact Zs Zj (D.ne rfl)
   |_=>exact JB h'
  |lst ds =>
   cases e with
   |lst es=>exact(all ds es h h').trans ⟨λq=>Zt D.lst q,λq=>D.lst.inj q⟩
   |int _=>exact Zs Zj (D.ne rfl)
   |str _=>exact Zs Zj (D.ne rfl)
   |non=>exact Zs Zj (D.ne rfl)
   |tup _=>exact Zs Zj (D.ne rfl)
   |_=>exact JB h'
  |_=>exact JB h
theorem WE {P:Program}{w:World}{K:W.Frag}{H:Hp}{h:Heap}(ok:HOk P w H h):∀(n:Nat) (d:D) (v:V) (u:Value),plN n d=true->IsD K H d v->RelV v u->∃as,Reads h u (toPy d) as
 | 0,_,_,_,p,_,_=>by exact JB p
 |n+1,d,v,u,p,q,r=>by
  have all:∀(ds:Yy) (xs:Yw) (us:Yd),ds.all (plN n)=true->IsDs K H ds xs->Vals xs us->∃as,ReadsAll h us (KQ ds) as:=by
   intro ds
   induction ds with
   |nil =>
    intro xs us _ h1 h2;rw[IsDs.nil_iff] at h1;subst h1;cases h2;exact⟨_,.nil⟩
   |cons d ds ih =>
    intro xs us hp h1 h2;rw[Uz,Uc] at hp;rw[IsDs.cons_iff] at h1;obtain⟨x,rs,rfl,h3,h4⟩:=h1;cases h2 with
    |cons r1 r2 =>
     obtain⟨as,ra⟩:=WE ok n d x _ hp.1 h3 r1;obtain⟨bs,rb⟩:=ih rs _ hp.2 h4 r2;exact⟨_,.cons ra rb⟩
  cases d with
  |int i =>
   rw[IsD.int_iff] at q;subst q;obtain⟨t,rfl⟩:=(show ∃t,u=Value.int i t from r);exact⟨_,.int i t⟩
  |str x =>
   rw[IsD.str_iff] at q;subst q;obtain⟨t,rfl⟩:=(show ∃t,u=Value.str x t from r);exact⟨_,.str x t⟩
  |non =>
   rw[IsD.non_iff] at q;subst q;obtain rfl:u=Value.none:=r;exact⟨_,.none⟩
  |tup ds =>
   rw[IsD.tup_iff] at q;obtain⟨a,xs,rfl,h2,h3⟩:=q;obtain rfl:u=Value.ref a:=r;obtain⟨_,its,rv,o,e,c,n',dt⟩:=(show zbj P w H h a (.tup xs) from ok a _ h2);obtain⟨as,ra⟩:=all ds xs its p h3 rv;exact⟨_,.tuple e c dt (by simpa using ra)⟩
  |lst ds =>
   rw[IsD.lst_iff] at q;obtain⟨a,xs,rfl,h2,h3⟩:=q;obtain rfl:u=Value.ref a:=r;obtain⟨_,its,n',rv,e⟩:=h2.ok ok;obtain⟨as,ra⟩:=all ds xs its p h3 rv;exact⟨_,.list e rfl rfl (by simpa using ra)⟩
  |_=>exact JB p
noncomputable section
open Classical
def sameD (d e:D):Bool:=decide (d=e)
def Kr (d:D):sameD d d=true:=Zp rfl
def zeA:sameD d e=true↔d=e:=decide_eq_true_iff
def zcl:sameD d e=false↔d≠e:=decide_eq_false_iff_not
def gEq:D->D->Yz
 | .bl a,.bl b=>some (.bl (a == b))
 |d,e=>if plN 12 d&&plN 12 e then some (.bl (sameD d e)) else none
def gNe:D->D->Yz
 | .bl a,.bl b=>some (.bl (a != b))
 |d,e=>if plN 12 d&&plN 12 e then some (.bl (!sameD d e)) else none
end
def Wq (h1:plN 12 d=true)(h2:plN 12 e=true):gEq d e=some (.bl (sameD d e)):=by
 unfold gEq
 split
 .exact JB h1
 .rw[h1,h2];rfl
def Wr (h1:plN 12 d=true)(h2:plN 12 e=true):gNe d e=some (.bl (!sameD d e)):=by
 unfold gNe
 split
 .exact JB h1
 .rw[h1,h2];rfl
def NR (i j:Int):gEq (.int i) (.int j)=some (.bl (decide (i=j))):=by
 rw[Wq rfl rfl]
 congr 2
 by_cases h:i=j
 .rw[Zp h,h,Kr]
 .rw[Zo h,zcl.mpr λz=>h (by injection z)]
def NS (i j:Int):gNe (.int i) (.int j)=some (.bl (!decide (i=j))):=by
 rw[Wr rfl rfl]
 congr 3
 by_cases h:i=j
 .rw[Zp h,h,Kr]
 .rw[Zo h,zcl.mpr λz=>h (by injection z)]
def o_eq (hu:X.A.units+64<cLine):OpD X (compareOp .Eq) gEq:=by
 intro Y s Z H x y v u Q I rx ry ⟨F,d,e,z,sF,id,ie,hz,q⟩;unfold gEq at hz
 split at hz
 .rename_i a b;obtain rfl:=Zqi hz;refine op_eq Y s Z H x y v u Q I rx ry ⟨?_,?_⟩
  .rw[IsD.bl_iff.mp id,IsD.bl_iff.mp ie];rfl
  .rw[IsD.bl_iff.mp id,IsD.bl_iff.mp ie];refine q _ F H (.refl sF) ?_;rw[IsD.bl_iff];cases a<;>cases b<;>rfl
 .split at hz
  .rename_i hp;rw[Uc] at hp;obtain rfl:=Zqi hz;obtain⟨as,ra⟩:=WE I.hok 12 d x v hp.1 (IsD.same sF _ _ id) rx;obtain⟨bs,rb⟩:=WE I.hok 12 e y u hp.2 (IsD.same sF _ _ ie) ry;obtain⟨l1,z1⟩:=Xe 12 d hp.1;obtain⟨l2,z2⟩:=Xe 12 e hp.2;refine PySem.SeqAt.compareEq_reads ra rb l1 l2 () ?_;have hb:PyData.eqv (toPy d) (toPy e)=sameD d e:=U4.mpr ((BY 12 d e hp.1 hp.2).trans zeA.symm);rw[hb];exact⟨.bl _,H,I,rfl,q _ F H (.refl sF) (isB _ F)⟩
  .exact J3 hz
def o_ne (hu:X.A.units+64<cLine):OpD X (compareOp .NotEq) gNe:=by
 intro Y s Z H x y v u Q I rx ry ⟨F,d,e,z,sF,id,ie,hz,q⟩;unfold gNe at hz
 split at hz
 .rename_i a b;obtain rfl:=Zqi hz;refine op_ne Y s Z H x y v u Q I rx ry ⟨?_,?_⟩
  .rw[IsD.bl_iff.mp id,IsD.bl_iff.mp ie];rfl
  .rw[IsD.bl_iff.mp id,IsD.bl_iff.mp ie];refine q _ F H (.refl sF) ?_;rw[IsD.bl_iff];cases a<;>cases b<;>rfl
 .split at hz
  .rename_i hp;rw[Uc] at hp;obtain rfl:=Zqi hz;obtain⟨as,ra⟩:=WE I.hok 12 d x v hp.1 (IsD.same sF _ _ id) rx;obtain⟨bs,rb⟩:=WE I.hok 12 e y u hp.2 (IsD.same sF _ _ ie) ry;obtain⟨l1,z1⟩:=Xe 12 d hp.1;obtain⟨l2,z2⟩:=Xe 12 e hp.2;refine PySem.SeqAt.compareNe_reads ra rb l1 l2 () ?_;have hb:PyData.eqv (toPy d) (toPy e)=sameD d e:=U4.mpr ((BY 12 d e hp.1 hp.2).trans zeA.symm);rw[hb];exact⟨.bl _,H,I,rfl,q _ F H (.refl sF) (isB _ F)⟩
  .exact J3 hz
end
def PE.or (h:PE X e t)(h':PE X e t'):PE X e (λZ H Q=>t Z H Q\/t' Z H Q):=λY s Z H Q I q=>q.elim (h Y s Z H Q I) (h' Y s Z H Q I)
def PT.or (h:PT X e t)(h':PT X e t'):PT X e (λZ H Q=>t Z H Q\/t' Z H Q):=λY s Z H Q I q=>q.elim (h Y s Z H Q I) (h' Y s Z H Q I)
def Qn:D->Option Key
 | .int i=>some (.inl i)
 | .str x=>some (.inr x)
 |_=>none
def WF {K:W.Frag}{H:Hp}{d:D}{k:Key}{v:V}(h:Qn d=some k)(i:IsD K H d v):v=kV k:=by
 cases d with
 |int j=>cases h;exact IsD.int_iff.mp i
 |str x=>cases h;exact IsD.str_iff.mp i
 |_=>exact J3 h
def valD:List Key->Yy->Key->Yz
 |k::ks,d::ds,q=>if k=q then some d else valD ks ds q
 |_,_,_=>none
def NT (k q:Key)(v:V)(r:List (Key×V)):valV ((k,v)::r) q=if k=q then some v else valV r q:=by
 unfold valV;rw[UT];by_cases h:k=q
 .rw[Zd h,Zp h];rfl
 .rw[Ze h,Zo h]
def FL:valD (k::ks) (d::ds) q=if k=q then some d else valD ks ds q:=rfl
theorem Xf {K:W.Frag}{H:Hp}(q:Key):∀{ks:List Key} {ds:Yy} {xs:Yw},ks.length=xs.length->IsDs K H ds xs ->
 (∀d,valD ks ds q=some d->∃x,valV (ks.zip xs) q=some x/\IsD K H d x)/\(valD ks ds q=none->valV (ks.zip xs) q=none)
 | [],ds,xs,hl,h=>by
  have:xs=[]:=Jf.mp hl.symm;subst this;refine⟨λd e=>?_,λ_=>rfl⟩;cases ds<;>exact J3 e
 |k::ks,[],xs,hl,h=>by
  rw[IsDs.nil_iff] at h;subst h;cases hl
 |k::ks,d::ds,xs,hl,h=>by
  rw[IsDs.cons_iff] at h;obtain⟨x,r,rfl,h1,h2⟩:=h;have ih:=Xf q (ks:=ks) (U9 hl) h2;rw[U5,NT];rw[FL];by_cases hk:k=q
  .rw[Zd hk,Zd hk];exact⟨λd' e=>by cases e;exact⟨x,rfl,h1⟩,λe=>by cases e⟩
  .rw[Ze hk,Ze hk];exact ih
def chgD:List Key->Yy->Key->D->Yy
 |k::ks,d::ds,q,v=>(if k=q then v else d)::chgD ks ds q v
 |_,_,_,_=>[]
def chgV:List Key->Yw->Key->V->Yw
 |k::ks,d::ds,q,v=>(if k=q then v else d)::chgV ks ds q v
 |_,_,_,_=>[]
def FM:chgD (k::ks) (d::ds) q v=(if k=q then v else d)::chgD ks ds q v:=rfl
def NU:chgV (k::ks) (d::ds) q v=(if k=q then v else d)::chgV ks ds q v:=rfl
theorem FN {K:W.Frag}{H:Hp}{q:Key}{d:D}{v:V}(hv:IsD K H d v):∀{ks:List Key} {ds:Yy} {xs:Yw},ks.length=xs.length->IsDs K H ds xs->IsDs K H (chgD ks ds q d) (chgV ks xs q v)/\(chgV ks xs q v).length=ks.length /\
 (ks.zip xs).map (λkv=>if kv.1=q then(kv.1,v) else kv)=ks.zip (chgV ks xs q v)
 | [],ds,xs,hl,h=>by
  have:xs=[]:=Jf.mp hl.symm;subst this;refine⟨?_,rfl,rfl⟩;cases ds<;>exact .nil
 |k::ks,[],xs,hl,h=>by
  rw[IsDs.nil_iff] at h;subst h;cases hl
 |k::ks,d'::ds,xs,hl,h=>by
  rw[IsDs.cons_iff] at h;obtain⟨x,r,rfl,h1,h2⟩:=h;obtain⟨i1,i2,i3⟩:=FN (q:=q) hv (ks:=ks) (U9 hl) h2;rw[FM,NU];refine⟨IsDs.mk ?_ i1,by rw[Zu,i2];rfl,?_⟩
  .by_cases hk:k=q
   .rw[Zd hk,Zd hk];exact hv
   .rw[Ze hk,Ze hk];exact h1
  .rw[U5,Zl,i3,U5];by_cases hk:k=q
   .rw[Zd hk,Zd hk]
   .rw[Ze hk,Ze hk]
def hasK (q:Key)(ks:List Key):Bool:=ks.any λk=>decide (k=q)
theorem FP (q:Key):∀{ks:List Key} {xs:Yw},ks.length=xs.length->((ks.zip xs).any λkv=>decide (kv.1=q))=hasK q ks
 | [],xs,_=>rfl
 |k::ks,[],h=>by cases h
 |k::ks,x::xs,h=>by
  rw[U5,Vn,FP q (U9 h)];rfl
def VY (ks:List Key)(q:Key):List Key:=if hasK q ks=true then ks else ks++[q]
def Ws (ks:List Key)(ds:Yy)(q:Key)(v:D):Yy:=if hasK q ks=true then chgD ks ds q v else ds++[v]
def NV {K:W.Frag}{H:Hp}{q:Key}{d:D}{v:V}{ks:List Key}{ds:Yy}{xs:Yw}(hl:ks.length=xs.length)(h:IsDs K H ds xs)(hv:IsD K H d v):
 ∃ys,putK (ks.zip xs) q v=(VY ks q).zip ys/\(VY ks q).length=ys.length/\IsDs K H (Ws ks ds q d) ys:=by
 unfold putK VY Ws;rw[FP q hl];by_cases hm:hasK q ks=true
 .rw[Zd hm,Zd hm,Zd hm];obtain⟨h1,h2,h3⟩:=FN (q:=q) hv hl h;exact⟨_,h3,h2.symm,h1⟩
 .rw[Ze hm,Ze hm,Ze hm];exact⟨xs++[v],by rw[List.zip_append hl];rfl,by simp[hl],h.snoc hv⟩
section
variable {X:Cx}{E:XK}{m:Option Bool}{a b o i e:Expr}{fa fb fo fi fv:FE}{pos pos' apos cpos:Pos}
def BZ {K:W.Frag}{H:Hp}{ds:Yy}{xs:Yw}{k:Int}{d:D}(h:IsDs K H ds xs)(e:atI ds k=some d):∃x,atI xs k=some x/\IsD K H d x:=by
 unfold atI at e ⊢;rw[h.length];cases hj:ixN ds.length k with
 |none=>rw[hj] at e;exact J3 e
 |some j =>
  rw[hj] at e;exact h.get e
def gIx:D->D->Yz
 | .lst ds,.int k=>atI ds k
 | .tup ds,.int k=>atI ds k
 | .scr ns,.int k=>(atI ns k).map .int
 | .str x,.int k=>if x.length<=sizeLine then(atI x.cps.toList k).map λc=>.str ⟨#[c]⟩ else none
 | .dct ks ds,k=>(Qn k).bind λq=>valD ks ds q
 | .dcf ks ds,k=>(Qn k).bind λq=>valD ks ds q
 |_,_=>none
def FQ {K:W.Frag}{H:Hp}{d:D}{ks:List Key}{ds:Yy}{v:V}(hd:d=.dct ks ds\/d=.dcf ks ds)(h:IsD K H d v):∃a xs,v=.ref a/\Rd H a (.dK (ks.zip xs))/\ks.length=xs.length/\IsDs K H ds xs:=by
 rcases hd with rfl|rfl
 .obtain⟨a,xs,h1,h2,h3⟩:=IsD.dct_iff.mp h;exact⟨a,xs,h1,.inl h2,h3⟩
 .obtain⟨a,o,xs,h1,h2,h3⟩:=IsD.dcf_iff.mp h;exact⟨a,xs,h1,.inr ⟨o,h2⟩,h3⟩
def Ca {H H':Hp}{a:Addr}{u:HO}(e:Same H H')(h:Rd H a u):Rd H' a u:=h.imp (λq=>e _ _ q) λ⟨o,q⟩=>⟨o,e _ _ q⟩
def FR {H:Hp}{a:Addr}{kvs:List (Key×V)}{k:Key}(e:Rd H a (.dK kvs)):DGet H a (kV k) (valV kvs k):=.inl ⟨kvs,k,e,rfl,rfl⟩
def NW:IxR X (rD2 X.K λd e=>match d with
 | .dct _ _=>none
 | .dcf _ _=>none
 |d=>gIx d e):=IxR.weak M3 λx y H Q ⟨F,d,e,z,sF,id,ie,hz,q⟩=>by
 cases d with
 |lst ds =>
  cases e with
  |int k =>
   rw[IsD.lst_iff] at id;obtain⟨p,xs,rfl,h1,h2⟩:=id;obtain⟨x,hx,i2⟩:=BZ h2 (show atI ds k=some z from hz);exact .inl ⟨p,xs,k,x,rfl,IsD.int_iff.mp ie,(h1.same sF).sq,hx,q _ F H (.refl sF) i2⟩
  |_=>exact J3 hz
 |tup ds =>
  cases e with
  |int k =>
   rw[IsD.tup_iff] at id;obtain⟨p,xs,rfl,h1,h2⟩:=id;obtain⟨x,hx,i2⟩:=BZ h2 (show atI ds k=some z from hz);exact .inr (.inl ⟨p,xs,k,x,rfl,IsD.int_iff.mp ie,(h1.same sF).sq,hx,q _ F H (.refl sF) i2⟩)
  |_=>exact J3 hz
 |scr ns =>
  cases e with
  |int k =>
   rw[IsD.scr_iff] at id;obtain⟨p,rfl,h1⟩:=id;obtain⟨j,hj,hz⟩:=Ji.mp (show(atI ns k).map D.int=some z from hz);subst hz;refine .inl ⟨p,_,k,.int j,rfl,IsD.int_iff.mp ie,Same.seq sF h1,?_,q _ F H (.refl sF) (isI _ F)⟩;unfold atI at hj ⊢;rw[Zql];cases hx:ixN ns.length k with
   |none=>rw[hx] at hj;exact J3 hj
   |some i=>rw[hx] at hj;show(ns.map V.int)[i]? = _;rw[Zv,show ns[i]? = some j from hj];rfl
  |_=>exact J3 hz
 |str t =>
  cases e with
  |int k =>
   have hz:(if t.length<=sizeLine then(atI t.cps.toList k).map λc=>D.str ⟨#[c]⟩ else none)=some z:=hz
   split at hz
   .rename_i hl;cases hc:atI t.cps.toList k with
    |none=>rw[hc] at hz;exact J3 hz
    |some c =>
     rw[hc] at hz;obtain rfl:=Zqi hz;exact .inr (.inr ⟨t,k,c,IsD.str_iff.mp id,IsD.int_iff.mp ie,hl,hc,q _ F H (.refl sF) (IsD.str_iff.mpr rfl)⟩)
   .exact J3 hz
  |_=>exact J3 hz
 |_=>exact J3 hz
def Qs (hu:X.A.units+1<cLine)(ha:QE X E a fa)(hb:QE X E b fb)(hs:B7 b)(hs2:NoSl b):QE X E (.Subscript a b pos) (dOp gIx fa fb):=
 PE.weak (PE.or (E5 hu ha hb hs2) (Et (NW) ha hb hs)) λZ H Q h=>by
  obtain⟨B,F,sd,r,n⟩:=h;by_cases hd:∃d ks ds,fa sd=.ok d/\(d=.dct ks ds\/d=.dcf ks ds)
  .obtain⟨d,ks,ds,hd,hc⟩:=hd;refine .inl ⟨B,F,sd,r,(Res.need_bind n).monoE (λx hx n1 v F1 H1 e1 i1=>?_) λ_ _ q=>q⟩;rw[hd] at hx;cases hx;refine⟨B,F1,sd,r.step e1,(Res.need_bind n1).mono (λy n2 w F2 H2 e2 i2=>?_) λ_ _ q=>q.ext e1⟩;obtain⟨z,hz,q⟩:=Res.need_ofO n2;obtain⟨k,hk,hz⟩:=Jg.mp (show(Qn y).bind (λq=>valD ks ds q)=some z by rcases hc with rfl|rfl<;>exact hz);obtain⟨p,xs,rfl,h1,h2,h3⟩:=FQ hc i1;obtain⟨x,hx,ix⟩:=(Xf k h2 h3).1 z hz;refine⟨p,x,rfl,?_,q x F2 H2 (e1.trans e2) (IsD.same e2.ff _ _ ix)⟩;rw[WF hk i2,<- hx];exact FR (Ca e2.hh (Ca e1.fh h1))
  .refine .inr (XQ ⟨B,F,sd,r,?_⟩);unfold dOp at n ⊢;cases hx:fa sd with
   |ok d =>
    rw[hx] at n;cases d with
    |dct ks ds=>exact Zn ⟨_,ks,ds,hx,.inl rfl⟩ hd
    |dcf ks ds=>exact Zn ⟨_,ks,ds,hx,.inr rfl⟩ hd
    |_=>exact n
   |no=>rw[hx] at n;exact n
   |ex c fs=>rw[hx] at n;exact n
noncomputable def gIn (neg:Bool):D->D->Yz
 |k,.dct ks ds=>(Qn k).map λq=>.bl (if neg then !(valD ks ds q).isSome else(valD ks ds q).isSome)
 |k,.dcf ks ds=>(Qn k).map λq=>.bl (if neg then !(valD ks ds q).isSome else(valD ks ds q).isSome)
 |d,.lst ds=>if plN 12 d&&ds.all (plN 12) then some (.bl (if neg then !ds.any (λe=>sameD e d) else ds.any λe=>sameD e d)) else none
 |d,.tup ds=>if plN 12 d&&ds.all (plN 12) then some (.bl (if neg then !ds.any (λe=>sameD e d) else ds.any λe=>sameD e d)) else none
 |_,_=>none
theorem FU {K:W.Frag}{H:Hp}:∀(n:Nat) (d e:D) (v:V),plN n d=true->plN n e=true->IsD K H d v->IsD K H e v->d=e
 | 0,_,_,_,h,_,_,_=>by exact JB h
 |n+1,d,e,v,hd,he,h1,h2=>by
  have all:∀(ds es:Yy) (xs:Yw),ds.all (plN n)=true->es.all (plN n)=true->IsDs K H ds xs->IsDs K H es xs->ds=es:=by
   intro ds
   induction ds with
   |nil =>
    intro es xs _ _ h1 h2;rw[IsDs.nil_iff] at h1;subst h1;have:=h2.length;exact(Jf.mp this.symm).symm
   |cons d ds ih =>
    intro es xs p1 p2 h1 h2;rw[Uz,Uc] at p1;rw[IsDs.cons_iff] at h1;obtain⟨x,r,rfl,h3,h4⟩:=h1;cases es with
    |nil=>rw[IsDs.nil_iff] at h2;cases h2
    |cons e es =>
     rw[Uz,Uc] at p2;rw[IsDs.cons_iff] at h2;obtain⟨x',r',e',h5,h6⟩:=h2;cases e';rw[FU n d e x p1.1 p2.1 h3 h5,ih es r p1.2 p2.2 h4 h6]
  have ne:∀{a:Addr} {xs ys:Yw},TupD K H a xs->LstD K H a ys->False:=λ{a xs ys} q1 q2=>by
   rcases q2 with q2|⟨o,q2⟩
   .rw[q1] at q2;cases q2
   .rw[q1] at q2;cases q2
  cases d with
  |int i =>
   rw[IsD.int_iff] at h1;subst h1;cases e with
   |int j=>rw[IsD.int_iff] at h2;cases h2;rfl
   |str j=>rw[IsD.str_iff] at h2;cases h2
   |non=>rw[IsD.non_iff] at h2;cases h2
   |tup es=>rw[IsD.tup_iff] at h2;obtain⟨_,_,z,_⟩:=h2;cases z
   |lst es=>rw[IsD.lst_iff] at h2;obtain⟨_,_,z,_⟩:=h2;cases z
   |_=>exact JB he
  |str i =>
   rw[IsD.str_iff] at h1;subst h1;cases e with
   |int j=>rw[IsD.int_iff] at h2;cases h2
   |str j=>rw[IsD.str_iff] at h2;cases h2;rfl
   |non=>rw[IsD.non_iff] at h2;cases h2
   |tup es=>rw[IsD.tup_iff] at h2;obtain⟨_,_,z,_⟩:=h2;cases z
   |lst es=>rw[IsD.lst_iff] at h2;obtain⟨_,_,z,_⟩:=h2;cases z
   |_=>exact JB he
  |non =>
   rw[IsD.non_iff] at h1;subst h1;cases e with
   |int j=>rw[IsD.int_iff] at h2;cases h2
   |str j=>rw[IsD.str_iff] at h2;cases h2
   |non=>rfl
   |tup es=>rw[IsD.tup_iff] at h2;obtain⟨_,_,z,_⟩:=h2;cases z
   |lst es=>rw[IsD.lst_iff] at h2;obtain⟨_,_,z,_⟩:=h2;cases z
   |_=>exact JB he
  |tup ds =>
   rw[IsD.tup_iff] at h1;obtain⟨a,xs,rfl,q1,q2⟩:=h1;cases e with
   |int j=>rw[IsD.int_iff] at h2;cases h2
   |str j=>rw[IsD.str_iff] at h2;cases h2
   |non=>rw[IsD.non_iff] at h2;cases h2
   |tup es =>
    rw[IsD.tup_iff] at h2;obtain⟨a',xs',e',q3,q4⟩:=h2;cases e';have q1':H a=some (.tup xs):=q1;rw[show H a=some (.tup xs') from q3] at q1';cases q1';rw[all ds es _ hd he q2 q4]
   |lst es =>
    rw[IsD.lst_iff] at h2;obtain⟨a',xs',e',q3,q4⟩:=h2;cases e';exact(ne q1 q3).elim
   |_=>exact JB he
  |lst ds =>
   rw[IsD.lst_iff] at h1;obtain⟨a,xs,rfl,q1,q2⟩:=h1;cases e with
   |int j=>rw[IsD.int_iff] at h2;cases h2
   |str j=>rw[IsD.str_iff] at h2;cases h2
   |non=>rw[IsD.non_iff] at h2;cases h2
   |tup es =>
    rw[IsD.tup_iff] at h2;obtain⟨a',xs',e',q3,q4⟩:=h2;cases e';exact(ne q3 q1).elim
   |lst es =>
    rw[IsD.lst_iff] at h2;obtain⟨a',xs',e',q3,q4⟩:=h2;cases e';have:xs=xs':=by
     rcases q1 with q1|⟨_,q1⟩<;>rcases q3 with q3|⟨_,q3⟩<;>rw[q1] at q3<;>cases q3<;>rfl
    subst this;rw[all ds es _ hd he q2 q4]
   |_=>exact JB he
  |_=>exact JB hd
def ValIs (K:W.Frag)(H:Hp)(d:D)(u:Value):Prop:=∃v,RelV v u/\IsD K H d v
noncomputable def eqTo (K:W.Frag)(H:Hp)(d:D)(u:Value):Bool:=@decide (ValIs K H d u) (Classical.propDecidable _)
def NX {K:W.Frag}{H:Hp}{d e:D}{v:V}{u:Value}(hd:plN 12 d=true)(he:plN 12 e=true)(h:IsD K H e v)(r:RelV v u):eqTo K H d u=sameD e d:=by
 unfold eqTo;by_cases q:e=d
 .rw[q,Kr];exact @decide_eq_true _ (Classical.propDecidable _) ⟨v,r,q ▸ h⟩
 .rw[zcl.mpr q];refine @decide_eq_false _ (Classical.propDecidable _) λ⟨v',r',h'⟩=>q ?_;rw[r'.inj r] at h';exact FU 12 e d v he hd h h'
def any_eq {P:Program}{w:World}{K:W.Frag}{A:Around}{s:Shared}{H:Hp}(hu:A.units+60<cLine)(ok:HOk P w H s.heap){d:D}{x:V}{v:Value}(hp:plN 12 d=true)(hx:IsD K H d x)(rx:RelV x v):
 ∀{ds:Yy} {xs:Yw} {us:Yd},ds.all (plN 12)=true->IsDs K H ds xs->Vals xs us->us.map (eqTo K H d)=ds.map (λe=>sameD e d)/\∀u∈us,SeqAt.EqAt A s u v (eqTo K H d u):=by
 intro ds
 induction ds with
 |nil =>
  intro xs us _ h1 h2;rw[IsDs.nil_iff] at h1;subst h1;cases h2;exact⟨rfl,λu hu=>nomatch hu⟩
 |cons e ds ih =>
  intro xs us hq h1 h2;rw[Uz,Uc] at hq;rw[IsDs.cons_iff] at h1;obtain⟨y,rs,rfl,h3,h4⟩:=h1;cases h2 with
  |cons r1 r2 =>
   obtain⟨i1,i2⟩:=ih hq.2 h4 r2;obtain⟨as,ra⟩:=WE ok 12 e y _ hq.1 h3 r1;obtain⟨cs,rb⟩:=WE ok 12 d x v hp hx rx;obtain⟨l1,z1⟩:=Xe 12 e hq.1;obtain⟨l2,z2⟩:=Xe 12 d hp;have es:=NX hp hq.1 h3 r1;refine⟨by rw[Zl,Zl,i1,es],λu hm=>?_⟩;rcases UB.mp hm with hm|hm
   .subst hm;rw[es,<- (U4.mpr ((BY 12 e d hq.1 hp).trans zeA.symm):PyData.eqv (toPy e) (toPy d)=sameD e d)];exact SeqAt.eqAt_reads (toPy e) (toPy d) A s _ v as cs ra rb l1 l2 ()
   .exact i2 u hm
def any_map' {α: Type}{f:α -> Bool}{l:List α}:l.any f=(l.map f).any id:=by rw[Vp];rfl
def Cb (hu:X.A.units+64<cLine)(neg:Bool):OpR X (compareOp (if neg then .NotIn else .In)) (rD2 X.K λd e=>match e with
 | .dct _ _=>none
 | .dcf _ _=>none
 |e=>gIn neg d e):=by
 intro Y s Z H x y v u Q I rx ry ⟨F,d,e,z,sF,id,ie,hz,q⟩;have id':=IsD.same sF _ _ id;cases e with
 |lst ds =>
  have hz:(if plN 12 d&&ds.all (plN 12) then some (D.bl (if neg then !ds.any (λe=>sameD e d) else ds.any λe=>sameD e d)) else none)=some z:=hz
  split at hz
  .rename_i hp;rw[Uc] at hp;obtain rfl:=Zqi hz;rw[IsD.lst_iff] at ie;obtain⟨p,xs,rfl,h1,h2⟩:=ie;obtain rfl:u=Value.ref p:=ry;obtain⟨its,ri,pl,hl⟩:=I.list (h1.same sF).sq;obtain⟨k1,k2⟩:=any_eq (A:=X.A.in1) (by show X.A.units+1+60<cLine;omega) I.hok hp.1 id' rx hp.2 (IsDs.same sF _ _ h2) ri;have ea:its.toArray.any (eqTo X.K H d)=ds.any (λe=>sameD e d):=by
    rw[show its.toArray.any (eqTo X.K H d)=its.any (eqTo X.K H d) by simp,any_map',k1,<- any_map']
   cases neg with
   |true =>
    refine SeqAt.notIn_listAt (eqTo X.K H d) pl.isList (λw hw=>k2 w (by simpa using hw)) ⟨.bl _,H,I,rfl,?_⟩;rw[ea];exact q _ F H (.refl sF) (isB _ F)
   |false =>
    refine SeqAt.in_listAt (eqTo X.K H d) pl.isList (λw hw=>k2 w (by simpa using hw)) ⟨.bl _,H,I,rfl,?_⟩;rw[ea];exact q _ F H (.refl sF) (isB _ F)
  .exact J3 hz
 |tup ds =>
  have hz:(if plN 12 d&&ds.all (plN 12) then some (D.bl (if neg then !ds.any (λe=>sameD e d) else ds.any λe=>sameD e d)) else none)=some z:=hz
  split at hz
  .rename_i hp;rw[Uc] at hp;obtain rfl:=Zqi hz;rw[IsD.tup_iff] at ie;obtain⟨p,xs,rfl,h1,h2⟩:=ie;obtain rfl:u=Value.ref p:=ry;obtain⟨its,ri,pl,hl⟩:=I.tuple (h1.same sF).sq;obtain⟨k1,k2⟩:=any_eq (A:=X.A.in1) (by show X.A.units+1+60<cLine;omega) I.hok hp.1 id' rx hp.2 (IsDs.same sF _ _ h2) ri;have ea:its.toArray.any (eqTo X.K H d)=ds.any (λe=>sameD e d):=by
    rw[show its.toArray.any (eqTo X.K H d)=its.any (eqTo X.K H d) by simp,any_map',k1,<- any_map']
   cases neg with
   |true =>
    refine SeqAt.notIn_tupleAt (eqTo X.K H d) pl (λw hw=>k2 w (by simpa using hw)) ⟨.bl _,H,I,rfl,?_⟩;rw[ea];exact q _ F H (.refl sF) (isB _ F)
   |false =>
    refine SeqAt.in_tupleAt (eqTo X.K H d) pl (λw hw=>k2 w (by simpa using hw)) ⟨.bl _,H,I,rfl,?_⟩;rw[ea];exact q _ F H (.refl sF) (isB _ F)
  .exact J3 hz
 |_=>exact J3 hz
def Cc {K:W.Frag}{neg:Bool}{Z: St}{H:Hp}{Q:VK}(h:tD K E (dOp (gIn neg) fa fb) Z H Q):
 (λZ H Q=>tD K E fa Z H λy H1=>tD K E fb Z H1 λx H2=>∃a o,x=.ref a/\DGet H2 a y o/\Q (.bl (if neg then !o.isSome else o.isSome)) H2) Z H Q\/tOp (rD2 K λd e=>match e with
 | .dct _ _=>none
 | .dcf _ _=>none
 |e=>gIn neg d e) (tD K E fa) (tD K E fb) Z H Q:=by
 obtain⟨B,F,sd,r,n⟩:=h;by_cases hd:∃d ks ds,fb sd=.ok d/\(d=.dct ks ds\/d=.dcf ks ds)
 .obtain⟨d,ks,ds,hd,hc⟩:=hd;refine .inl ⟨B,F,sd,r,(Res.need_bind n).mono (λx n1 v F1 H1 e1 i1=>?_) λ_ _ q=>q⟩;refine⟨B,F1,sd,r.step e1,(Res.need_bind n1).monoE (λy hy n2 w F2 H2 e2 i2=>?_) λ_ _ q=>q.ext e1⟩;rw[hd] at hy;cases hy;obtain⟨z,hz,q⟩:=Res.need_ofO n2;obtain⟨k,hk,hz⟩:=Ji.mp (show(Qn x).map (λq=>D.bl (if neg then !(valD ks ds q).isSome else(valD ks ds q).isSome))=some z by rcases hc with rfl|rfl<;>exact hz);subst hz;obtain⟨p,xs,rfl,h1,h2,h3⟩:=FQ hc i2;obtain⟨g1,g2⟩:=Xf k h2 h3;refine⟨p,valV (ks.zip xs) k,rfl,?_,?_⟩
  .rw[WF hk i1];exact FR (Ca e2.fh h1)
  .have es:(valV (ks.zip xs) k).isSome=(valD ks ds k).isSome:=by
    cases hv:valD ks ds k with
    |none=>rw[g2 hv];rfl
    |some d=>obtain⟨x,hx,_⟩:=g1 d hv;rw[hx];rfl
   rw[es];exact q _ F2 H2 (e1.trans e2) (IsD.bl_iff.mpr rfl)
 .refine .inr (XQ ⟨B,F,sd,r,?_⟩);unfold dOp at n ⊢;cases hx:fa sd with
  |ok d =>
   rw[hx] at n;cases hy:fb sd with
   |ok e =>
    rw[hy] at n;cases e with
    |dct ks ds=>exact Zn ⟨_,ks,ds,hy,.inl rfl⟩ hd
    |dcf ks ds=>exact Zn ⟨_,ks,ds,hy,.inr rfl⟩ hd
    |_=>exact n
   |no=>rw[hy] at n;exact n
   |ex c fs=>rw[hy] at n;exact n
  |no=>rw[hx] at n;exact n
  |ex c fs=>rw[hx] at n;exact n
def NY (hu:X.A.units+64<cLine)(ha:QE X E a fa)(hb:QE X E b fb)(hm:behindInMarks .NotIn b=false:=by rfl):QE X E (.Compare a [.NotIn] [b] pos) (dOp (gIn true) fa fb):=
 PE.weak (PE.or (Li (E6 () ha hb) hm) (Ef (Cb hu true) ha hb hm)) λZ H Q h=>Cc h
def qt_in (hu:X.A.units+64<cLine)(ha:QE X E a fa)(hb:QE X E b fb)(hm:behindInMarks .In b=false:=by rfl):QT X E (.Compare a [.In] [b] pos) (J7 (dOp (gIn false) fa fb)):=
 PT.weak (PT.or (ZL (MI () ha hb) hm) (ZO (Cb hu false) ha hb hm)) λZ H Q h=>Cc (KO h)
def Aj (hu:X.A.units+64<cLine)(ha:QE X E a fa)(hb:QE X E b fb)(hm:behindInMarks .NotIn b=false:=by rfl):QT X E (.Compare a [.NotIn] [b] pos) (J7 (dOp (gIn true) fa fb)):=
 PT.weak (PT.or (ZL (E6 () ha hb) hm) (ZO (Cb hu true) ha hb hm)) λZ H Q h=>Cc (KO h)
end
section
variable {X:Cx}{E:XK}{m:Option Bool}{a b o i e f tg:Expr}{fa fb fo fi fv:FE}{fr:FA}{pos pos' apos cpos p:Pos}
def Qu {K:W.Frag}{H:Hp}{d:D}{vs:Yw}(h:IsDs K H [d] vs):∃v,vs=[v]/\IsD K H d v:=by
 rw[IsDs.cons_iff] at h;obtain⟨v,r,rfl,h1,h2⟩:=h;rw[IsDs.nil_iff] at h2;subst h2;exact⟨v,rfl,h1⟩
def FV {K:W.Frag}{H:Hp}{d e:D}{vs:Yw}(h:IsDs K H [d,e] vs):∃v w,vs=[v,w]/\IsD K H d v/\IsD K H e w:=by
 rw[IsDs.cons_iff] at h;obtain⟨v,r,rfl,h1,h2⟩:=h;obtain⟨w,rfl,h3⟩:=Qu h2;exact⟨v,w,rfl,h1,h3⟩
def gLen:Yy->Yz
 | [.lst ds]=>some (.int ds.length)
 | [.tup ds]=>some (.int ds.length)
 | [.dct ks _]=>some (.int ks.length)
 | [.scr ns]=>some (.int ns.length)
 | [.str x]=>if x.length<=sizeLine then some (.int x.length) else none
 |_=>none
def LenP (ds:Yy)(z:D):Prop:=(∃es,ds=[.lst es]/\z=.int es.length)\/(∃es,ds=[.tup es]/\z=.int es.length)\/(∃ks es,ds=[.dct ks es]/\z=.int ks.length)\/(∃ns,ds=[.scr ns]/\z=.int ns.length)\/∃x,x.length<=sizeLine/\ds=[.str x]/\z=.int x.length
def NZ (hz:gLen ds=some z):LenP ds z:=by
 cases ds with
 |nil=>exact J3 hz
 |cons d ds =>
  cases ds with
  |nil =>
   cases d with
   |lst ds=>exact .inl ⟨_,rfl,(Zqi hz).symm⟩
   |tup ds=>exact .inr (.inl ⟨_,rfl,(Zqi hz).symm⟩)
   |dct ks ds=>exact .inr (.inr (.inl ⟨_,_,rfl,(Zqi hz).symm⟩))
   |scr ns=>exact .inr (.inr (.inr (.inl ⟨_,rfl,(Zqi hz).symm⟩)))
   |str x=>exact let q:=NF hz;.inr (.inr (.inr (.inr ⟨_,q.1,rfl,q.2.symm⟩)))
   |_=>exact J3 hz
  |cons e ds=>cases d<;>exact J3 hz
def Q6:za1 X (.builtin "len") (rDA X.K gLen):=za1.weak (za1.or M6 (za1.or MY M7)) λxs H Q ⟨F,ds,z,sF,id,hz,q⟩=>by
 rcases NZ hz with ⟨es,rfl,rfl⟩|⟨es,rfl,rfl⟩|⟨ks,es,rfl,rfl⟩|⟨ns,rfl,rfl⟩|⟨x,hl,rfl,rfl⟩
 .obtain⟨v,rfl,h⟩:=Qu id;rw[IsD.lst_iff] at h;obtain⟨a,ys,rfl,h1,h2⟩:=h;rw[<- h2.length] at q;exact .inl ⟨a,ys,rfl,.inl (h1.same sF).sq,q _ F H (.refl sF) (isI _ F)⟩
 .obtain⟨v,rfl,h⟩:=Qu id;rw[IsD.tup_iff] at h;obtain⟨a,ys,rfl,h1,h2⟩:=h;rw[<- h2.length] at q;exact .inl ⟨a,ys,rfl,.inr (h1.same sF).sq,q _ F H (.refl sF) (isI _ F)⟩
 .obtain⟨v,rfl,h⟩:=Qu id;rw[IsD.dct_iff] at h;obtain⟨a,ys,rfl,h1,h2,h3⟩:=h;refine .inr (.inl ⟨a,_,rfl,sF _ _ h1,?_⟩);rw[List.length_zip,<- h2,Vz];exact q _ F H (.refl sF) (isI _ F)
 .obtain⟨v,rfl,h⟩:=Qu id;rw[IsD.scr_iff] at h;obtain⟨a,rfl,h1⟩:=h;refine .inl ⟨a,_,rfl,.inl (Same.seq sF h1),?_⟩;rw[Zql];exact q _ F H (.refl sF) (isI _ F)
 .obtain⟨v,rfl,h⟩:=Qu id;rw[IsD.str_iff] at h;subst h;exact .inr (.inr ⟨_,rfl,hl,q _ F H (.refl sF) (isI _ F)⟩)
def XZ:Yy->Yz
 | [.int i,.int j]=>some (.int (if j > i then j else i))
 |_=>none
def Ak:Yy->Yz
 | [.int i,.int j]=>some (.int (if j<i then j else i))
 |_=>none
def FW (ds:Yy):Prop:=∃i j,ds=[.int i,.int j]
def Oa (hz:XZ ds=some z):FW ds:=by
 cases ds with
 |nil=>exact J3 hz
 |cons d ds =>
  cases ds with
  |nil=>cases d<;>exact J3 hz
  |cons e ds =>
   cases d with
   |int i =>
    cases e with
    |int j =>
     cases ds with
     |nil=>exact⟨_,_,rfl⟩
     |cons _ _=>exact J3 hz
    |_=>exact J3 hz
   |_=>exact J3 hz
def Ob (hz:Ak ds=some z):FW ds:=by
 cases ds with
 |nil=>exact J3 hz
 |cons d ds =>
  cases ds with
  |nil=>cases d<;>exact J3 hz
  |cons e ds =>
   cases d with
   |int i =>
    cases e with
    |int j =>
     cases ds with
     |nil=>exact⟨_,_,rfl⟩
     |cons _ _=>exact J3 hz
    |_=>exact J3 hz
   |_=>exact J3 hz
def FY (hc:X.calm=true):za1 X (.builtin "max") (rDA X.K XZ):=za1.weak (LR hc) λxs H Q ⟨F,ds,z,sF,id,hz,q⟩=>by
 obtain⟨i,j,rfl⟩:=Oa hz;obtain rfl:=Zqi hz;obtain⟨v,w,rfl,h1,h2⟩:=FV id;exact⟨_,_,by rw[IsD.int_iff.mp h1,IsD.int_iff.mp h2],q _ F H (.refl sF) (isI _ F)⟩
def Oc (hc:X.calm=true):za1 X (.builtin "min") (rDA X.K Ak):=za1.weak (LS hc) λxs H Q ⟨F,ds,z,sF,id,hz,q⟩=>by
 obtain⟨i,j,rfl⟩:=Ob hz;obtain rfl:=Zqi hz;obtain⟨v,w,rfl,h1,h2⟩:=FV id;exact⟨_,_,by rw[IsD.int_iff.mp h1,IsD.int_iff.mp h2],q _ F H (.refl sF) (isI _ F)⟩
def Wt:D->Option Ye
 | .lst ds=>Qh Xc ds
 |_=>none
def Cd {K:W.Frag}{H:Hp}{d:D}{ns:Ye}{v:V}(h:Wt d=some ns)(i:IsD K H d v):∃a,v=.ref a/\LstD K H a (ns.map V.int):=by
 cases d with
 |lst ds =>
  rw[IsD.lst_iff] at i;obtain⟨a,xs,rfl,h1,h2⟩:=i;rw[NN (show Qh Xc ds=some ns from h)] at h2;rw[IsDs.ints_iff h2] at h1;exact⟨a,rfl,h1⟩
 |_=>exact J3 h
def Ce (ns:Ye):Wt (.lst (ns.map D.int))=some ns:=NO ns
def Y0:Yy->Yz
 | [d]=>(Wt d).bind λns=>if ns=[] then none else some (.int (maxI ns))
 |_=>none
def Xg:Yy->Yz
 | [d]=>(Wt d).bind λns=>if ns=[] then none else some (.int (minI ns))
 |_=>none
def Od (hc:X.calm=true):za1 X (.builtin "max") (rDA X.K Y0):=za1.weak (Nn hc) λxs H Q ⟨F,ds,z,sF,id,hz,q⟩=>by
 unfold Y0 at hz
 split at hz
 .obtain⟨ns,h1,hz⟩:=Jg.mp hz
  split at hz
  .exact J3 hz
  .rename_i hn;obtain rfl:=Zqi hz;obtain⟨v,rfl,h⟩:=Qu id;obtain⟨a,rfl,h2⟩:=Cd h1 h;exact⟨a,ns,rfl,(h2.same sF).sq,hn,q _ F H (.refl sF) (isI _ F)⟩
 .exact J3 hz
def FZ (hc:X.calm=true):za1 X (.builtin "min") (rDA X.K Xg):=za1.weak (No hc) λxs H Q ⟨F,ds,z,sF,id,hz,q⟩=>by
 unfold Xg at hz
 split at hz
 .obtain⟨ns,h1,hz⟩:=Jg.mp hz
  split at hz
  .exact J3 hz
  .rename_i hn;obtain rfl:=Zqi hz;obtain⟨v,rfl,h⟩:=Qu id;obtain⟨a,rfl,h2⟩:=Cd h1 h;exact⟨a,ns,rfl,(h2.same sF).sq,hn,q _ F H (.refl sF) (isI _ F)⟩
 .exact J3 hz
def tyN:D->Option String
 | .non=>some "NoneType"
 | .bl _=>some "bool"
 | .int _=>some "int"
 | .str _=>some "str"
 | .lst _=>some "list"
 | .tup _=>some "tuple"
 | .dct _ _=>some "dict"
 |_=>none
def tyIn (t n:String):Bool:=(t == n)||(t == "bool" && n == "int")
def Oe (t n:String):Bool:=["NoneType", "bool", "int", "str", "list", "tuple", "dict"].contains t&&["bool", "int", "str", "list", "tuple", "dict"].contains n
def gIsi:Yy->Yz
 | [d,.ty n]=>(tyN d).bind λt=>if Oe t n then some (.bl (tyIn t n)) else none
 |_=>none
def Ka:Yy->Yz
 | [.lst ds]=>some (.lst ds)
 | [.tup ds]=>some (.lst ds)
 | [.scr ns]=>some (.lst (ns.map .int))
 |_=>none
def ListP (ds:Yy)(z:D):Prop:=(∃es,ds=[.lst es]/\z=.lst es)\/(∃es,ds=[.tup es]/\z=.lst es)\/∃ns,ds=[.scr ns]/\z=.lst (ns.map .int)
def Og (hz:Ka ds=some z):ListP ds z:=by
 cases ds with
 |nil=>exact J3 hz
 |cons d ds =>
  cases ds with
  |nil =>
   cases d with
   |lst ds=>exact .inl ⟨_,rfl,(Zqi hz).symm⟩
   |tup ds=>exact .inr (.inl ⟨_,rfl,(Zqi hz).symm⟩)
   |scr ns=>exact .inr (.inr ⟨_,rfl,(Zqi hz).symm⟩)
   |_=>exact J3 hz
  |cons e ds=>cases d<;>exact J3 hz
def Y1:za1 X (.type "list") (rDAN X.K Ka):=za1.weak M8 λxs H Q ⟨F,ds,z,sF,id,hz,q⟩=>by
 have fin:∀{es:Yy} {ys:Yw},IsDs X.K F es ys->OkN X.K F H Q (.lst es)->∀l,H l=none->Q (.ref l) (upd H l (.lst ys)):=λ{es ys} h q l hl =>
  q l F _ (.keep sF hl _) hl (Qv sF hl) ⟨ys,JL,h⟩
 rcases Og hz with ⟨es,rfl,rfl⟩|⟨es,rfl,rfl⟩|⟨ns,rfl,rfl⟩
 .obtain⟨v,rfl,h⟩:=Qu id;rw[IsD.lst_iff] at h;obtain⟨a,ys,rfl,h1,h2⟩:=h;exact⟨a,ys,rfl,.inl (h1.same sF).sq,fin h2 q⟩
 .obtain⟨v,rfl,h⟩:=Qu id;rw[IsD.tup_iff] at h;obtain⟨a,ys,rfl,h1,h2⟩:=h;exact⟨a,ys,rfl,.inr (h1.same sF).sq,fin h2 q⟩
 .obtain⟨v,rfl,h⟩:=Qu id;rw[IsD.scr_iff] at h;obtain⟨a,rfl,h1⟩:=h;exact⟨a,_,rfl,.inl (Same.seq sF h1),fin (IsDs.ints _) q⟩
def KR:Yy->Yz
 | [.lst ds]=>some (.tup ds)
 | [.tup ds]=>some (.tup ds)
 |_=>none
def TupP (ds:Yy)(z:D):Prop:=(∃es,ds=[.lst es]/\z=.tup es)\/∃es,ds=[.tup es]/\z=.tup es
def Oh (hz:KR ds=some z):TupP ds z:=by
 cases ds with
 |nil=>exact J3 hz
 |cons d ds =>
  cases ds with
  |nil =>
   cases d with
   |lst ds=>exact .inl ⟨_,rfl,(Zqi hz).symm⟩
   |tup ds=>exact .inr ⟨_,rfl,(Zqi hz).symm⟩
   |_=>exact J3 hz
  |cons e ds=>cases d<;>exact J3 hz
def Xh:za1 X (.type "tuple") (rDA X.K KR):=za1.weak M9 λxs H Q ⟨F,ds,z,sF,id,hz,q⟩=>by
 rcases Oh hz with ⟨es,rfl,rfl⟩|⟨es,rfl,rfl⟩
 .obtain⟨v,rfl,h⟩:=Qu id;rw[IsD.lst_iff] at h;obtain⟨a,ys,rfl,h1,h2⟩:=h;refine⟨a,ys,rfl,.inl ⟨(h1.same sF).sq,λl hl=>?_⟩⟩;have ea:=Ext.alloc sF hl (.tup ys);exact q _ _ _ ea (IsD.tup_iff.mpr ⟨l,ys,rfl,.of JL,IsDs.same ea.ff _ _ h2⟩)
 .obtain⟨v,rfl,h⟩:=Qu id;have h':=h;rw[IsD.tup_iff] at h;obtain⟨a,ys,rfl,h1,h2⟩:=h;exact⟨a,ys,rfl,.inr ⟨(h1.same sF).sq,q _ F H (.refl sF) h'⟩⟩
def dcR (r:Jx):D:=.dct (r.map λp=>.inl p.1) (r.map λp=>.int p.2)
def Xi (r:Jx):Jx:=r.foldl (λa p=>putR a p.1 p.2) []
def Oi (r:Jx):XJ r=kvR (Xi r):=Fx r []
def Oj (h:Once r):Xi r=r:=by
 have:=Fy r [] (by simpa using h);unfold Xi;simpa using this
def Ga (r:Jx):kvR r=(r.map λp=>(Uh p.1:Key)).zip (r.map λp=>V.int p.2):=by
 unfold kvR
 induction r with
 |nil=>rfl
 |cons p r ih=>rw[Zl,ih];rfl
def Ol (K:W.Frag)(F:Hp)(r:Jx):IsDs K F (r.map λp=>D.int p.2) (r.map λp=>V.int p.2):=by
 have:=IsDs.ints (K:=K) (H:=F) (r.map (·.2));rw[Zw,Zw] at this;exact this
def KS:Yy->Yz
 | [d]=>(Kj d).bind λr=>if r.length<=100 then some (dcR (Xi r)) else none
 |_=>none
def Al (hc:X.calm=true):za1 X (.type "dict") (rDAN X.K KS):=za1.weak (Nt hc) λxs H Q ⟨F,ds,z,sF,id,hz,q⟩=>by
 unfold KS at hz
 split at hz
 .obtain⟨r,h1,hz⟩:=Jg.mp hz
  split at hz
  .rename_i hl;obtain rfl:=Zqi hz;obtain⟨v,rfl,h⟩:=Qu id;rw[FF h1,zsT] at h;have h':=Is.same sF _ _ h;obtain⟨a,ys,e,_⟩:=(show ∃a xs,v=.ref a/\_ by unfold rD at h;rw[Is.tuple_iff] at h;exact h);subst e;refine⟨a,r,rfl,h',hl,λp hp=>?_⟩;refine q p F _ (.keep sF hp _) hp (Qv sF hp) ⟨(Xi r).map λp=>V.int p.2,?_,by simp,Ol _ _ _⟩;rw[JL,Oi,Ga]
  .exact J3 hz
 .exact J3 hz
def WG:FE:=λ_=>.ok (.dct [] [])
def Cf:QN X E (.Dict [] [] pos) WG:=PE.weak MM λZ H Q ⟨B,F,sd,r,n⟩=>λp hp=>n p F _ (.keep r.ext.fh hp _) hp (Qv r.ext.fh hp) ⟨[],JL,rfl,.nil⟩
def Am (fo fk fx:FE):FE:=λsd=>(fo sd).bind λd=>match d with
 | .dct ks ds=>(fk sd).bind λk=>(fx sd).bind λx=>.ofO ((Qn k).map λq=>(valD ks ds q).getD x)
 |_=>.no
def Om (hu:X.A.units+1<cLine)(ho:QE X E o fo)(he:QE X E e fa)(hf:QE X E f fb)(mm:M2 X o "get" apos e f cpos):QE X E (.Call (.Attribute o "get" apos) [e,f] [] cpos) (Am fo fa fb):=PE.weak (MS hu ho he hf mm) λZ H Q ⟨B,F,sd,r,n⟩=>by
 refine⟨B,F,sd,r,(Res.need_bind n).mono (λd n1 v F1 H1 e1 i1=>?_) λ_ _ q=>q⟩;cases d with
 |dct ks ds =>
  rw[IsD.dct_iff] at i1;obtain⟨p,xs,rfl,h1,h2,h3⟩:=i1;have hp:=e1.fh _ _ h1;refine⟨p,rfl,.inl ⟨_,.inl hp⟩,B,F1,sd,r.step e1,(Res.need_bind n1).mono (λk n2 w F2 H2 e2 i2=>?_) λ_ _ q=>q.ext e1⟩;refine⟨B,F2,sd,(r.step e1).step e2,(Res.need_bind n2).mono (λx n3 u F3 H3 e3 i3=>?_) λ_ _ q=>q.ext (e1.trans e2)⟩;obtain⟨z,hz,q⟩:=Res.need_ofO n3;obtain⟨k',hk,hz⟩:=Ji.mp hz;subst hz;obtain⟨g1,g2⟩:=Xf k' h2 h3;refine⟨valV (ks.zip xs) k',?_,?_⟩
  .rw[WF hk i2];exact DGet.k (e3.hh _ _ (e2.hh _ _ hp))
  .cases hv:valD ks ds k' with
   |none =>
    rw[hv] at q;rw[g2 hv];exact q _ F3 H3 ((e1.trans e2).trans e3) i3
   |some d =>
    rw[hv] at q;obtain⟨y,hy,iy⟩:=g1 d hv;rw[hy];exact q _ F3 H3 ((e1.trans e2).trans e3) (IsD.same (e2.ff.trans e3.ff) _ _ iy)
 |_=>exact n1.elim
def VZ (i:Nat)(fk fv:FE):FS:=λsd=>(fv sd).bind λv=>match sd[i]? with
 |some (some (.own false (.dct ks ds)))=>(fk sd).bind λk=>match Qn k with
  |some q=>if ks.length<sizeLine then .ok (.next (sd.set i (some (.own false (.dct (VY ks q) (Ws ks ds q v)))))) else .no
  |none=>.no
 |_=>.no
def Cg (hu:X.A.units+1<cLine)(ho:PE X o (tVar j))(hi:QE X E i fi)(hv:QE X E e fv)(hs:swapsWith e (some (.Subscript o i pos')) pos.line X.env=pure false:=by rfl):
 QS X E m (.Assign [.Subscript o i pos'] e pos) (VZ j fi fv):=PS.weak (MJ hu ho hi hv hs) λT Z H ⟨B,F,sd,r,n⟩=>by
 refine⟨B,F,sd,r,(Res.need_bind n).mono (λd n1 v F1 H1 e1 i1=>?_) λ_ _ q=>q.ext r.ext⟩
 split at n1
 .rename_i ks ds hj;obtain⟨l,h1,h2,h3,⟨xs,h4,h5,h6⟩,_⟩:=(r.step e1).own hj;refine⟨.ref l,h1,B,F1,sd,r.step e1,(Res.need_bind n1).mono (λk n2 w F2 H2 e2 i2=>?_) λ_ _ q=>q.ext (r.step e1).ext⟩
  split at n2
  .rename_i q hk
   split at n2
   .rename_i hz;obtain⟨ys,y1,y2,y3⟩:=NV (K:=X.K) (q:=q) h5 (IsDs.same e2.ff _ _ h6) (IsD.same e2.ff _ _ i1);have hH:=e2.hh _ _ h4;refine⟨l,_,rfl,(by rw[WF hk i2];exact DPut.k hH (by rw[List.length_zip];omega)),?_⟩;exact n2 Z F2 _ (e1.ff.trans e2.ff) (((r.step e1).step e2).chg hj h1 ⟨ys,by rw[JL,y1],y2,y3⟩)
   .exact n2.elim
  .exact n2.elim
 .exact n1.elim
def Y2:D->Option Yy
 | .lst ds=>some ds
 | .scr ns=>some (ns.map .int)
 |_=>none
def walkT:D->Option Yy
 | .tup ds=>some ds
 |_=>none
def iL (f:FE):FA:=λsd=>(f sd).bind λd=>.ofO (Y2 d)
def iT (f:FE):FA:=λsd=>(f sd).bind λd=>.ofO (walkT d)
def An {K:W.Frag}{F1:Hp}{J:It}{ds:Yy}{xs:Yw}{S:Hp->Prop}(h:IsDs K F1 ds xs)(sm:∀F H,Same F1 F->Same F H->S H)(g:∀i H x,S H->xs[i]? = some x->J.go i H)(st:∀i H,S H->xs.length<=i->J.stop i H)
 (yl:∀i H x H',S H->J.yld i H x H'->H'=H/\xs[i]? = some x):Walk K F1 J ds:=λi F2 H2 s1 s2=>by
 have hS:=sm F2 H2 s1 s2;refine⟨λhi=>?_,λhi=>st i H2 hS (by rw[h.length];exact hi)⟩;obtain⟨x,hx,_⟩:=h.get (Zqg hi);refine⟨g i H2 x hS hx,λy H3 hy=>?_⟩;obtain⟨rfl,hy'⟩:=yl i H2 y H3 hS hy;obtain⟨d,hd,id⟩:=h.getV hy';exact⟨d,F2,hd,.refl s2,IsD.same s1 _ _ id⟩
def Oo (h:QE X E e fa):QI X E tg e (iL fa):=PI.weak (L7 h) λZ H R ⟨B,F,sd,r,n⟩=>by
 refine⟨B,F,sd,r,(Res.need_bind n).mono (λd n1 v F1 H1 e1 i1=>?_) λ_ _ q=>q⟩;obtain⟨ds,hz,q⟩:=Res.need_ofO n1;cases d with
 |lst es =>
  obtain rfl:=Zqi hz;rw[IsD.lst_iff] at i1;obtain⟨a,xs,rfl,h1,h2⟩:=i1;refine⟨a,rfl,⟨xs,(h1.same e1.fh).sq⟩,q _ F1 H1 e1 (An (S:=λH=>SqL X.K H a xs) h2 (λF H s1 s2=>((h1.same s1).same s2).sq) (λi H x hS hx=>⟨xs,x,hS,hx⟩) (λi H hS hi=>⟨xs,hS,hi⟩) λi H x H' hS hy=>⟨hy.1,hy.2 xs hS⟩)⟩
 |scr ns =>
  obtain rfl:=Zqi hz;rw[IsD.scr_iff] at i1;obtain⟨a,rfl,h1⟩:=i1;refine⟨a,rfl,⟨_,Same.seq e1.fh h1⟩,q _ F1 H1 e1 (An (S:=λH=>SqL X.K H a (ns.map V.int)) (IsDs.ints ns) (λF H s1 s2=>Same.seq s2 (Same.seq s1 h1)) (λi H x hS hx=>⟨_,x,hS,hx⟩) (λi H hS hi=>⟨_,hS,hi⟩) λi H x H' hS hy=>⟨hy.1,hy.2 _ hS⟩)⟩
 |_=>exact J3 hz
def Op (h:QE X E e fa):QI X E tg e (iT fa):=PI.weak (L8 h) λZ H R ⟨B,F,sd,r,n⟩=>by
 refine⟨B,F,sd,r,(Res.need_bind n).mono (λd n1 v F1 H1 e1 i1=>?_) λ_ _ q=>q⟩;obtain⟨ds,hz,q⟩:=Res.need_ofO n1;cases d with
 |tup es =>
  obtain rfl:=Zqi hz;rw[IsD.tup_iff] at i1;obtain⟨a,xs,rfl,h1,h2⟩:=i1;refine⟨a,rfl,⟨xs,(h1.same e1.fh).sq⟩,q _ F1 H1 e1 (An (S:=λH=>SqT X.K H a xs) h2 (λF H s1 s2=>((h1.same s1).same s2).sq) (λi H x hS hx=>⟨xs,x,hS,hx⟩) (λi H hS hi=>⟨xs,hS,hi⟩) λi H x H' hS hy=>⟨hy.1,hy.2 xs hS⟩)⟩
 |_=>exact J3 hz
def PIor {X:Cx}{tg e:Expr}{t t':TI}(h:PI X tg e t)(h':PI X tg e t'):PI X tg e (λZ H R=>t Z H R\/t' Z H R):=λY s Z H R I q=>q.elim (h Y s Z H R I) (h' Y s Z H R I)
def Wu:D->Option Yy
 | .lst ds=>some ds
 | .scr ns=>some (ns.map .int)
 | .tup ds=>some ds
 |_=>none
def iS (f:FE):FA:=λsd=>(f sd).bind λd=>.ofO (Wu d)
def JU (h:QE X E e fa):QI X E tg e (iS fa):=PI.weak (PIor (Oo (E:=E) h) (Op (E:=E) h)) λZ H R ⟨B,F,sd,r,n⟩=>by
 by_cases hd:∃ds,fa sd=.ok (.tup ds)
 .obtain⟨ds,hd⟩:=hd;refine .inr ⟨B,F,sd,r,?_⟩;unfold iS at n;unfold iT;rw[hd] at n ⊢;exact n
 .refine .inl ⟨B,F,sd,r,?_⟩;unfold iS at n;unfold iL;cases hx:fa sd with
  |ok d =>
   rw[hx] at n;cases d with
   |tup ds=>exact Zn ⟨ds,hx⟩ hd
   |_=>exact n
  |no=>rw[hx] at n;exact n
  |ex c fs=>rw[hx] at n;exact n
def JQ (lo:Int)(n:Nat):Yy:=(List.range n).map λk:Nat=>.int (lo+k)
def KU (j:Int):Bool:=Nat.ble j.toNat 1000000000&&Nat.ble (-j).toNat 1000000000
def Gb (h:KU j=true): -(2 ^ 62)<=j/\j<2 ^ 62:=by
 unfold KU at h;rw[Uc,Vs,Vs] at h;omega
def Oq (h1: -1000000000<=j)(h2:j<=1000000000):KU j=true:=by
 unfold KU;rw[Uc,Vs,Vs];omega
def iR1 (fr:FA):FA:=λsd=>(fr sd).bind λds=>match ds with
 | [.int j]=>if KU j then .ok (JQ 0 j.toNat) else .no
 |_=>.no
def iR2 (fr:FA):FA:=λsd=>(fr sd).bind λds=>match ds with
 | [.int i,.int j]=>if KU i&&KU j then .ok (JQ i (j-i).toNat) else .no
 |_=>.no
def Os {K:W.Frag}{F1:Hp}(lo:Int)(n:Nat):Walk K F1 (Itr lo n) (JQ lo n):=λi F2 H2 s1 s2=>by
 have hl:(JQ lo n).length=n:=by unfold JQ;rw[Zql,ZB]
 rw[hl];refine⟨λhi=>⟨hi,λx H3 hy=>?_⟩,λhi=>hi⟩;obtain⟨rfl,rfl⟩:=hy;refine⟨.int (lo+i),F2,?_,.refl s2,IsD.int_iff.mpr rfl⟩;unfold JQ;rw[Zv,Va hi];rfl
def Ks {a:Expr}(hg:Gl X "range")(hm:X.mg "range" = none)(ha:QA X E [a] fr)(hs:starEach [a] X.env=[(false,eval a X.env)]:=by rfl):QI X E tg (.Call (.Name "range" p) [a] [] pos) (iR1 fr):=PI.weak (LA hg hm ha hs) λZ H R ⟨B,F,sd,r,n⟩=>by
 refine⟨B,F,sd,r,(Res.need_bind n).mono (λds n1 vs F1 H1 e1 i1=>?_) λ_ _ q=>q⟩
 split at n1
 .split at n1
  .rename_i j hj;obtain⟨v,rfl,h⟩:=Qu i1;rw[IsD.int_iff.mp h];exact⟨j,rfl,(Gb hj).1,(Gb hj).2,n1 _ F1 H1 e1 (Os 0 _)⟩
  .exact n1.elim
 .exact n1.elim
end
section
variable {X:Cx}{E:XK}{m:Option Bool}{a b o i e f tg:Expr}{fa fb fo fi fv:FE}{fr:FA}{pos pos' apos cpos p:Pos}
def PG.weak (h:PG X e t)(w:∀v Z H Q,t' v Z H Q->t v Z H Q):PG X e t':=λY s Z H v u Q I r q=>h Y s Z H v u Q I r (w _ _ _ _ q)
def Ch:Yg->TGs
 | []=>gNil
 |i::is=>DY (KM i) (Ch is)
theorem Gc:∀{is:Yg} {xs:Yw} {Z: St} {H:Hp} {Q:St->Hp->Prop},xs.length=is.length->Q (Ac is xs Z) H->Ch is xs Z H Q
 | [],xs,Z,H,Q,hl,q=>⟨Jf.mp hl,q⟩
 |i::is,[],Z,H,Q,hl,q=>by cases hl
 |i::is,x::xs,Z,H,Q,hl,q=>⟨x,xs,rfl,Gc (is:=is) (xs:=xs) (U9 hl) q⟩
def JT {i:Nat}{e:Expr}(h:PG X e (KM i)):QG X e (.one i):=h
def Kb (is:Yg)(h:PG X e (gTup X.K is.length (Ch is))):QG X e (.tup is):=PG.weak h λv Z H Q ⟨a,xs,e,h1,h2,q⟩=>⟨a,xs,e,h1,h2,Gc h2 q⟩
def Kx (tg:Tg)(c:FT)(f:FE)(sd:SD):Yy->Res Yy
 | []=>.ok []
 |x::xs=>(Qa tg x sd).bind λs=>(c s).bind λb=>if b then(f s).bind λy=>(Kx tg c f sd xs).bind λys=>.ok (y::ys) else Kx tg c f sd xs
def KC (cap:List (Option Nat))(it:FA)(tg:Tg)(c:FT)(f:FE):FE:=λsd=>(it sd).bind λds=>if KB (capD cap sd) tg=true/\ds.length<sizeLine then
 (Kx tg c f (capD cap sd) ds).bind λys=>.ok (.lst ys) else .no
def Ci {K:W.Frag}{t:Tg}{fi:FA}{fc:FT}{f:FE}{cap:List (Option Nat)}{Z: St}{H:Hp}{Q:VK}(hh:tDN K E (KC cap fi t fc f) Z H Q):XE cap (tDI K E fi) (gT t K) (tDT K E fc) (tD K E f) Z H Q:=by
 obtain⟨B,F,sd,r,n⟩:=hh;refine⟨B,F,sd,r,(Res.need_bind n).mono (λds n1 J F1 H1 e1 wk=>?_) λ_ _ q=>q⟩
 split at n1
 .rename_i hh;obtain⟨hn,hz⟩:=hh;refine⟨λi k ys Z H2=>k=ds.length-i/\i<=ds.length/\∃F2 es,Ext F1 H1 F2 H2/\RS K B F2 H2 (capD cap sd) Z /\ IsDs K F2 es ys/\es.length<=i /\
   (Kx t fc f (capD cap sd) (ds.drop i)).need (λrs=>OkN K F2 H2 Q (.lst (es++rs))) (XW K E F2 H2),⟨ds.length,rfl,Ue _,F1,[],.refl e1.fh,(r.step e1).cap cap,.nil,Zf _,?_⟩,?_⟩
  .exact(Res.need_bind n1).mono (λrs q=>(show OkN K F H Q (.lst rs) from q).ext e1) λ_ _ q=>q.ext e1
  rintro i k ys Z2 H2 ⟨rfl,hi,F2,es,e2,r2,i2,hl,n2⟩;have ly:=i2.length;refine⟨(),?_⟩;obtain⟨w1,w2⟩:=wk i F2 H2 e2.ff e2.fh;by_cases hlt:i<ds.length
  .obtain⟨go,yl⟩:=w1 hlt;refine .inr ⟨go,λx H3 y=>?_⟩;obtain⟨d,F3,hd,e3,i3⟩:=yl x H3 y;rw[U6 hlt] at n2;have hd':ds[i]=d:=by rw[Zqg hlt] at hd;exact Zqi hd
   rw[hd'] at n2;unfold Kx at n2;have r3:=r2.step e3;refine Ad (K:=K) r3 i3 (Res.need_bind n2) λsd' Z' n4 hb r4=>?_;obtain⟨b1,b2⟩:=BW hn hb;refine⟨B,F3,sd',r4,(Res.need_bind n4).mono (λb n5 F4 H4 e4=>?_) λ_ _ q=>q.ext e3⟩;cases b with
   |true =>
    refine⟨B,F4,sd',r4.step e4,(Res.need_bind n5).mono (λy n6 v F5 H5 e5 i5=>?_) λ_ _ q=>q.ext (e3.trans e4)⟩;refine⟨ds.length-(i+1),(),rfl,hlt,F5,es++[y],((e2.trans e3).trans e4).trans e5,((r4.step e4).step e5).forget b1 b2,(IsDs.same ((e3.ff.trans e4.ff).trans e5.ff) _ _ i2).snoc i5,by rw[Ub];exact VR hl,?_⟩;refine(Res.need_bind n6).mono (λrs q=>?_) λ_ _ q=>q.ext ((e3.trans e4).trans e5);rw[UC];exact(show OkN K F2 H2 Q (.lst (es++y::rs)) from q).ext ((e3.trans e4).trans e5)
   |false =>
    refine⟨ds.length-(i+1),(),rfl,hlt,F4,es,(e2.trans e3).trans e4,(r4.step e4).forget b1 b2,IsDs.same (e3.ff.trans e4.ff) _ _ i2,Nat.le_succ_of_le hl,?_⟩;exact(show(Kx t fc f (capD cap sd) (ds.drop (i+1))).need _ _ from n5).mono (λrs q=>q.ext (e3.trans e4)) λ_ _ q=>q.ext (e3.trans e4)
  .have he:i=ds.length:=()
   subst he;refine .inl ⟨w2 (Zf _),λD hD=>?_⟩;rw[Vr] at n2;have q:OkN K F2 H2 Q (.lst (es++[])):=n2;rw[ZA] at q;exact q D F2 _ (.keep r2.ext.fh hD _) hD (Qv r2.ext.fh hD) ⟨ys,JL,i2⟩
 .exact n1.elim
def Gd {tg iter elt c:Expr}{scope:Scope}{t:Tg}{fi:FA}{fc:FT}{f:FE}(N:Yh)(cap:List (Option Nat))(hc:X.calm=true)(okB:QQ scope X.env N X.N cap=true)(hi:QI X E tg iter fi)
 (hg:∀cl C s H ex,QG (JI X scope N cl C s H ex) tg t) (ht:∀cl C s H ex,QT (JI X scope N cl C s H ex) E c fc) (he:∀cl C s H ex,QE (JI X scope N cl C s H ex) E elt f) (hs:∀x,foldedSetIterable iter X.env x=pure x:=by intro _;rfl):
 QN X E (.ListComp elt [⟨tg,iter,[c],0⟩] scope pos) (KC cap fi t fc f):=PE.weak (N2 (g:=gT t X.K) (tt:=tDT X.K E fc) (te:=tD X.K E f) N cap hc okB hi hg ht he hs) λ_ _ _ h=>Ci h
def WH:List Key->Yy->Option Jx
 | .inl k::ks,.int v::ds=>(WH ks ds).map λr=>(k,v)::r
 | [],[]=>some []
 |_,_=>none
def Ot (ks:List Key)(ds:Yy)(r:Jx):Prop:=ks=r.map (λp=>.inl p.1)/\ds=r.map λp=>.int p.2
def Ou (h:WH ks ds=some r):Ot ks ds r:=by
 induction ks generalizing ds r with
 |nil =>
  cases ds with
  |nil=>obtain rfl:=Zqi h;exact⟨rfl,rfl⟩
  |cons _ _=>exact J3 h
 |cons k ks ih =>
  cases k with
  |inr _=>exact J3 h
  |inl k =>
   cases ds with
   |nil=>exact J3 h
   |cons d ds =>
    cases d with
    |int v =>
     obtain⟨r',h1,h2⟩:=Ji.mp (show(WH ks ds).map (λr=>(k,v)::r)=some r from h);subst h2;exact⟨Zt (Uh k :: ·) (ih h1).1,Zt (D.int v :: ·) (ih h1).2⟩
    |_=>exact J3 h
def Ov (r:Jx):WH (r.map λp=>.inl p.1) (r.map λp=>.int p.2)=some r:=by
 induction r with
 |nil=>rfl
 |cons p r ih=>exact Zt (Option.map λr=>(p.1,p.2)::r) ih
def Ext.many (s:Same F H)(fr:∀p∈L,H p.1=none):Ext F H (newH F L) (newH H L):=by
 have old:∀{G:Hp} {b:Addr},H b≠none->newH G L b=G b:=λ{G b} hb=>Aa λp hp z=>hb (by rw[<- z];exact fr p hp);have ne:∀{b:Addr} {o:HO},H b=some o->H b≠none:=λ{b o} e z=>by rw[e] at z;cases z
 refine⟨λb o e=>by rw[old (ne (s _ _ e))];exact e,λb o e=>?_,λb o e=>by rw[old (ne e)];exact e,λa e n=>by rw[old n];exact e⟩;rcases Ft e with h|⟨h1,h2⟩
 .unfold newH at e ⊢
  split at e
  .exact e
  .exact s _ _ e
 .rw[Aa h1];exact s _ _ h2
def Cj:D->Yz
 | .dct ks ds=>(WH ks ds).bind λr=>if r ≠ []/\r.length<64 then some (.lst ((JO pltB r).map prD)) else none
 |_=>none
def Ck (fo:FE):FE:=λsd=>(fo sd).bind λd=>.ofO (Cj d)
def Ow (h:∀{to:TE},PE X o to->PE X e (tCB (λxs H Q=>∃vw d r,xs=[.ref vw]/\H vw=some (K4 vw d)/\H d=some (.dK (kvR r))/\r ≠ []/\r.length<64/\∀l L,(∀p∈L,H p.1=none)->(L.map (·.1)).Nodup->(∀G,Is (newH G L) (.list ((JO pltB r).map pD)) (.ref l))->Q (.ref l) (newH H L))
 (ZQ (tBM0 X.K "dict" (λx vs H Q=>∃d kvs,x=.ref d/\vs=[]/\H d=some (.dK kvs)/\∀p,H p=none->Q (.ref p) (upd H p (K4 p d))) to) tNil))) (ho:QE X E o fo):QE X E e (Ck fo):=PE.weak (h ho) λZ H Q ⟨B,F,sd,r,n⟩=>by
 refine⟨B,F,sd,r,(Res.need_bind n).mono (λd n1 v F1 H1 e1 i1=>?_) λ_ _ q=>q⟩;obtain⟨z,hz,q⟩:=Res.need_ofO n1;cases d with
 |dct ks ds =>
  obtain⟨rr,h1,h2⟩:=Jg.mp (show(WH ks ds).bind (λr=>if r ≠ []/\r.length<64 then some (D.lst ((JO pltB r).map prD)) else none)=some z from hz)
  split at h2
  .rename_i hc;obtain rfl:=Zqi h2;obtain⟨k1,k2⟩:=Ou h1;rw[IsD.dct_iff] at i1;obtain⟨d,xs,rfl,g1,g2,g3⟩:=i1;have ex:xs=rr.map λp=>V.int p.2:=by
    have g3':=g3;rw[k2] at g3';have:=IsDs.ints_iff (ns:=rr.map (·.2)) (by rw[Zw];exact g3');rw[this,Zw];rfl
   have hd:F1 d=some (.dK (kvR rr)):=by rw[g1,k1,ex,<- Ga]
   have hd':=e1.fh _ _ hd;refine⟨.inr (.inr (.inl ⟨rfl,.inl ⟨_,hd'⟩⟩)),d,_,rfl,rfl,hd',λvw hvw=>?_⟩;have sn:=Kh hvw (K4 vw d);refine⟨vw,d,rr,rfl,JL,sn _ _ hd',hc.1,hc.2,λl L fr nd hl=>?_⟩;have ek:Ext F1 H1 F1 (upd H1 vw (K4 vw d)):=.keep e1.fh hvw _;have en:=Ext.many ek.fh fr;refine q _ _ _ (e1.trans (ek.trans en)) ?_;obtain⟨l',ys,e',g4,g5⟩:=Is.list_iff.mp (hl F1);exact IsD.lst_iff.mpr ⟨l',ys,e',.of g4,zfn.mpr g5⟩
  .exact J3 h2
 |_=>exact J3 hz
end
section
variable {X:Cx}{E:XK}{m:Option Bool}{a b o i e f tg:Expr}{fa fb fo fi fv:FE}{fr:FA}{pos pos' apos cpos p:Pos}
def gIsN (neg:Bool):D->Yz
 | .non=>some (.bl (!neg))
 |_=>some (.bl neg)
def Ox:D->Bool
 | .non=>true
 |_=>false
def Ge {K:W.Frag}{H:Hp}{d:D}{v:V}(h:IsD K H d v):decide (v=.non)=Ox d:=by
 cases d with
 |non=>rw[IsD.non_iff.mp h];rfl
 |bl b=>rw[IsD.bl_iff.mp h];rfl
 |int b=>rw[IsD.int_iff.mp h];rfl
 |str b=>rw[IsD.str_iff.mp h];rfl
 |ty b=>rw[IsD.ty_iff.mp h];rfl
 |scr b=>obtain⟨a,rfl,_⟩:=IsD.scr_iff.mp h;rfl
 |tup b=>obtain⟨a,_,rfl,_⟩:=IsD.tup_iff.mp h;rfl
 |lst b=>obtain⟨a,_,rfl,_⟩:=IsD.lst_iff.mp h;rfl
 |dct b c=>obtain⟨a,_,rfl,_⟩:=IsD.dct_iff.mp h;rfl
 |ins b c d=>obtain⟨a,_,_,_,rfl,_⟩:=IsD.ins_iff.mp h;rfl
 |exc b=>obtain⟨a,_,rfl,_⟩:=IsD.exc_iff.mp h;rfl
 |ucl b=>obtain⟨a,rfl,_⟩:=IsD.ucl_iff.mp h;rfl
 |adr b=>rw[IsD.adr_iff.mp h];rfl
 |dcf b c=>obtain⟨a,_,_,rfl,_⟩:=IsD.dcf_iff.mp h;rfl
 |pin b c=>rw[(IsD.pin_iff.mp h).1];rfl
def Oy {K:W.Frag}{Z: St}{H:Hp}{Q:VK}(h:tD K E (dUn (gIsN false) fa) Z H Q):tIsN (tD K E fa) Z H Q:=by
 obtain⟨B,F,sd,r,n⟩:=h;refine⟨B,F,sd,r,(Res.need_bind n).mono (λx n1 v F1 H1 e1 i1=>?_) λ_ _ q=>q⟩;show Q (V.bl (decide (v=V.non))) H1;rw[Ge i1];cases x<;>exact n1 _ F1 H1 e1 (IsD.bl_iff.mpr rfl)
def Oz {K:W.Frag}{Z: St}{H:Hp}{Q:VK}(h:tD K E (dUn (gIsN true) fa) Z H Q):DV (tD K E fa) Z H Q:=by
 obtain⟨B,F,sd,r,n⟩:=h;refine⟨B,F,sd,r,(Res.need_bind n).mono (λx n1 v F1 H1 e1 i1=>?_) λ_ _ q=>q⟩;show Q (V.bl !decide (v=V.non)) H1;rw[Ge i1];cases x<;>exact n1 _ F1 H1 e1 (IsD.bl_iff.mpr rfl)
def O0 {j pos'}(ha:QE X E a fa):QT X E (.Compare a [.Is] [.Constant .none j pos'] pos) (J7 (dUn (gIsN false) fa)):=PT.weak (ZL (Lg ha)) λ_ _ _ h=>Oy (KO h)
def O1 {j pos'}(ha:QE X E a fa):QT X E (.Compare a [.IsNot] [.Constant .none j pos'] pos) (J7 (dUn (gIsN true) fa)):=PT.weak (ZL (Lh ha)) λ_ _ _ h=>Oz (KO h)
def Wa (i:Nat)(fb:FE):FE:=λsd=>match sd[i]? with
 |some (some (.own _ d))=>(fb sd).bind λy=>.ofO (gIx d y)
 |_=>.no
def Cm {i:Nat}(hu:X.A.units+1<cLine)(ha:PE X a (tVar i))(hb:QE X E b fb)(hs:B7 b)(hs2:NoSl b):QE X E (.Subscript a b pos) (Wa i fb):=
 PE.weak (PE.or (E5 hu ha hb hs2) (Et zly ha hb hs)) λZ H Q ⟨B,F,sd,r,n⟩=>by
  unfold Wa at n
  split at n
  .rename_i p d hi;obtain⟨l,h1,h2,h3,h4,_⟩:=r.own hi;cases d with
   |lst ds =>
    obtain⟨xs,g1,g2⟩:=h4;refine .inr ⟨.ref l,h1,B,F,sd,r,(Res.need_bind n).mono (λy n1 w F1 H1 e1 i1=>?_) λ_ _ q=>q⟩;obtain⟨z,hz,q⟩:=Res.need_ofO n1;cases y with
    |int k =>
     obtain⟨x,hx,ix⟩:=BZ g2 (show atI ds k=some z from hz);exact⟨l,xs,k,x,rfl,IsD.int_iff.mp i1,SqL.of (e1.hh _ _ g1),hx,q _ F1 H1 e1 (IsD.same e1.ff _ _ ix)⟩
    |_=>exact J3 hz
   |dct ks ds =>
    obtain⟨xs,g1,g2,g3⟩:=h4;refine .inl ⟨.ref l,h1,B,F,sd,r,(Res.need_bind n).mono (λy n1 w F1 H1 e1 i1=>?_) λ_ _ q=>q⟩;obtain⟨z,hz,q⟩:=Res.need_ofO n1;obtain⟨k,hk,hz⟩:=Jg.mp (show(Qn y).bind (λq=>valD ks ds q)=some z from hz);obtain⟨x,hx,ix⟩:=(Xf k g2 g3).1 z hz;refine⟨l,x,rfl,?_,q x F1 H1 e1 (IsD.same e1.ff _ _ ix)⟩;rw[WF hk i1,<- hx];exact DGet.k (e1.hh _ _ g1)
   |ins c fs ds =>
    refine .inr ⟨.ref l,h1,B,F,sd,r,(Res.need_bind n).mono (λy n1 w F1 H1 e1 i1=>?_) λ_ _ q=>q⟩;obtain⟨z,hz,q⟩:=Res.need_ofO n1;cases y<;>exact J3 hz
   |_=>exact h4.elim
  .exact n.elim
def Gf (i:Nat):FE:=λsd=>match sd[i]? with
 |some (some (.own _ (.lst ds)))=>.ok (.lst ds)
 |_=>.no
end
end L2.DL
namespace L2
section
variable {X:Cx}{tg iter elt c:Expr}{scope:Scope}{pos:Pos}{wi:TI}{g:TG}{te:TE}{tt:TT}
def Gg (hNN:X.N.Nodup)(hiy:X.N[iy]? = some y)(hyy:Loc X.env.scope y)(hyf:X.fn y=true\/X.env.scope.names.lookup y=some .local):
 XF X Y Z (λv H'=>DD.nx (Z.set iy (some v)) H') (some (assign (.Name y py) X.env)) (λ_ s'=>SP X Y DD .next s'):=λC D m s5 r hm nC nF sz cC pC k=>by
 obtain⟨v5,H5,K5,rv5,fC,q5⟩:=k s5.heap ⟨rfl,λ_ _=>rfl⟩;obtain⟨oC,esC,epC,hoC,hdC,hrC⟩:=id hm;have KP:Inv X (Y++[(C,oC)]) Z H5 { s5 with heap:=s5.heap }:=K5.pins_of λp hp=>by
  rcases Jc.mp hp with hp|hp
  .exact K5.pin p (Ul _ hp)
  .have e:=Vu.mp hp;subst e;exact⟨hoC,fC,nC,nF,λv z=>by rw[show oC.data=_ from z] at hdC;cases hdC⟩
 refine wpAny_assign_Name (ZK KP hNN hiy hyy rv5 (λs6 I6=>?_) hyf);have p6:=I6.pin (C,oC) (Ul _ (Ul _ Zqs));refine⟨m,⟨oC,esC,epC,p6.1,hdC,hrC⟩,λh' hs'=>⟨_,H5,?_,q5⟩⟩;exact(I6.pins_of (Y':=Y) λp hp=>I6.pin p (Ul _ (UP _ hp))).turned (t':=s6.toks) (it:=C) (λb o hb e=>(hs'.2 b hb).trans e) fC nC (.inr sz) cC pC
def Gh (hsw:swapsWith (.ListComp elt [⟨tg,iter,[],0⟩] scope pos) (some (.Name y py)) spos.line X.env=pure true)(hNN:X.N.Nodup)(hiy:X.N[iy]? = some y)(hyy:Loc X.env.scope y)(hyf:X.fn y=true\/X.env.scope.names.lookup y=some .local)(N:Yh)(cap:List (Option Nat))(hc:X.calm=true)(okB:QQ scope X.env N X.N cap=true)(hi:PI X tg iter wi)(hg:∀cl C s H ex,PG (JI X scope N cl C s H ex) tg g)(he:∀cl C s H ex,PE (JI X scope N cl C s H ex) elt te)
 (hs:∀x,foldedSetIterable iter X.env x=pure x:=by intro _;rfl):PS X (.Assign [.Name y py] (.ListComp elt [⟨tg,iter,[],0⟩] scope pos) spos) (tAsg (WV cap wi g te) (KM iy)):=by
 intro Y s Z H DD I h;rw[exec_Assign_Name_used _ _ _ _ hsw];refine Za (wpAny_standAt (Za ?_));refine Za (Zc (EF (use:=some (assign (.Name y py) X.env)) (R:=λ_ s'=>SP X Y DD .next s') N cap hc okB hi hg (λcl C s H ex _=>he cl C s H ex) hs I h (Gg hNN hiy hyy hyf)) (λ_ s' hq=>Zb (Zb hq)) λ_ _ e=>e)
def Gi (hsw:swapsWith (.ListComp elt [⟨tg,iter,[c],0⟩] scope pos) (some (.Name y py)) spos.line X.env=pure true)(hNN:X.N.Nodup)(hiy:X.N[iy]? = some y)(hyy:Loc X.env.scope y)(hyf:X.fn y=true\/X.env.scope.names.lookup y=some .local)(N:Yh)(cap:List (Option Nat))(hc:X.calm=true)(okB:QQ scope X.env N X.N cap=true)(hi:PI X tg iter wi)(hg:∀cl C s H ex,PG (JI X scope N cl C s H ex) tg g)(ht:∀cl C s H ex,PT (JI X scope N cl C s H ex) c tt)(he:∀cl C s H ex,PE (JI X scope N cl C s H ex) elt te)
 (hs:∀x,foldedSetIterable iter X.env x=pure x:=by intro _;rfl):PS X (.Assign [.Name y py] (.ListComp elt [⟨tg,iter,[c],0⟩] scope pos) spos) (tAsg (XE cap wi g tt te) (KM iy)):=by
 intro Y s Z H DD I h;rw[exec_Assign_Name_used _ _ _ _ hsw];refine Za (wpAny_standAt (Za ?_));refine Za (Zc (Fq (use:=some (assign (.Name y py) X.env)) (R:=λ_ s'=>SP X Y DD .next s') N cap hc okB hi hg ht he hs I h (Gg hNN hiy hyy hyf)) (λ_ s' hq=>Zb (Zb hq)) λ_ _ e=>e)
end
end L2
namespace L2.DL
section
variable {X:Cx}{E:XK}{m:Option Bool}{tg iter elt c:Expr}{scope:Scope}{pos spos py:Pos}{y:Str}{iy:Nat}{t:Tg}{fi:FA}{fc:FT}{f:FE}
def Gj {K:W.Frag}{te:TE}{i:Nat}{fe:FE}(w:∀Z H Q,tDN K E fe Z H Q->te Z H Q){T:Ends}{Z: St}{H:Hp}(h:tDS K E m (sSet i fe) T Z H):tAsg te (KM i) T Z H:=w _ _ _ (by
 obtain⟨B,F,sd,r,n⟩:=h;refine⟨B,F,sd,r,(Res.need_bind n).mono (λd n1=>OkD.new λv F1 H1 e1 i1=>?_) λ_ _ q=>q.ext r.ext⟩;exact n1 _ F1 H1 e1.ff ((r.step e1).setVal i1))
def Gk {K:W.Frag}{te:TE}{i:Nat}{fe:FE}(w:∀Z H Q,tDN K E fe Z H Q->te Z H Q){T:Ends}{Z: St}{H:Hp}(h:tDS K E m (sOwn i fe) T Z H):tAsg te (KM i) T Z H:=w _ _ _ (by
 obtain⟨B,F,sd,r,n⟩:=h;refine⟨B,F,sd,r,(Res.need_bind n).mono (λd n1 l F1 H1 e1 h1 h2 h3=>?_) λ_ _ q=>q.ext r.ext⟩;refine n1 _ F1 H1 e1.ff ((r.step e1).setOwn (Qv r.ext.hh h1) h2 h3 λj p d' q1 q2=>?_);obtain⟨l',p1,_,_,p4,_⟩:=r.own q1;rw[p1] at q2;cases q2;obtain⟨o,ho⟩:=p4.has;rw[h1] at ho;exact J3 ho)
def Gm (N:Yh)(cap:List (Option Nat))(hNN:X.N.Nodup)(hiy:X.N[iy]? = some y)(hyy:Loc X.env.scope y)(hc:X.calm=true)(okB:QQ scope X.env N X.N cap=true)(hi:QI X E tg iter fi)
 (hg:∀cl C s H ex,QG (JI X scope N cl C s H ex) tg t) (he:∀cl C s H ex,QE (JI X scope N cl C s H ex) E elt f) (hsw:swapsWith (.ListComp elt [⟨tg,iter,[],0⟩] scope pos) (some (.Name y py)) spos.line X.env=pure true:=by rfl)
 (hyf:X.fn y=true\/X.env.scope.names.lookup y=some .local:=by trivial) (hs:∀x,foldedSetIterable iter X.env x=pure x:=by intro _;rfl):
 QS X E m (.Assign [.Name y py] (.ListComp elt [⟨tg,iter,[],0⟩] scope pos) spos) (sOwn iy (Qq cap fi t f)):=by
 have hh:=Gh (g:=gT t X.K) (te:=tD X.K E f) hsw hNN hiy hyy hyf N cap hc okB hi hg he hs;exact PS.weak hh λT Z H h=>Gk (λ_ _ _ q=>FC q) h
def Gn (N:Yh)(cap:List (Option Nat))(hNN:X.N.Nodup)(hiy:X.N[iy]? = some y)(hyy:Loc X.env.scope y)(hc:X.calm=true)(okB:QQ scope X.env N X.N cap=true)(hi:QI X E tg iter fi)
 (hg:∀cl C s H ex,QG (JI X scope N cl C s H ex) tg t) (ht:∀cl C s H ex,QT (JI X scope N cl C s H ex) E c fc) (he:∀cl C s H ex,QE (JI X scope N cl C s H ex) E elt f) (hsw:swapsWith (.ListComp elt [⟨tg,iter,[c],0⟩] scope pos) (some (.Name y py)) spos.line X.env=pure true:=by rfl)
 (hyf:X.fn y=true\/X.env.scope.names.lookup y=some .local:=by trivial) (hs:∀x,foldedSetIterable iter X.env x=pure x:=by intro _;rfl):
 QS X E m (.Assign [.Name y py] (.ListComp elt [⟨tg,iter,[c],0⟩] scope pos) spos) (sSet iy (KC cap fi t fc f)):=by
 have hh:=Gi (g:=gT t X.K) (tt:=tDT X.K E fc) (te:=tD X.K E f) hsw hNN hiy hyy hyf N cap hc okB hi hg ht he hs;exact PS.weak hh λT Z H h=>Gj (λ_ _ _ q=>Ci q) h
end
def Go:Option (Option SV)->Res D
 |some (some (.val d))=>.ok d
 |_=>.no
@[simp]def zvk (d:D):Go (some (some (.val d)))=.ok d:=rfl
@[simp]def ev_var (i:Nat)(sd:SD):dVar i sd=Go sd[i]?:= rfl
@[simp]def ev_C (d:D)(sd:SD):dC d sd=.ok d:=rfl
@[simp]def ev_op (g:D->D->Yz)(fa fb:FE)(sd:SD):dOp g fa fb sd=(fa sd).bind λx=>(fb sd).bind λy=>.ofO (g x y):=rfl
@[simp]def ev_un (g:D->Yz)(fa:FE)(sd:SD):dUn g fa sd=(fa sd).bind λx=>.ofO (g x):=rfl
def bOf:D->Res Bool
 | .bl b=>.ok b
 |_=>.no
@[simp]def bOf_bl (b:Bool):bOf (.bl b)=.ok b:=rfl
@[simp]def ev_bool (fa:FE)(sd:SD):J7 fa sd=(fa sd).bind bOf:=by
 unfold J7;cases fa sd with
 |ok d=>cases d<;>rfl
 |ex c fs=>rfl
 |no=>rfl
@[simp]def ev_notT (f:FT)(sd:SD):Q8 f sd=(f sd).bind λb=>.ok (!b):=rfl
@[simp]def ev_andT (f g:FT)(sd:SD):K8 f g sd=(f sd).bind λb=>if b then g sd else .ok false:=rfl
@[simp]def ev_orT (f g:FT)(sd:SD):dOrT f g sd=(f sd).bind λb=>if b then .ok true else g sd:=rfl
@[simp]def ev_andV (fa fb:FE)(sd:SD):BT fa fb sd=(J7 fa sd).bind λb=>if b then fb sd else .ok (.bl false):=rfl
@[simp]def ev_orV (fa fb:FE)(sd:SD):dOrV fa fb sd=(J7 fa sd).bind λb=>if b then .ok (.bl true) else fb sd:=rfl
@[simp]def ev_notV (fa:FE)(sd:SD):dNotV fa sd=(J7 fa sd).bind λb=>.ok (.bl !b):=rfl
@[simp]def ev_if (c:FT)(fa fb:FE)(sd:SD):dIf c fa fb sd=(c sd).bind λk=>if k then fa sd else fb sd:=rfl
@[simp]def ev_nil (sd:SD):dNil sd=.ok []:=rfl
@[simp]def ev_cons (fa:FE)(fr:FA)(sd:SD):Jz fa fr sd=(fa sd).bind λx=>(fr sd).bind λxs=>.ok (x::xs):=rfl
@[simp]def ev_lst (fr:FA)(sd:SD):dLst fr sd=(fr sd).bind λxs=>if xs.length<=1000 then .ok (.lst xs) else .no:=rfl
@[simp]def ev_tup (fr:FA)(sd:SD):dTup fr sd=(fr sd).bind λxs=>if xs.length<=1000 then .ok (.tup xs) else .no:=rfl
@[simp]def ev_call (Fn:Yy->Res D)(fr:FA)(sd:SD):J8 Fn fr sd=(fr sd).bind Fn:=rfl
@[simp]def ev_blt (g:Yy->Yz)(fr:FA)(sd:SD):dBlt g fr sd=(fr sd).bind λxs=>.ofO (g xs):=rfl
@[simp]def bare_ok {α: Type}(a:α):(Res.ok a).bare=.ok a:=rfl
@[simp]def bare_no {α: Type}:(Res.no:Res α).bare=.no:=rfl
@[simp]def ev_tmp (is:Yg)(f:FE)(sd:SD):dTmp is f sd=(f (frzD is sd)).bare.bind λd=>if Qk d then .ok d else .no:=rfl
@[simp]def ev_tmpT (is:Yg)(f:FT)(sd:SD):WA is f sd=(f (frzD is sd)).bare:=rfl
@[simp]def scal_int (i:Int):Qk (.int i)=true:=rfl
@[simp]def scal_bl (i:Bool):Qk (.bl i)=true:=rfl
@[simp]def scal_str (i:Str):Qk (.str i)=true:=rfl
@[simp]def scal_non:Qk .non=true:=rfl
@[simp]def frzD_nil (sd:SD):frzD [] sd=sd:=rfl
def frz1 (i:Nat)(sd:SD):Option (Option SV)->SD
 |some (some (.own _ d))=>sd.set i (some (.val d))
 |_=>sd
@[simp]def frz1_own (i:Nat)(sd:SD)(p:Bool)(d:D):frz1 i sd (some (some (.own p d)))=sd.set i (some (.val d)):=rfl
@[simp]def frz1_val (i:Nat)(sd:SD)(d:D):frz1 i sd (some (some (.val d)))=sd:=rfl
@[simp]def zxn (i:Nat)(sd:SD):frz1 i sd (some none)=sd:=rfl
@[simp]def ztS (i:Nat)(is:Yg)(sd:SD):frzD (i::is) sd=frzD is (frz1 i sd sd[i]?):=by
 show frzD is _=frzD is _
 congr 1
def seqK (g:FS):Out->Res Out
 | .next sd=>g sd
 |o=>.ok o
@[simp]def zwU (g:FS)(sd:SD):seqK g (.next sd)=g sd:=rfl
@[simp]def seqK_ret (g:FS)(d:D):seqK g (.ret d)=.ok (.ret d):=rfl
@[simp]def seqK_brk (g:FS)(d:SD):seqK g (.brk d)=.ok (.brk d):=rfl
@[simp]def zud (g:FS)(d:SD):seqK g (.cont d)=.ok (.cont d):=rfl
@[simp]def O2 (g1 g2:FS)(sd:SD):sSeq g1 g2 sd=(g1 sd).bind (seqK g2):=by
 unfold sSeq;cases g1 sd with
 |ok o=>cases o<;>rfl
 |ex c fs=>rfl
 |no=>rfl
@[simp]def ev_next (sd:SD):JF sd=.ok (.next sd):=rfl
@[simp]def ev_brk (sd:SD):sBrk sd=.ok (.brk sd):=rfl
@[simp]def ev_cont (sd:SD):sCont sd=.ok (.cont sd):=rfl
@[simp]def ev_set (i:Nat)(f:FE)(sd:SD):sSet i f sd=(f sd).bind λd=>.ok (.next (sd.set i (some (.val d)))):=rfl
@[simp]def ev_own (i:Nat)(f:FE)(sd:SD):sOwn i f sd=(f sd).bind λd=>.ok (.next (sd.set i (some (.own false d)))):=rfl
@[simp]def ev_ret (f:FE)(sd:SD):sRet f sd=(f sd).bind λd=>.ok (.ret d):=rfl
@[simp]def ev_ret0 (sd:SD):sRet0 sd=.ok (.ret .non):=rfl
def ownV:Option (Option SV)->Res D
 |some (some (.own _ d))=>.ok d
 |_=>.no
@[simp]def ownV_own (p:Bool)(d:D):ownV (some (some (.own p d)))=.ok d:=rfl
@[simp]def zvL (i:Nat)(sd:SD):Ko i sd=(ownV sd[i]?).bind λd=>.ok (.ret d):=by
 unfold Ko;cases sd[i]? with
 |none=>rfl
 |some o =>
  cases o with
  |none=>rfl
  |some v=>cases v<;>rfl
@[simp]def ev_drop (f:FE)(sd:SD):Wp f sd=(f sd).bind λ_=>.ok (.next sd):=rfl
@[simp]def ev_ifS (c:FT)(g1 g2:FS)(sd:SD):sIf c g1 g2 sd=(c sd).bind λb=>if b then g1 sd else g2 sd:=rfl
def ownL:Option (Option SV)->Res Yy
 |some (some (.own false (.lst ds)))=>.ok ds
 |_=>.no
@[simp]def ownL_own (ds:Yy):ownL (some (some (.own false (.lst ds))))=.ok ds:=rfl
@[simp]def zvq (i:Nat)(f:FE)(sd:SD):Qt i f sd=(ownL sd[i]?).bind λds=>(f sd).bind λd=>if ds.length<sizeLine then .ok (.next (sd.set i (some (.own false (.lst (ds++[d])))))) else .no:=by
 unfold Qt;cases sd[i]? with
 |none=>rfl
 |some o =>
  cases o with
  |none=>rfl
  |some v =>
   cases v with
   |val d=>rfl
   |own p d=>cases p<;>cases d<;>rfl
def Xj:D->Res Yy
 | .lst es=>.ok es
 |_=>.no
@[simp]def zuc (es:Yy):Xj (.lst es)=.ok es:=rfl
@[simp]def zuI (i:Nat)(f:FE)(sd:SD):XT i f sd=(ownL sd[i]?).bind λds=>(f sd).bind λd=>(Xj d).bind λes=>if ds.length+es.length<=sizeLine then .ok (.next (sd.set i (some (.own false (.lst (ds++es)))))) else .no:=by
 unfold XT;cases sd[i]? with
 |none=>rfl
 |some o =>
  cases o with
  |none=>rfl
  |some v =>
   cases v with
   |val d=>rfl
   |own p d =>
    cases p with
    |true=>cases d<;>rfl
    |false =>
     cases d with
     |lst ds =>
      show(f sd).bind _=(f sd).bind _;cases f sd with
      |ok x=>cases x<;>rfl
      |ex c fs=>rfl
      |no=>rfl
     |_=>rfl
def ownK:Option (Option SV)->Res (List Key×Yy)
 |some (some (.own false (.dct ks ds)))=>.ok (ks,ds)
 |_=>.no
@[simp]def ownK_own (ks:List Key)(ds:Yy):ownK (some (some (.own false (.dct ks ds))))=.ok (ks,ds):=rfl
@[simp]def ev_dput (i:Nat)(fk fv:FE)(sd:SD):VZ i fk fv sd=(fv sd).bind λv=>(ownK sd[i]?).bind λo=>(fk sd).bind λk=>(Res.ofO (Qn k)).bind λq=>if o.1.length<sizeLine then .ok (.next (sd.set i (some (.own false (.dct (VY o.1 q) (Ws o.1 o.2 q v)))))) else .no:=by
 unfold VZ;cases fv sd with
 |ok v =>
  show(match sd[i]? with
   |some (some (.own false (.dct ks ds)))=>_
   |_=>_)=(ownK sd[i]?).bind _
  cases sd[i]? with
  |none=>rfl
  |some o =>
   cases o with
   |none=>rfl
   |some w =>
    cases w with
    |val d=>rfl
    |own p d =>
     cases p with
     |true=>cases d<;>rfl
     |false =>
      cases d with
      |dct ks ds =>
       show(fk sd).bind _=(fk sd).bind _;cases fk sd with
       |ok k=>show(match Qn k with|some q=>_|none=>_)=(Res.ofO (Qn k)).bind _;cases Qn k<;>rfl
       |ex c fs=>rfl
       |no=>rfl
      |_=>rfl
 |ex c fs=>rfl
 |no=>rfl
def outV:Out->Res D
 | .ret d=>.ok d
 | .next _=>.ok .non
 |_=>.no
@[simp]def outV_ret (d:D):outV (.ret d)=.ok d:=rfl
@[simp]def zxt (sd:SD):outV (.next sd)=.ok .non:=rfl
def Xk (n ar:Nat)(g:FS)(ds:Yy)(h:ds.length=ar):runD n ar g ds=(g (Q5 n ds)).bind outV:=by
 unfold runD;rw[Zd h];cases g (Q5 n ds) with
 |ok o=>cases o<;>rfl
 |ex c fs=>rfl
 |no=>rfl
def outN:Out->Res D
 | .ret d=>.ok d
 |_=>.no
@[simp]def outN_ret (d:D):outN (.ret d)=.ok d:=rfl
def Ao (n ar:Nat)(g:FS)(ds:Yy)(h:ds.length=ar):runN n ar g ds=(g (Q5 n ds)).bind outN:=by
 unfold runN;rw[Zd h];cases g (Q5 n ds) with
 |ok o=>cases o<;>rfl
 |ex c fs=>rfl
 |no=>rfl
@[simp]def run_d1 (n:Nat)(g:FS)(a:D):runD n 1 g [a]=(g (some (.val a)::List.replicate (n-1) none)).bind outV:=Xk n 1 g [a] rfl
@[simp]def run_d2 (n:Nat)(g:FS)(a b:D):runD n 2 g [a,b]=(g (some (.val a)::some (.val b)::List.replicate (n-2) none)).bind outV:=Xk n 2 g [a,b] rfl
@[simp]def run_d3 (n:Nat)(g:FS)(a b c:D):runD n 3 g [a,b,c]=(g (some (.val a)::some (.val b)::some (.val c)::List.replicate (n-3) none)).bind outV:=Xk n 3 g [a,b,c] rfl
@[simp]def run_d4 (n:Nat)(g:FS)(a b c d:D):runD n 4 g [a,b,c,d]=(g (some (.val a)::some (.val b)::some (.val c)::some (.val d)::List.replicate (n-4) none)).bind outV:=Xk n 4 g [a,b,c,d] rfl
@[simp]def run_n1 (n:Nat)(g:FS)(a:D):runN n 1 g [a]=(g (some (.val a)::List.replicate (n-1) none)).bind outN:=Ao n 1 g [a] rfl
@[simp]def run_n2 (n:Nat)(g:FS)(a b:D):runN n 2 g [a,b]=(g (some (.val a)::some (.val b)::List.replicate (n-2) none)).bind outN:=Ao n 2 g [a,b] rfl
@[simp]def run_n3 (n:Nat)(g:FS)(a b c:D):runN n 3 g [a,b,c]=(g (some (.val a)::some (.val b)::some (.val c)::List.replicate (n-3) none)).bind outN:=Ao n 3 g [a,b,c] rfl
@[simp]def run_n4 (n:Nat)(g:FS)(a b c d:D):runN n 4 g [a,b,c,d]=(g (some (.val a)::some (.val b)::some (.val c)::some (.val d)::List.replicate (n-4) none)).bind outN:=Ao n 4 g [a,b,c,d] rfl
@[simp]def gAdd_int (i j:Int):gAdd (.int i) (.int j)=some (.int (i+j)):=rfl
@[simp]def gSub_int (i j:Int):gSub (.int i) (.int j)=some (.int (i-j)):=rfl
@[simp]def gNeg_int (i:Int):gNeg (.int i)=some (.int (-i)):=rfl
@[simp]def gLt_int (i j:Int):gLt (.int i) (.int j)=some (.bl (decide (i<j))):=rfl
@[simp]def gLe_int (i j:Int):gLe (.int i) (.int j)=some (.bl (decide (i<=j))):=rfl
@[simp]def gGt_int (i j:Int):gGt (.int i) (.int j)=some (.bl (decide (j<i))):=rfl
@[simp]def gGe_int (i j:Int):gGe (.int i) (.int j)=some (.bl (decide (j<=i))):=rfl
@[simp]def gEq_int' (i j:Int):gEq (.int i) (.int j)=some (.bl (decide (i=j))):=NR i j
@[simp]def gNe_int' (i j:Int):gNe (.int i) (.int j)=some (.bl (!decide (i=j))):=NS i j
@[simp]def gEq_bl (a b:Bool):gEq (.bl a) (.bl b)=some (.bl (a == b)):=rfl
@[simp]def gNe_bl (a b:Bool):gNe (.bl a) (.bl b)=some (.bl (a != b)):=rfl
def Y3 (h:Kp i j=true):gMul (.int i) (.int j)=some (.int (i*j)):=by
 show(if Kp i j then _ else _)=_;rw[Zd h]
def Cn (h1: -18446744073709551616<j)(h2:j<18446744073709551616):Kp i j=true:=by
 unfold Kp;rw[UU,UU,Uv,Uv];exact .inl ()
def O3 (h1: -18446744073709551616<i)(h2:i<18446744073709551616):Kp i j=true:=by
 unfold Kp;rw[UU,UU,Uv,Uv];exact .inl ()
@[simp]def Co (h:0<j):gMod (.int i) (.int j)=some (.int (i % j)):=by
 show(if UI 0 j.toNat then _ else _)=_;rw[Zd (by rw[Uv];omega)]
@[simp]def O4 (h:0<j)(h2:j<1073741824):Kq (.int i) (.int j)=some (.int (i / j)):=by
 show(if UI 0 j.toNat&&UI j.toNat 1073741824 then _ else _)=_;rw[Zd (by rw[Uc,Uv,Uv];omega)]
@[simp]def O5 (ds:Yy):gLen [.lst ds]=some (.int ds.length):=rfl
@[simp]def gLen_tup (ds:Yy):gLen [.tup ds]=some (.int ds.length):=rfl
@[simp]def gLen_scr (ns:Ye):gLen [.scr ns]=some (.int ns.length):=rfl
@[simp]def zvB (i j:Int):XZ [.int i,.int j]=some (.int (if j > i then j else i)):=rfl
@[simp]def zvd (i j:Int):Ak [.int i,.int j]=some (.int (if j<i then j else i)):=rfl
@[simp]def ztZ (ds:Yy):Ka [.lst ds]=some (.lst ds):=rfl
@[simp]def ztN (ds:Yy):Ka [.tup ds]=some (.lst ds):=rfl
@[simp]def zxx (ns:Ye):Ka [.scr ns]=some (.lst (ns.map .int)):=rfl
@[simp]def zts (ds:Yy):KR [.lst ds]=some (.tup ds):=rfl
@[simp]def zt1 (ds:Yy):KR [.tup ds]=some (.tup ds):=rfl
@[simp]def gIx_lst (ds:Yy)(k:Int):gIx (.lst ds) (.int k)=atI ds k:=rfl
@[simp]def gIx_tup (ds:Yy)(k:Int):gIx (.tup ds) (.int k)=atI ds k:=rfl
@[simp]def gIx_scr (ns:Ye)(k:Int):gIx (.scr ns) (.int k)=(atI ns k).map .int:=rfl
@[simp]def gIx_dct (ks:List Key)(ds:Yy)(k:Int):gIx (.dct ks ds) (.int k)=valD ks ds (.inl k):=rfl
@[simp]def gIn_dct (neg:Bool)(ks:List Key)(ds:Yy)(k:Int):gIn neg (.int k) (.dct ks ds)=some (.bl (if neg then !(valD ks ds (.inl k)).isSome else(valD ks ds (.inl k)).isSome)):=rfl
@[simp]def zx2 (k:Int):Qn (.int k)=some (.inl k):=rfl
@[simp]def Ap (h:r.length<=100)(o:Once r):KS [rwD r]=some (dcR r):=by
 unfold KS;show(Kj (rwD r)).bind _=_;rw[Ae];show(if r.length<=100 then some (dcR (Xi r)) else none)=_;rw[Zd h,Oj o]
def O6 (h:ns ≠ []):Y0 [.lst (ns.map .int)]=some (.int (maxI ns)):=by
 unfold Y0;show(Wt _).bind _=_;rw[Ce];show(if ns=[] then none else some (D.int (maxI ns)))=_;rw[Ze h]
def Gp (h:ns ≠ []):Xg [.lst (ns.map .int)]=some (.int (minI ns)):=by
 unfold Xg;show(Wt _).bind _=_;rw[Ce];show(if ns=[] then none else some (D.int (minI ns)))=_;rw[Ze h]
theorem Y4:∀{r:Jx},Once r->∀t:Int,valD (r.map λp=>.inl p.1) (r.map λp=>.int p.2) (.inl t)=(JA r t).map .int
 | [],_,t=>rfl
 |p::r,o,t=>by
  have o':Once r:=by unfold Once at o ⊢;rw[Zl,List.nodup_cons] at o;exact o.2
  have n:p.1∉r.map (·.1):=by unfold Once at o;rw[Zl,List.nodup_cons] at o;exact o.1
  rw[Zl,Zl];rw[FL];rw[WY];by_cases h:p.1=t
  .rw[Zd (by rw[h])];cases q:JA r t with
   |none=>rw[Zd h];rfl
   |some w=>exact Zn (Ja.mpr ⟨(t,w),V3 q,h.symm⟩) n
  .rw[Ze (λz=>h (by injection z)),Y4 o' t];cases JA r t with
   |none=>rw[Ze h]
   |some w=>rfl
def Aq:D->Res (List Key×Yy)
 | .dct ks ds=>.ok (ks,ds)
 |_=>.no
@[simp]def zu9 (ks:List Key)(ds:Yy):Aq (.dct ks ds)=.ok (ks,ds):=rfl
@[simp]def ev_get2 (fo fk fx:FE)(sd:SD):Am fo fk fx sd=(fo sd).bind λd=>(Aq d).bind λo=>(fk sd).bind λk=>(fx sd).bind λx=>.ofO ((Qn k).map λq=>(valD o.1 o.2 q).getD x):=by
 unfold Am;cases fo sd with
 |ok d=>cases d<;>rfl
 |ex c fs=>rfl
 |no=>rfl
def O7 (r:Jx)(t:Int):hasK (.inl t) (r.map λp=>.inl p.1)=r.any λp=>decide (p.1=t):=by
 unfold hasK;rw[Vp]
 congr 1
 funext p
 exact Fw
def O8 (r:Jx)(t w:Int):D.dct (VY (r.map λp=>.inl p.1) (.inl t)) (Ws (r.map λp=>.inl p.1) (r.map λp=>.int p.2) (.inl t) (.int w))=dcR (putR r t w):=by
 unfold VY Ws dcR putR;rw[O7];have ch:∀r:Jx,chgD (r.map λp=>.inl p.1) (r.map λp=>.int p.2) (.inl t) (.int w)=(r.map λp=>if p.1=t then(p.1,w) else p).map λp=>D.int p.2:=by
  intro r
  induction r with
  |nil=>rfl
  |cons p r ih =>
   rw[Zl,Zl,Zl,Zl];rw[FM];rw[ih];by_cases h:p.1=t
   .rw[Zd (by rw[h]),Zd h]
   .rw[Ze (λz=>h (by injection z)),Ze h]
 have ck:∀r:Jx,(r.map λp=>if p.1=t then(p.1,w) else p).map (λp=>(Uh p.1:Key))=r.map λp=>.inl p.1:=by
  intro r;rw[Zw]
  congr 1
  funext p
  show(Uh (if p.1=t then(p.1,w) else p).1:Key)=_;by_cases h:p.1=t
  .rw[Zd h]
  .rw[Ze h]
 by_cases q:(r.any λp=>decide (p.1=t))=true
 .rw[Zd q,Zd q,Zd q,ch,ck]
 .rw[Ze q,Ze q,Ze q,Ug,Ug];rfl
@[simp]def zqW (fo:FE)(sd:SD):Ck fo sd=(fo sd).bind λd=>.ofO (Cj d):=rfl
def O9 (h:r ≠ [])(hl:r.length<64):Cj (dcR r)=some (.lst ((JO pltB r).map prD)):=by
 show(WH _ _).bind _=_;rw[Ov];exact Zd ⟨h,hl⟩
@[simp]def ev_iS (f:FE)(sd:SD):iS f sd=(f sd).bind λd=>.ofO (Wu d):=rfl
@[simp]def zvX (ds:Yy):Wu (.lst ds)=some ds:=rfl
@[simp]def zwj (ds:Yy):Wu (.tup ds)=some ds:=rfl
@[simp]def zxl (ns:Ye):Wu (.scr ns)=some (ns.map .int):=rfl
def QR:Yy->Res Yy
 | [.int j]=>if KU j then .ok (JQ 0 j.toNat) else .no
 |_=>.no
@[simp]def ev_iR1 (fr:FA)(sd:SD):iR1 fr sd=(fr sd).bind QR:=by
 unfold iR1;cases fr sd with
 |ok ds=>show(match ds with|[.int j]=>_|_=>_)=QR ds;unfold QR;rfl
 |ex c fs=>rfl
 |no=>rfl
def Ky (h1: -1000000000<=j)(h2:j<=1000000000):QR [.int j]=.ok (JQ 0 j.toNat):=Zd (Oq h1 h2)
def Cp:Yy->Res Yy
 | [.int i,.int j]=>if KU i&&KU j then .ok (JQ i (j-i).toNat) else .no
 |_=>.no
@[simp]def ev_iR2 (fr:FA)(sd:SD):iR2 fr sd=(fr sd).bind Cp:=by
 unfold iR2;cases fr sd with
 |ok ds=>show(match ds with|[.int i,.int j]=>_|_=>_)=Cp ds;unfold Cp;rfl
 |ex c fs=>rfl
 |no=>rfl
def Y5 {lo:Int}{n i:Nat}{x:D}(h:(JQ lo n)[i]? = some x):x=.int (lo+i)/\i<n:=by
 unfold JQ at h;rw[Zv] at h;by_cases hi:i<n
 .rw[Va hi] at h;exact⟨(Zqi h).symm,hi⟩
 .rw[UF (by rw[ZB];omega)] at h;exact J3 h
def Kz (lo:Int)(n:Nat):(JQ lo n).length=n:=by unfold JQ;rw[Zql,ZB]
def forT (tg:Tg)(b:FS)(ds:Yy)(sd:SD):Res Out:=forD (λx sd=>(Qa tg x sd).bind b) ds sd
@[simp]def ev_for (it:FA)(tg:Tg)(b:FS)(sd:SD):sFor it tg b sd=(it sd).bind λds=>forT tg b ds sd:=rfl
@[simp]def forT_nil (tg:Tg)(b:FS)(sd:SD):forT tg b [] sd=.ok (.next sd):=rfl
@[simp]def OA (i:Nat)(d:D)(sd:SD):Qa (.one i) d sd=.ok (sd.set i (some (.val d))):=rfl
@[simp]def ztO (i j:Nat)(a b:D)(sd:SD):Qa (.tup [i,j]) (.tup [a,b]) sd=.ok ((sd.set i (some (.val a))).set j (some (.val b))):=rfl
@[simp]def zt6 (i j:Nat)(p:Int×Int)(sd:SD):Qa (.tup [i,j]) (prD p) sd=.ok ((sd.set i (some (.val (.int p.1)))).set j (some (.val (.int p.2)))):=rfl
def Qw (P:Nat->SD->Prop)(h0:P 0 sd)(hs:∀(i:Nat) (x:D) (sd:SD),ds[i]? = some x->P i sd->∃sd',(Qa tg x sd).bind b=.ok (.next sd')/\P (i+1) sd'):∃sd',forT tg b ds sd=.ok (.next sd')/\P ds.length sd':=by
 have key:∀(k i:Nat) (sd:SD),ds.length-i=k->i<=ds.length->P i sd->∃sd',forT tg b (ds.drop i) sd=.ok (.next sd')/\P ds.length sd':=by
  intro k
  induction k with
  |zero =>
   intro i sd e hi p;have:i=ds.length:=()
   subst this;rw[Vr];exact⟨sd,rfl,p⟩
  |succ k ih =>
   intro i sd e hi p;have hlt:i<ds.length:=()
   rw[U6 hlt];obtain⟨sd',h1,h2⟩:=hs i ds[i] sd (Zqg hlt) p;obtain⟨sd2,h3,h4⟩:=ih (i+1) sd' () hlt h2;refine⟨sd2,?_,h4⟩;unfold forT forD;rw[h1];exact h3
 have:=key ds.length 0 sd () (Ue _) h0
 rwa [List.drop_zero] at this
def Y6 (R:Res Out->Prop)(P:Nat->SD->Prop)(h0:P 0 sd)(he:∀sd,P ds.length sd->R (.ok (.next sd)))
 (hs:∀(i:Nat) (x:D) (sd:SD),ds[i]? = some x->P i sd->(∃sd',((Qa tg x sd).bind b=.ok (.next sd')\/(Qa tg x sd).bind b=.ok (.cont sd'))/\P (i+1) sd')\/(∃sd',(Qa tg x sd).bind b=.ok (.brk sd')/\R (.ok (.next sd')))\/∃d,(Qa tg x sd).bind b=.ok (.ret d)/\R (.ok (.ret d))):R (forT tg b ds sd):=by
 have key:∀(k i:Nat) (sd:SD),ds.length-i=k->i<=ds.length->P i sd->R (forT tg b (ds.drop i) sd):=by
  intro k
  induction k with
  |zero =>
   intro i sd e hi p;have:i=ds.length:=()
   subst this;rw[Vr];exact he sd p
  |succ k ih =>
   intro i sd e hi p;have hlt:i<ds.length:=()
   rw[U6 hlt];unfold forT forD;rcases hs i ds[i] sd (Zqg hlt) p with ⟨sd',h1|h1,h2⟩|⟨sd',h1,h2⟩|⟨d,h1,h2⟩
   .rw[h1];exact ih (i+1) sd' () hlt h2
   .rw[h1];exact ih (i+1) sd' () hlt h2
   .rw[h1];exact h2
   .rw[h1];exact h2
 have:=key ds.length 0 sd () (Ue _) h0
 rwa [List.drop_zero] at this
def Gq {α β γ: Type}{f:α -> Res β}{k:γ -> α}{g:γ -> β}{xs:List γ}(h:∀x∈xs,f (k x)=.ok (g x)):mapD f (xs.map k)=.ok (xs.map g):=by
 induction xs with
 |nil=>rfl
 |cons x xs ih =>
  rw[Zl];unfold mapD;rw[h x Zqs,ih λy hy=>h y (Zqm _ hy)];rfl
def mapE (tg:Tg)(f:FE)(c:SD)(ds:Yy):Res Yy:=mapD (λx=>(Qa tg x c).bind f) ds
@[simp]def ev_comp (cap:List (Option Nat))(it:FA)(tg:Tg)(f:FE)(sd:SD):Qq cap it tg f sd=(it sd).bind λds=>if KB (capD cap sd) tg=true/\ds.length<sizeLine then(mapE tg f (capD cap sd) ds).bind λys=>.ok (.lst ys) else .no:=rfl
def capV:Option (Option SV)->Option SV
 |some (some (.val d))=>some (.val d)
 |_=>none
@[simp]def capV_val (d:D):capV (some (some (.val d)))=some (.val d):=rfl
@[simp]def zuw:capV (some none)=none:=rfl
@[simp]def capV_own (p:Bool)(d:D):capV (some (some (.own p d)))=none:=rfl
@[simp]def capD_nil (sd:SD):capD [] sd=[]:=rfl
@[simp]def capD_n (cap:List (Option Nat))(sd:SD):capD (none::cap) sd=none::capD cap sd:=rfl
@[simp]def capD_s (j:Nat)(cap:List (Option Nat))(sd:SD):capD (some j::cap) sd=capV sd[j]? :: capD cap sd:=rfl
@[simp]def zt0 (sd:SD)(i:Nat):KB sd (.one i)=KA sd i:=rfl
@[simp]def ztv (sd:SD)(is:Yg):KB sd (.tup is)=is.all (KA sd):=rfl
@[simp]def noneAt_0 (sd:SD):KA (none::sd) 0=true:=rfl
@[simp]def noneAt_s (o:Option SV)(sd:SD)(i:Nat):KA (o::sd) (i+1)=KA sd i:=rfl
@[simp]def noneAt_1 (o:Option SV)(sd:SD):KA (o::none::sd) 1=true:=rfl
@[simp]def noneAt_2 (o o':Option SV)(sd:SD):KA (o::o'::none::sd) 2=true:=rfl
def KD {α: Type}{k:α -> D}{g:α -> D}{xs:List α}(h:∀x∈xs,(Qa tg (k x) c).bind f=.ok (g x)):mapE tg f c (xs.map k)=.ok (xs.map g):=Gq h
def Wv {tg:Tg}{f:FE}{c:SD}{lo:Int}{n:Nat}{g:Nat->D}(h:∀i,i<n->(Qa tg (.int (lo+i)) c).bind f=.ok (g i)):mapE tg f c (JQ lo n)=.ok ((List.range n).map g):=Gq λi hi=>h i (Jd.mp hi)
@[simp]def zwV (cap:List (Option Nat))(it:FA)(tg:Tg)(c:FT)(f:FE)(sd:SD):KC cap it tg c f sd=(it sd).bind λds=>if KB (capD cap sd) tg=true/\ds.length<sizeLine then(Kx tg c f (capD cap sd) ds).bind λys=>.ok (.lst ys) else .no:=rfl
def Gr {α: Type}{k:α -> D}{s:α -> SD}{p:α -> Bool}{g:α -> D}{xs:List α}(h1:∀x∈xs,Qa tg (k x) sd=.ok (s x))(h2:∀x∈xs,c (s x)=.ok (p x))(h3:∀x∈xs,p x=true->f (s x)=.ok (g x)):
 Kx tg c f sd (xs.map k)=.ok ((xs.filter p).map g):=by
 induction xs with
 |nil=>rfl
 |cons x xs ih =>
  have ih:=ih (λy hy=>h1 y (Zqm _ hy)) (λy hy=>h2 y (Zqm _ hy)) (λy hy=>h3 y (Zqm _ hy));rw[Zl,List.filter_cons];unfold Kx;rw[h1 x Zqs,Res.bind_ok,h2 x Zqs,Res.bind_ok];cases q:p x with
  |true =>
   rw[Zd rfl,Zd rfl,h3 x Zqs q,Res.bind_ok,ih];rfl
  |false =>
   rw[Ze (by simp),Ze (by simp),ih]
def JV (h:n<=1000):n<sizeLine:=EB h
@[simp]def zqo (i:Int):gIsi [.int i,.ty "bool"]=some (.bl false):=rfl
@[simp]def zsE (i:Int):gIsi [.int i,.ty "int"]=some (.bl true):=rfl
@[simp]def zr2 (i:Int):gIsi [.int i,.ty "str"]=some (.bl false):=rfl
@[simp]def zq6 (i:Int):gIsi [.int i,.ty "list"]=some (.bl false):=rfl
@[simp]def zou (i:Int):gIsi [.int i,.ty "tuple"]=some (.bl false):=rfl
@[simp]def zqN (i:Int):gIsi [.int i,.ty "dict"]=some (.bl false):=rfl
@[simp]def zr1 (b:Bool):gIsi [.bl b,.ty "bool"]=some (.bl true):=rfl
@[simp]def ztt (b:Bool):gIsi [.bl b,.ty "int"]=some (.bl true):=rfl
@[simp]def zt5 (b:Bool):gIsi [.bl b,.ty "str"]=some (.bl false):=rfl
@[simp]def zrm (b:Bool):gIsi [.bl b,.ty "list"]=some (.bl false):=rfl
@[simp]def zqD (b:Bool):gIsi [.bl b,.ty "tuple"]=some (.bl false):=rfl
@[simp]def zr7 (b:Bool):gIsi [.bl b,.ty "dict"]=some (.bl false):=rfl
@[simp]def zqL (x:Str):gIsi [.str x,.ty "bool"]=some (.bl false):=rfl
@[simp]def zto (x:Str):gIsi [.str x,.ty "int"]=some (.bl false):=rfl
@[simp]def zrZ (x:Str):gIsi [.str x,.ty "str"]=some (.bl true):=rfl
@[simp]def zqQ (x:Str):gIsi [.str x,.ty "list"]=some (.bl false):=rfl
@[simp]def zpj (x:Str):gIsi [.str x,.ty "tuple"]=some (.bl false):=rfl
@[simp]def zqv (x:Str):gIsi [.str x,.ty "dict"]=some (.bl false):=rfl
@[simp]def zqC (ds:Yy):gIsi [.lst ds,.ty "bool"]=some (.bl false):=rfl
@[simp]def zsq (ds:Yy):gIsi [.lst ds,.ty "int"]=some (.bl false):=rfl
@[simp]def zrh (ds:Yy):gIsi [.lst ds,.ty "str"]=some (.bl false):=rfl
@[simp]def zqO (ds:Yy):gIsi [.lst ds,.ty "list"]=some (.bl true):=rfl
@[simp]def zp2 (ds:Yy):gIsi [.lst ds,.ty "tuple"]=some (.bl false):=rfl
@[simp]def zqq (ds:Yy):gIsi [.lst ds,.ty "dict"]=some (.bl false):=rfl
@[simp]def zq1 (ds:Yy):gIsi [.tup ds,.ty "bool"]=some (.bl false):=rfl
@[simp]def zsc (ds:Yy):gIsi [.tup ds,.ty "int"]=some (.bl false):=rfl
@[simp]def zrY (ds:Yy):gIsi [.tup ds,.ty "str"]=some (.bl false):=rfl
@[simp]def zqR (ds:Yy):gIsi [.tup ds,.ty "list"]=some (.bl false):=rfl
@[simp]def zo1 (ds:Yy):gIsi [.tup ds,.ty "tuple"]=some (.bl true):=rfl
@[simp]def zq2 (ds:Yy):gIsi [.tup ds,.ty "dict"]=some (.bl false):=rfl
@[simp]def zq3 (ks:List Key)(ds:Yy):gIsi [.dct ks ds,.ty "bool"]=some (.bl false):=rfl
@[simp]def zsA (ks:List Key)(ds:Yy):gIsi [.dct ks ds,.ty "int"]=some (.bl false):=rfl
@[simp]def zsm (ks:List Key)(ds:Yy):gIsi [.dct ks ds,.ty "str"]=some (.bl false):=rfl
@[simp]def zq7 (ks:List Key)(ds:Yy):gIsi [.dct ks ds,.ty "list"]=some (.bl false):=rfl
@[simp]def zp8 (ks:List Key)(ds:Yy):gIsi [.dct ks ds,.ty "tuple"]=some (.bl false):=rfl
@[simp]def zqu (ks:List Key)(ds:Yy):gIsi [.dct ks ds,.ty "dict"]=some (.bl true):=rfl
@[simp]def zqM  : gIsi [.non,.ty "bool"]=some (.bl false):=rfl
@[simp]def zsg  : gIsi [.non,.ty "int"]=some (.bl false):=rfl
@[simp]def zsM  : gIsi [.non,.ty "str"]=some (.bl false):=rfl
@[simp]def zqV  : gIsi [.non,.ty "list"]=some (.bl false):=rfl
@[simp]def zpM  : gIsi [.non,.ty "tuple"]=some (.bl false):=rfl
@[simp]def zql  : gIsi [.non,.ty "dict"]=some (.bl false):=rfl
def JS {α: Type}(xs:List α)(lo hi st:Option Int):List α:= (sliceRange (sliceBounds lo hi st xs.length).1 (sliceBounds lo hi st xs.length).2.1 (sliceBounds lo hi st xs.length).2.2).filterMap (xs[·]?)
def Gs (its:Yd)(lo hi st:Option Int):slicePick its.toArray lo hi st=(JS its lo hi st).toArray:=by
 unfold slicePick JS;rw[Zm]
 congr 2
 funext i
 simp
def OB {xs:Yw}{its:Yd}(r:Vals xs its)(lo hi st:Option Int):Vals (JS xs lo hi st) (JS its lo hi st):=by
 unfold JS;rw[r.length];generalize sliceRange _ _ _=ix
 induction ix with
 |nil=>exact .nil
 |cons i ix ih =>
  rw[UO,UO];cases hx:xs[i]? with
  |none=>rw[r.none_of hx];exact ih
  |some x =>
   obtain⟨u,hu,ru⟩:=r.get hx;rw[hu];exact .cons ru ih
def OC {K:W.Frag}{H:Hp}{ds:Yy}{xs:Yw}(r:IsDs K H ds xs)(lo hi st:Option Int):IsDs K H (JS ds lo hi st) (JS xs lo hi st):=by
 unfold JS;rw[r.length];generalize sliceRange _ _ _=ix
 induction ix with
 |nil=>exact .nil
 |cons i ix ih =>
  rw[UO,UO];cases hx:ds[i]? with
  |none =>
   have hn:xs[i]? = none:=Jn.mpr (by rw[r.length];exact Jn.mp hx);rw[hn];exact ih
  |some x =>
   obtain⟨u,hu,ru⟩:=r.get hx;rw[hu];exact .mk ru ih
def Cq {α β: Type}(f:α -> β)(xs:List α)(lo hi st:Option Int):JS (xs.map f) lo hi st=(JS xs lo hi st).map f:=by
 unfold JS;rw[Zql];generalize sliceRange _ _ _=ix
 induction ix with
 |nil=>rfl
 |cons i ix ih =>
  rw[UO,UO,Zv];cases xs[i]? with
  |none=>exact ih
  |some x=>show f x::_=_;rw[ih];rfl
def Ar {α: Type}{xs:List α}{lo hi st:Option Int}{x:α}(h:x∈JS xs lo hi st):x∈xs:=by
 unfold JS at h;obtain⟨i,_,hi⟩:=Jq.mp h;exact Ud hi
def Cr {α: Type}(xs:List α)(lo hi st:Option Int):(JS xs lo hi st).length<=xs.length:=by
 have h:=slicePick_size_le (xs.map λ_=>Value.none).toArray lo hi st;rw[Gs,Zm,Zm,Cq,Zql,Zql] at h;exact h
section
variable {X:Cx}{E:XK}{m:Option Bool}{a b o i e f tg:Expr}{fa fb fo fi fv fe:FE}{fr:FA}{pos pos' apos cpos p p2:Pos}{lo hi st:Option Expr}
abbrev FO:=SD->Res (Option Int)
def tDO (K:W.Frag)(E:XK)(f:FO):TO:=λZ H Q=>∃B F sd,RS K B F H sd Z /\ (f sd).need (λo=>∀F' H',Ext F H F' H'->Q o H') (XW K E F H)
def KE:FO:=λ_=>.ok none
def K0 (f:FE):FO:=λsd=>(f sd).bind λd=>match d with
 | .int i=>.ok (some i)
 |_=>.no
abbrev QO (X:Cx)(E:XK)(e:Option Expr)(f:FO):Prop:=PO X e (tDO X.K E f)
def PO.weak {e:Option Expr}{t t':TO}(h:PO X e t)(w:∀Z H Q,t' Z H Q->t Z H Q):PO X e t':=λY s Z H Q I q=>h Y s Z H Q I (w _ _ _ q)
def Ww:QO X E none KE:=PO.weak Mw λZ H Q ⟨B,F,sd,r,n⟩=>n F H (.refl r.ext.fh)
def WI (h:QE X E e fe):QO X E (some e) (K0 fe):=PO.weak (Mx h) λZ H Q ⟨B,F,sd,r,n⟩=>by
 refine⟨B,F,sd,r,(Res.need_bind n).mono (λd n1 v F1 H1 e1 i1=>?_) λ_ _ q=>q⟩;cases d with
 |int i=>exact⟨i,IsD.int_iff.mp i1,n1 F1 H1 e1⟩
 |_=>exact n1.elim
def rSl3 (K:W.Frag):V->Option Int->Option Int->Option Int->Hp->VK->Prop:=λx lo hi st H Q=>∃a xs,x=.ref a/\SqL K H a xs/\st≠some 0/\∀p,H p=none->Q (.ref p) (upd H p (.lst (JS xs lo hi st)))
def tSl3 (r:V->Option Int->Option Int->Option Int->Hp->VK->Prop)(te:TE)(tl th ts:TO):TE:=λZ H Q=>te Z H λx H1=>tl Z H1 λl H2=>th Z H2 λu H3=>ts Z H3 λc H4=>r x l u c H4 Q
def OD {te:TE}{tl th ts:TO}(he:PE X e te)(hl:PO X lo tl)(hu:PO X hi th)(hs:PO X st ts):PE X (.Subscript e (.Slice lo hi st p2) pos) (tSl3 (rSl3 X.K) te tl th ts):=by
 intro Y s Z H Q I h;refine Subscript_ (thn (he Y s Z H _ I h) λv s1 ⟨x,H1,I1,r1,q1⟩=>?_);refine wpAny_Slice (thn (hl Y s1 Z H1 _ I1 q1) λvl s2 ⟨l,H2,I2,pl,q2⟩=>thn (hu Y s2 Z H2 _ I2 q2) λvu s3 ⟨u,H3,I3,pu,q3⟩=>thn (hs Y s3 Z H3 _ I3 q3) λvs s4 ⟨c,H4,I4,ps,q4⟩=>?_);obtain⟨a,xs,rfl,hx,h0,q⟩:=q4;obtain rfl:v=Value.ref a:=r1;have I5:Inv X Y Z H4 { s4 with heap:=s4.heap.push { cls:=.type "slice",data:=.fields #[vl,vu,vs] } }:=I4.kept (t':=s4.toks) λb ob q=>Zq _ q;obtain⟨its,r,ht,hz⟩:=I5.list hx;have hlen:=r.length;show YA X (subscriptTail e (.Slice lo hi st p2) (.ref a) (.ref s4.heap.objs.size)) (EP X Y Z Q) X.xe { s4 with heap:=s4.heap.push { cls:=.type "slice",data:=.fields #[vl,vu,vs] } }
 suffices fin:YA X (getItem (.ref a) (.ref s4.heap.objs.size)) (EP X Y Z Q) X.xe { s4 with heap:=s4.heap.push { cls:=.type "slice",data:=.fields #[vl,vu,vs] } } by
  cases st with
  |none=>exact tail_any (ops:=[.ref s4.heap.objs.size,.ref a]) ht.isList.typeIs slot_list_getitem.lookup fin (by with_unfolding_all rfl)
  |some c=>exact tail_any (ops:=[.ref a,.ref s4.heap.objs.size]) ht.isList.typeIs slot_list_getitem.lookup fin (by with_unfolding_all rfl)
 refine wpAny_getItem_list_slice ht.isList (Heap.IsSliceOf.new ..) pl pu ps h0 ?_ (by rw[Zm]<;>omega);rw[Gs];refine⟨.ref _,_,I5.laid (t':=s4.toks) (o:=.lst (JS xs l u c)) (λb ob q=>Zq _ q) (Zf _) ?_,rfl,q _ (I5.hok.fresh (Zf _))⟩;exact⟨Zh (Cr xs l u c) hz,_,0,OB r l u c,Zr _ rfl⟩
def gSl:D->Option Int->Option Int->Option Int->Yz
 | .lst ds,lo,hi,st=>if st=some 0 then none else some (.lst (JS ds lo hi st))
 | .scr ns,lo,hi,st=>if st=some 0 then none else some (.lst ((JS ns lo hi st).map .int))
 |_,_,_,_=>none
def dSl (fe:FE)(fl fh fs:FO):FE:=λsd=>(fe sd).bind λd=>(fl sd).bind λl=>(fh sd).bind λh=>(fs sd).bind λc=>.ofO (gSl d l h c)
def Y7 {fl fh fs:FO}(he:QE X E e fe)(hl:QO X E lo fl)(hu:QO X E hi fh)(hs:QO X E st fs):QN X E (.Subscript e (.Slice lo hi st p2) pos) (dSl fe fl fh fs):=PE.weak (OD he hl hu hs) λZ H Q ⟨B,F,sd,r,n⟩=>by
 refine⟨B,F,sd,r,(Res.need_bind n).mono (λd n1 v F1 H1 e1 i1=>?_) λ_ _ q=>q⟩;refine⟨B,F1,sd,r.step e1,(Res.need_bind n1).mono (λl n2 F2 H2 e2=>?_) λ_ _ q=>q.ext e1⟩;refine⟨B,F2,sd,(r.step e1).step e2,(Res.need_bind n2).mono (λh n3 F3 H3 e3=>?_) λ_ _ q=>q.ext (e1.trans e2)⟩;refine⟨B,F3,sd,((r.step e1).step e2).step e3,(Res.need_bind n3).mono (λc n4 F4 H4 e4=>?_) λ_ _ q=>q.ext ((e1.trans e2).trans e3)⟩;obtain⟨z,hz,q⟩:=Res.need_ofO n4;have e14:=((e2.trans e3).trans e4);have eA:=e1.trans e14;cases d with
 |lst ds =>
  have hz:(if c=some 0 then none else some (D.lst (JS ds l h c)))=some z:=hz
  split at hz
  .exact J3 hz
  .rename_i h0;obtain rfl:=Zqi hz;rw[IsD.lst_iff] at i1;obtain⟨a,xs,rfl,h1,h2⟩:=i1;exact⟨a,xs,rfl,((h1.same e14.ff).same e14.fh).sq,h0,λp hp=>q p F4 _ (eA.trans (.keep e4.fh hp _)) (Qv eA.hh hp) (Qv e4.fh hp) ⟨_,JL,OC (IsDs.same e14.ff _ _ h2) l h c⟩⟩
 |scr ns =>
  have hz:(if c=some 0 then none else some (D.lst ((JS ns l h c).map .int)))=some z:=hz
  split at hz
  .exact J3 hz
  .rename_i h0;obtain rfl:=Zqi hz;rw[IsD.scr_iff] at i1;obtain⟨a,rfl,h1⟩:=i1;refine⟨a,_,rfl,Same.seq e14.fh (Same.seq e14.ff h1),h0,λp hp=>q p F4 _ (eA.trans (.keep e4.fh hp _)) (Qv eA.hh hp) (Qv e4.fh hp) ⟨_,JL,?_⟩⟩;rw[Cq];exact IsDs.ints _
 |_=>exact J3 hz
@[simp]def ev_sl (fe:FE)(fl fh fs:FO)(sd:SD):dSl fe fl fh fs sd=(fe sd).bind λd=>(fl sd).bind λl=>(fh sd).bind λh=>(fs sd).bind λc=>.ofO (gSl d l h c):=rfl
@[simp]def zwr (sd:SD):KE sd=.ok none:=rfl
def Cs:D->Res (Option Int)
 | .int i=>.ok (some i)
 |_=>.no
@[simp]def ztw (i:Int):Cs (.int i)=.ok (some i):=rfl
@[simp]def ev_part (f:FE)(sd:SD):K0 f sd=(f sd).bind Cs:=by
 unfold K0;cases f sd with
 |ok d=>cases d<;>rfl
 |ex c fs=>rfl
 |no=>rfl
@[simp]def gSl_lst0 (ds:Yy)(lo hi:Option Int):gSl (.lst ds) lo hi none=some (.lst (JS ds lo hi none)):=rfl
@[simp]def OE (ds:Ye)(lo hi:Option Int):gSl (.scr ds) lo hi none=some (.lst ((JS ds lo hi none).map .int)):=rfl
def OF {ds:Yy}{lo hi:Option Int}{c:Int}(h:c≠0):gSl (.lst ds) lo hi (some c)=some (.lst (JS ds lo hi (some c))):=Ze λz=>h (Zqi z)
def OG {ds:Ye}{lo hi:Option Int}{c:Int}(h:c≠0):gSl (.scr ds) lo hi (some c)=some (.lst ((JS ds lo hi (some c)).map .int)):=Ze λz=>h (Zqi z)
def Au (i:Nat)(fk fv:FE):FS:=λsd=>(fv sd).bind λv=>match sd[i]? with
 |some (some (.own false (.lst ds)))=>(fk sd).bind λk=>match k with
  | .int k=>match ixN ds.length k with
   |some j=>.ok (.next (sd.set i (some (.own false (.lst (ds.set j v))))))
   |none=>.no
  |_=>.no
 |_=>.no
def OH {j:Nat}(ho:PE X o (tVar j))(hi:QE X E i fi)(hv:QE X E e fv)(ha:∀v,assign (.Subscript o i pos') X.env v=(do
 let ov <- holding [v] (eval o X.env)
 let iv <- holding [v,ov] (eval i X.env)
 standAt pos'
 holding [v,ov,iv] (setItem ov iv v)
 release [v,ov,iv] []):=by intro _;rfl) (hs:swapsWithSole [.Subscript o i pos'] e pos.line X.env=pure false:=by rfl) (hw:swappedStores [.Subscript o i pos'] e X.env=pure none:=by rfl)
 (h1:(assignEach [.Subscript o i pos'] X.env).map (·.2)=[assign (.Subscript o i pos') X.env]:=by rfl):QS X E m (.Assign [.Subscript o i pos'] e pos) (Au j fi fv):=PS.weak (Ly hv (Lw ho hi M5 ha) hs hw h1) λT Z H ⟨B,F,sd,r,n⟩=>by
 refine⟨B,F,sd,r,(Res.need_bind n).mono (λd n1 v F1 H1 e1 i1=>?_) λ_ _ q=>q.ext r.ext⟩
 split at n1
 .rename_i ds hj;obtain⟨l,h1,h2,h3,⟨xs,h4,h5⟩,_⟩:=(r.step e1).own hj;refine⟨.ref l,h1,B,F1,sd,r.step e1,(Res.need_bind n1).mono (λk n2 w F2 H2 e2 i2=>?_) λ_ _ q=>q.ext (r.step e1).ext⟩
  split at n2
  .rename_i k
   split at n2
   .rename_i q hk;have hH:=e2.hh _ _ h4;have hl:=h5.length;refine⟨l,xs,k,q,rfl,IsD.int_iff.mp i2,hH,by rw[hl];exact hk,?_⟩;exact n2 Z F2 _ (e1.ff.trans e2.ff) (((r.step e1).step e2).chg hj h1 ⟨_,JL,(IsDs.same e2.ff _ _ h5).set q (IsD.same e2.ff _ _ i1)⟩)
   .exact n2.elim
  .exact n2.elim
 .exact n1.elim
@[simp]def ev_lput (i:Nat)(fk fv:FE)(sd:SD):Au i fk fv sd=(fv sd).bind λv=>(ownL sd[i]?).bind λds=>(fk sd).bind λk=>(Cs k).bind λk=>(Res.ofO (ixN ds.length (k.getD 0))).bind λj=>.ok (.next (sd.set i (some (.own false (.lst (ds.set j v)))))):=by
 unfold Au;cases fv sd with
 |ok v =>
  show(match sd[i]? with
   |some (some (.own false (.lst ds)))=>_
   |_=>_)=(ownL sd[i]?).bind _
  cases sd[i]? with
  |none=>rfl
  |some o =>
   cases o with
   |none=>rfl
   |some w =>
    cases w with
    |val d=>rfl
    |own p d =>
     cases p with
     |true=>cases d<;>rfl
     |false =>
      cases d with
      |lst ds =>
       show(fk sd).bind _=(fk sd).bind _;cases fk sd with
       |ok k =>
        cases k with
        |int k=>show(match ixN ds.length k with|some j=>_|none=>_)=(Res.ofO (ixN ds.length k)).bind _;cases ixN ds.length k<;>rfl
        |_=>rfl
       |ex c fs=>rfl
       |no=>rfl
      |_=>rfl
 |ex c fs=>rfl
 |no=>rfl
@[simp]def ev_ixOwn (i:Nat)(fb:FE)(sd:SD):Wa i fb sd=(ownV sd[i]?).bind λd=>(fb sd).bind λy=>.ofO (gIx d y):=by
 unfold Wa;cases sd[i]? with
 |none=>rfl
 |some o =>
  cases o with
  |none=>rfl
  |some v=>cases v<;>rfl
@[simp]def ztu (i:Nat)(sd:SD):Gf i sd=(ownV sd[i]?).bind λd=>(Xj d).bind λds=>.ok (.lst ds):=by
 unfold Gf;cases sd[i]? with
 |none=>rfl
 |some o =>
  cases o with
  |none=>rfl
  |some v =>
   cases v with
   |val d=>rfl
   |own p d=>cases d<;>rfl
@[simp]def gIsN_non (neg:Bool):gIsN neg .non=some (.bl (!neg)):=rfl
@[simp]def gIsN_int (neg:Bool)(i:Int):gIsN neg (.int i)=some (.bl neg):=rfl
@[simp]def gIsN_lst (neg:Bool)(i:Yy):gIsN neg (.lst i)=some (.bl neg):=rfl
@[simp]def gIsN_tup (neg:Bool)(i:Yy):gIsN neg (.tup i)=some (.bl neg):=rfl
def Wx:Yy->Yz
 | [.lst ds]=>(Qh Kj ds).bind λrs=>if(∀r∈rs,r ≠ [])/\rs.length<64 then some (.lst ((JO rltB rs).map rwD)) else none
 |_=>none
def Ct (hu:X.A.units+64<cLine):za1 X (.builtin "sorted") (rDAN X.K Wx):=za1.weak (N4 hu) λxs H Q ⟨F,ds,z,sF,id,hz,q⟩=>by
 unfold Wx at hz
 split at hz
 .obtain⟨rs,h1,hz⟩:=Jg.mp hz
  split at hz
  .rename_i hc;obtain rfl:=Zqi hz;obtain⟨v,rfl,h⟩:=Qu id;rw[BX h1,IsD.lst_iff] at h;obtain⟨a,ys,rfl,g1,g2⟩:=h;refine⟨a,ys,rs,rfl,g1.same sF,zcP.mp (IsDs.same sF _ _ g2),hc.1,hc.2,λl ix hl hix he=>?_⟩;have hk:H l=none:=hl;refine q l F _ (.keep sF hl _) hl (Qv sF hl) ⟨_,JL,?_⟩;rw[<- he,Zw];have hy:=g2.length;rw[Zql] at hy;clear he
   induction ix with
   |nil=>exact .nil
   |cons i ix ih =>
    rw[Zl,Zl];have hi:=hix i Zqs;obtain⟨x,hx,ixx⟩:=g2.get (i:=i) (d:=rwD (rs.getD i [])) (by rw[Zv,Zqg hi,Qe (Zqg hi)];rfl);rw[Qe hx];exact .mk ixx (ih λj hj=>hix j (Zqm _ hj))
  .exact J3 hz
 .exact J3 hz
end
end L2.DL
namespace L2
section
variable {X:Cx}
def OI (hc:X.calm=true):za1 X (.builtin "sum") (λxs H Q=>∃(a:Addr) (ns:Ye),xs=[.ref a]/\SqL X.K H a (ns.map V.int)/\Q (.int ns.sum) H):=by
 intro Y s Z H xs us Q I r h;obtain⟨a,ns,rfl,hl,q⟩:=h;obtain⟨u,rfl,ru⟩:=Q7 r;obtain rfl:u=Value.ref a:=ru;obtain⟨its,rv,p,hz⟩:=I.list hl;have hi:IntsAre its ns:=B5 rv;obtain⟨ys,e⟩:=hi.allInts.items;have hns:ns=ys.toList.map (·.1):=by
  rw[<- hi.numsOf,<- nums_intItems,<- e]
 have hl':=p.isList;rw[e] at hl';refine sum_intListG (I.ok.hd hc) hl' λh' tk t' hk=>?_;refine⟨.int ns.sum,H,I.kept hk,⟨t',?_⟩,q⟩;rw[preSum_eq,Vb (by simp),<- hns]
def OJ {bs:List Bool}{its:Yd}(r:Vals (bs.map V.bl) its)(i:Nat)(v:Value)(h:its.toArray[i]? = some v):v=.bool (bs.getD i false):=by
 have h':its[i]? = some v:=by simpa using h
 have hi:i<its.length:=(Jb.mp h').1;have hl:=r.length;rw[Zql] at hl;have hb:bs[i]? = some bs[i]:=Zqg ();obtain⟨u,hu,ru⟩:=r.get (i:=i) (x:=.bl bs[i]) (by rw[Zv,hb];rfl);rw[h'] at hu;obtain rfl:=Zqi hu;rw[show v=Value.bool bs[i] from ru,Ua,hb];rfl
def OK (bs:List Bool):(List.range bs.length).all (λi=>bs.getD i false)=bs.all id:=by
 apply U4.mpr;rw[Uo,Uo];constructor
 .intro h b hb;obtain⟨i,hi,rfl⟩:=UA hb;have:=h i (Jd.mpr hi);rw[Ua,Zqg hi] at this;exact this
 .intro h i hi;have hi:=Jd.mp hi;rw[Ua,Zqg hi];exact h _ (UG hi)
def OL (hc:X.calm=true):za1 X (.builtin "all") (λxs H Q=>∃(a:Addr) (bs:List Bool),xs=[.ref a]/\SqL X.K H a (bs.map V.bl)/\Q (.bl (bs.all id)) H):=by
 intro Y s Z H xs us Q I r h;obtain⟨a,bs,rfl,hl,q⟩:=h;obtain⟨u,rfl,ru⟩:=Q7 r;obtain rfl:u=Value.ref a:=ru;obtain⟨its,rv,p,hz⟩:=I.list hl;have hlt:a<s.heap.objs.size:=by obtain⟨_,e,_⟩:=p.isList;exact Zk e
 have hlen:=rv.length;rw[Zql] at hlen;refine call_all_walk (wpAny_pyIter_list p.isList ⟨_,_,_,_,_,_,λi=>bs.getD i false,rfl,Walks.list (A:=X.A.in1) (I.ok.hd hc) s.heap.objs.size a (Zi hlt) its.toArray,⟨⟨_,Zr _ rfl,rfl,rfl⟩,p.isList.push _⟩,?_,λh' tk hk=>?_⟩)
 .intro i v s' Q' E' hP hQ;have hv:=OJ rv i v hP;subst hv;exact wpAny_of_eq rfl hQ
 .rw[Zm,<- hlen,OK];refine⟨.bl _,H,I.kept (t':=tk) λb o e=>hk b o ?_ (Zq _ e),rfl,q⟩;intro hm;have e':=Vu.mp hm;rw[e'] at e;exact Zy _ (Zk e)
end
end L2
namespace L2.DL
def blOf:D->Option Bool
 | .bl i=>some i
 |_=>none
def OM (h:blOf d=some i):d=.bl i:=by
 cases d with
 |bl j=>cases h;rfl
 |_=>exact J3 h
theorem IsDs.bls_iff {K:W.Frag}{H:Hp}:∀{bs:List Bool} {xs:Yw},IsDs K H (bs.map D.bl) xs->xs=bs.map V.bl
 | [],_,h=>IsDs.nil_iff.mp h
 |b::bs,_,h=>by
  rw[Zl,IsDs.cons_iff] at h;obtain⟨x,r,rfl,h1,h2⟩:=h;rw[IsD.bl_iff.mp h1,IsDs.bls_iff h2];rfl
def Av:D->Option (List Bool)
 | .lst ds=>Qh blOf ds
 |_=>none
def ON {K:W.Frag}{H:Hp}{d:D}{ns:List Bool}{v:V}(h:Av d=some ns)(i:IsD K H d v):∃a,v=.ref a/\LstD K H a (ns.map V.bl):=by
 cases d with
 |lst ds =>
  rw[IsD.lst_iff] at i;obtain⟨a,xs,rfl,h1,h2⟩:=i;rw[XV (λ_ _=>OM) (show Qh blOf ds=some ns from h)] at h2;rw[IsDs.bls_iff h2] at h1;exact⟨a,rfl,h1⟩
 |_=>exact J3 h
def OO (ns:List Bool):Av (.lst (ns.map D.bl))=some ns:=by
 have h:=Xd (f:=blOf) (g:=D.bl) (k:=λi:Bool=>i) (λ_=>rfl) ns;rw[List.map_id'] at h;exact h
def gSum:Yy->Yz
 | [d]=>(Wt d).bind λns=>some (.int ns.sum)
 |_=>none
def gAll:Yy->Yz
 | [d]=>(Av d).bind λns=>some (.bl (ns.all id))
 |_=>none
def gMax3:Yy->Yz
 | [.int i,.int j,.int k]=>some (.int (if j > i then(if k > j then k else j) else(if k > i then k else i)))
 |_=>none
section
variable {X:Cx}{E:XK}{m:Option Bool}{a b o i e f tg:Expr}{fa fb fo fi fv fe:FE}{fr:FA}{pos pos' apos cpos p p2:Pos}{lo hi st:Option Expr}
def Gu (hc:X.calm=true):za1 X (.builtin "sum") (rDA X.K gSum):=za1.weak (OI hc) λxs H Q ⟨F,ds,z,sF,id,hz,q⟩=>by
 unfold gSum at hz
 split at hz
 .obtain⟨ns,h1,hz⟩:=Jg.mp hz;obtain rfl:=Zqi hz;obtain⟨v,rfl,h⟩:=Qu id;obtain⟨a,rfl,h2⟩:=Cd h1 h;exact⟨a,ns,rfl,(h2.same sF).sq,q _ F H (.refl sF) (isI _ F)⟩
 .exact J3 hz
def Gv (hc:X.calm=true):za1 X (.builtin "all") (rDA X.K gAll):=za1.weak (OL hc) λxs H Q ⟨F,ds,z,sF,id,hz,q⟩=>by
 unfold gAll at hz
 split at hz
 .obtain⟨ns,h1,hz⟩:=Jg.mp hz;obtain rfl:=Zqi hz;obtain⟨v,rfl,h⟩:=Qu id;obtain⟨a,rfl,h2⟩:=ON h1 h;exact⟨a,ns,rfl,(h2.same sF).sq,q _ F H (.refl sF) (isB _ F)⟩
 .exact J3 hz
def cutL {α: Type}(xs:List α)(lo hi:Option Int):List α:= (xs.drop (HT.sIx xs.length 0 lo)).take (HT.sIx xs.length xs.length hi-HT.sIx xs.length 0 lo)
def gSlT:D->Option Int->Option Int->Yz
 | .tup ds,lo,hi=>if UI (cutL ds lo hi).length ds.length then some (.tup (cutL ds lo hi)) else none
 |_,_,_=>none
def dSlT (fe:FE)(fl fh:FO):FE:=λsd=>(fe sd).bind λd=>(fl sd).bind λl=>(fh sd).bind λh=>.ofO (gSlT d l h)
@[simp]def ev_slT (fe:FE)(fl fh:FO)(sd:SD):dSlT fe fl fh sd=(fe sd).bind λd=>(fl sd).bind λl=>(fh sd).bind λh=>.ofO (gSlT d l h):=rfl
end
@[simp]def OP (ns:Ye):gSum [.lst (ns.map .int)]=some (.int ns.sum):=by
 show(Wt _).bind _=_;rw[Ce];rfl
def Gw (ns:List Bool):gAll [.lst (ns.map .bl)]=some (.bl (ns.all id)):=by
 show(Av _).bind _=_;rw[OO];rfl
@[simp]def zxz (i j k:Int):gMax3 [.int i,.int j,.int k]=some (.int (if j > i then(if k > j then k else j) else(if k > i then k else i))):=rfl
end L2.DL
namespace L2
def Gx:bootBuiltins "all" = some (.builtin "all"):=boot_all
end L2
namespace L2.DL
def forOT (i:Nat)(v:SV)(tg:Tg)(b:FS)(ds:Yy)(sd:SD):Res Out:=forO i v (λx sd=>(Qa tg x sd).bind b) ds sd
def Gy (i:Nat)(tg:Tg)(b:FS)(sd:SD):Option (Option SV)->Res Out
 |some (some (.own p (.lst ds)))=>forO i (.own p (.lst ds)) (λx sd=>(Qa tg x sd).bind b) ds (sd.set i (some (.own true (.lst ds))))
 |_=>.no
@[simp]def ev_forO (i:Nat)(tg:Tg)(b:FS)(sd:SD):sForO i tg b sd=Gy i tg b sd sd[i]?:= rfl
@[simp]def zw8 (i:Nat)(tg:Tg)(b:FS)(sd:SD)(p:Bool)(ds:Yy):Gy i tg b sd (some (some (.own p (.lst ds))))=forOT i (.own p (.lst ds)) tg b ds (sd.set i (some (.own true (.lst ds)))):=rfl
end L2.DL
namespace L2
section
variable {X:Cx}{Y:Yb}{Z: St}{H:Hp}{s:Shared}{h':Heap}
def Inv.turnedL {t':Nat}{ch:Yi}(I:Inv X Y Z H s)(k:∀b o,b∉ch->s.heap.get? b=some o->h'.get? b=some o)(hf:∀b∈ch,FpOk X Y H b):Inv X Y Z H { s with heap:=h',toks:=t' }:=by
 have nit:∀b u,H b=some u->b∉ch:=λb u e z=>by rw[(hf b z).1] at e;exact J3 e
 refine I.step (g':=s.gens) (d':=s.drawn) (ch:=ch) (λb hb=>?_) (λb o _ _ hc e _=>k b o hc e) (λb o _ _ hc e _=>⟨o.slots,k b o hc e⟩) (λ_ _ _ _ n=>n)
  (λb o hc e=>⟨o,k b o hc e⟩) (λ_ _ e=>e) (λ_ _ _ e=>e) (λb ps e=>⟨#[],by rw[e];simp⟩) (λm hm=>?_) (λb u e=>?_) I.bare
 .obtain⟨_,f1,_,f3,f4,f5⟩:=hf b hb;exact⟨f3,f1,f4,f5⟩
 .obtain⟨o,es,ep,ho,r⟩:=hm;exact⟨o,es,ep,k _ o (λz=>(hf _ z).2.1 rfl) ho,r⟩
 .refine(I.hok b u e).stay (λc v hc q=>k c v ?_ q) (λ_ q=>q) λ_ _ q=>q;rcases hc with z|z
  .rw[z];exact nit b u e
  .exact nit c _ z
theorem FpOk.upd (h:FpOk X Y H b)(n:b≠T):FpOk X Y (upd H T o) b:=⟨(JC n).trans h.1,h.2⟩
def Inv.paired {t':Nat}{ch:Yi}{x y:V}{u v:Value}(I:Inv X Y Z H s)(rx:RelV x u)(ry:RelV y v)(hf:∀b∈ch,FpOk X Y H b)(hc:∀b∈ch,b≠s.heap.objs.size)
 (hT:h'.get? s.heap.objs.size=some { cls:=.type "tuple",data:=.seq #[u,v] }) (k:∀b o,b∉ch->s.heap.get? b=some o->h'.get? b=some o):
 Inv X Y Z (upd H s.heap.objs.size (.tup [x,y])) { s with heap:=h',toks:=t' }:=by
 have I1:Inv X Y Z (upd H s.heap.objs.size (.tup [x,y])) { s with heap:=s.heap.push { cls:=.type "tuple",data:=.seq #[u,v] },toks:=s.toks } :=
  I.laid (t':=s.toks) (λb o e=>Zq _ e) (Zf _) ⟨⟨by simp only[sizeLine_eq,Zu,ZC];omega,_,Zr _ rfl,rfl⟩,[u,v],.cons rx (.cons ry .nil),_,Zr _ rfl,rfl,_,rfl⟩
 refine Inv.turnedL (s:={ s with heap:=s.heap.push { cls:=.type "tuple",data:=.seq #[u,v] },toks:=s.toks }) (h':=h') (t':=t') (ch:=ch) I1 (λb o hb e=>?_) λb hb=>(hf b hb).upd (hc b hb);have e:(s.heap.push { cls:=.type "tuple",data:=.seq #[u,v] }).get? b=some o:=e;rcases Heap.get?_push_cases e with ⟨rfl,rfl⟩|e
 .exact hT
 .exact k b o hb e
end
def Ite (K:W.Frag)(a:Addr):It:=
 ⟨λi H=>∃xs x,SqL K H a xs/\xs[i]? = some x,
  λi H v H'=>∃T x,v=.ref T/\H T=none/\H'=upd H T (.tup [.int i,x])/\∀xs,SqL K H a xs->xs[i]? = some x,
  λi H=>∃xs,SqL K H a xs/\xs.length<=i⟩
def OQ (e it a:Addr)(i:Nat)(h:Heap):Prop:=(∃old,IsEnum h e it i old)/\h.IsListIter it a i
def OR {P:Program}{w:World}{K:W.Frag}{elts:Yj}{kx}{pos:Pos}(a e it:Addr)(hne:e≠it):Turn P w K (.Tuple elts kx pos) (Ite K a) [e,it] e (OQ e it a) where
 mem:=by simp
 obj:=λi h st c hc=>by
  obtain⟨⟨old,he⟩,⟨o1,e1,c1,d1⟩⟩:=st;simp only[UB,UM,or_false] at hc;rcases hc with rfl|rfl
  .exact⟨_,he,λv q=>by cases q⟩
  .exact⟨_,e1,λv q=>by rw[d1] at q;cases q⟩
 keep:=λi h h' st kk=>⟨(let ⟨old,he⟩:=st.1;⟨old,kk e (by simp) _ he⟩),st.2.at λo q=>kk it (by simp) o q⟩
 item:=by
  intro X hP hw hK hc i Y s Z H E I hf st hg;subst hP hw hK;obtain⟨xs,x,ha,hx⟩:=hg;obtain⟨its,rv,p,hz⟩:=I.list ha;obtain⟨u,hu,ru⟩:=rv.get hx;obtain⟨⟨old,he⟩,hit⟩:=id st;obtain⟨o1,e1,_⟩:=id hit;refine wpAny_pyNext_enum_item he hit p.isList (x:=u) (by simpa using hu) hne λh' a1 a2 a3 a4 kk=>?_;refine⟨_,rfl,wpAny_letOwnedTupleGo_enum (s:={ s with heap:=h',toks:=s.toks+1 }) a1 λh2 b1 sb=>?_⟩;have sb:Heap.SameBut e h' h2:=sb;have lt:∀{c o},s.heap.get? c=some o->c≠s.heap.objs.size:=λq=>Zi (Zk q);have lts:∀c ∈ [e,it],c≠s.heap.objs.size:=λc hc=>by
   simp only[UB,UM,or_false] at hc;rcases hc with rfl|rfl
   .exact lt he
   .exact lt e1
  have hTe:s.heap.objs.size≠e:=λq=>lt he q.symm;have I2:=I.paired (t':=s.toks+1) (h':=h2) (ch:=[e,it]) (x:=.int i) (u:=.int i s.toks) ⟨_,rfl⟩ ru hf lts (sb.extBut _ _ hTe a3) (λc o hc q=>by
   simp only[UB,UM,or_false,not_or] at hc;exact sb.extBut c o hc.1 (kk c o hc.1 hc.2 q))
  refine⟨.ref s.heap.objs.size,_,I2,rfl,⟨_,x,rfl,I.hok.fresh (Zf _),rfl,λzs hq=>by rw[I.list_inj hq ha];exact hx⟩,⟨⟨u,?_⟩,a2.extBut sb.extBut (Ne.symm hne)⟩,λc hc=>(JC (lts c hc)).trans (hf c hc).1⟩;have q:(((i+1:Nat)):Int)=(i:Int)+1:=()
  rw[q];exact b1
 done:=by
  intro X hP hw hK hc i Y s Z H E I hf st hg;subst hP hw hK;obtain⟨xs,ha,hx⟩:=hg;obtain⟨its,rv,p,hz⟩:=I.list ha;have l1:=rv.length;obtain⟨⟨old,he⟩,hit⟩:=id st;refine wpAny_pyNext_enum_end (I.ok.hd hc) he hit p.isList (by simp;omega) λh' eb=>⟨rfl,I.turnedL (t':=s.toks) (ch:=[it]) (λc o hc q=>?_) λc hc=>hf c ?_⟩
  .exact eb c o (λz=>hc (by simp[z])) q
  .have:c=it:=by simpa using hc
   subst this;simp
 self:=λ_ _ _ _ _ st h=>wpAny_pyIter_enum st.1.choose_spec h
section
variable {X:Cx}
def iEnum (K:W.Frag)(ta:TA):TI:=λZ H R=>ta Z H λvs H1=>∃a,vs=[.ref a]/\(∃xs,SqL K H1 a xs)/\R (Ite K a) H1
def OS {a:Expr}{ta:TA}{p pos:Pos}{elts:Yj}{kx}{tp:Pos}(hg:Gl X "enumerate")(hm:X.mg "enumerate" = none)(ha:PA X [a] ta)(hs:starEach [a] X.env=[(false,eval a X.env)]:=by rfl):
 PI X (.Tuple elts kx tp) (.Call (.Name "enumerate" p) [a] [] pos) (iEnum X.K ta):=by
 intro Y s Z H R I h;refine Call_ (WT I hg hm (show bootBuiltins "enumerate" = some (.type "enumerate") by kernel_rfl) (PyProof.Rows.callWith_type1 (thn (ha pos Y s Z H _ I h) λus s1 ⟨vs,H1,I1,r1,q1⟩=>?_) hs rfl));obtain⟨a,e,⟨xs,h1⟩,q⟩:=q1;subst e;cases r1 with
 |cons r rr =>
  cases rr;cases r;obtain⟨its,rv,p,hz⟩:=I1.list h1;refine call_enumerate_list p.isList λh' z1 z2 z3 kk=>wpAny_pyIter_enum z1 ?_;refine⟨s1.heap.objs.size+1,[s1.heap.objs.size+1,s1.heap.objs.size],_,_,H1,rfl,I1.kept (t':=s1.toks) kk,OR a (s1.heap.objs.size+1) s1.heap.objs.size (Nat.succ_ne_self _),⟨⟨_,z1⟩,z2⟩,λc hc=>?_,q⟩;have hc':s1.heap.objs.size<=c:=by
   simp only[UB,UM,or_false] at hc;rcases hc with rfl|rfl<;>first|exact Zf _|exact Nat.le_add_right _ _
  exact I1.fpOk hc' (I1.hok.fresh hc')
end
end L2
namespace L2.DL
def OT {K:W.Frag}{F:Hp}{d:D}{ds:Yy}{v:V}(h:Y2 d=some ds)(i:IsD K F d v):∃a xs,v=.ref a/\SqL K F a xs/\IsDs K F ds xs:=by
 cases d with
 |lst es =>
  obtain rfl:=Zqi h;rw[IsD.lst_iff] at i;obtain⟨a,xs,rfl,h1,h2⟩:=i;exact⟨a,xs,rfl,h1.sq,h2⟩
 |scr ns =>
  obtain rfl:=Zqi h;rw[IsD.scr_iff] at i;obtain⟨a,rfl,h1⟩:=i;exact⟨a,_,rfl,h1,IsDs.ints ns⟩
 |_=>exact J3 h
def zipD (xs ys:Yy):Yy:=List.zipWith (λx y=>D.tup [x,y]) xs ys
def KW (xs:Yy):Yy:=List.zipWith (λ(k:Nat) x=>D.tup [.int k,x]) (List.range xs.length) xs
def zip2:Yy->Res Yy
 | [d,e]=>(Res.ofO (Y2 d)).bind λxs=>(Res.ofO (Y2 e)).bind λys=>.ok (zipD xs ys)
 |_=>.no
def Aw:Yy->Res Yy
 | [d]=>(Res.ofO (Y2 d)).bind λxs=>.ok (KW xs)
 |_=>.no
def iZ (fr:FA):FA:=λsd=>(fr sd).bind zip2
def iEn (fr:FA):FA:=λsd=>(fr sd).bind Aw
@[simp]def ev_iZ (fr:FA)(sd:SD):iZ fr sd=(fr sd).bind zip2:=rfl
@[simp]def ev_iEn (fr:FA)(sd:SD):iEn fr sd=(fr sd).bind Aw:=rfl
@[simp]def zip2_lst (xs ys:Yy):zip2 [.lst xs,.lst ys]=.ok (zipD xs ys):=rfl
@[simp]def zuP (xs:Yy):Aw [.lst xs]=.ok (KW xs):=rfl
def Gz (ds:Yy)(i:Nat):(KW ds)[i]? = ds[i]?.map λx=>D.tup [.int i,x]:=by
 unfold KW;rw[List.getElem?_zipWith];by_cases h:i<ds.length
 .rw[Va h,Zqg h];rfl
 .rw[UF (show ds.length<=i from ())];cases (List.range ds.length)[i]?<;>rfl
def OU (ds:Yy):(KW ds).length=ds.length:=by unfold KW;rw[List.length_zipWith,ZB,Vz]
def OV {K:W.Frag}{F1:Hp}{a:Addr}{ds:Yy}{xs:Yw}(q1:SqL K F1 a xs)(i1:IsDs K F1 ds xs):Walk K F1 (Ite K a) (KW ds):=λi F2 H2 s1 s2=>by
 have p1:=Same.seq s2 (Same.seq s1 q1);have l1:=i1.length;rw[OU];refine⟨λhi=>?_,λhi=>⟨xs,p1,()⟩⟩;obtain⟨x,hx,ix⟩:=i1.get (Zqg hi);refine⟨⟨xs,x,p1,hx⟩,λv H3 yl=>?_⟩;obtain⟨T,x',rfl,hT,rfl,f1⟩:=yl;have ex:=f1 xs p1;rw[hx] at ex;obtain rfl:=Zqi ex;have ea:=Ext.alloc s2 hT (.tup [.int i,x]);refine⟨.tup [.int i,ds[i]],_,?_,ea,IsD.tup_iff.mpr ⟨T,_,rfl,.of JL,.mk (IsD.int_iff.mpr rfl) (.mk (IsD.same (s1.trans ea.ff) _ _ ix) .nil)⟩⟩;rw[Gz,Zqg hi];rfl
section
variable {X:Cx}{E:XK}{fr:FA}{p pos tp:Pos}{elts:Yj}
def OW {a:Expr}{kx}(hg:Gl X "enumerate")(hm:X.mg "enumerate" = none)(ha:QA X E [a] fr)(hs:starEach [a] X.env=[(false,eval a X.env)]:=by rfl):QI X E (.Tuple elts kx tp) (.Call (.Name "enumerate" p) [a] [] pos) (iEn fr):=PI.weak (OS hg hm ha hs) λZ H R ⟨B,F,sd,r,n⟩=>by
 refine⟨B,F,sd,r,(Res.need_bind n).mono (λds n1 vs F1 H1 e1 i1=>?_) λ_ _ q=>q⟩;unfold Aw at n1
 split at n1
 .obtain⟨xs,hx,n2⟩:=Res.need_ofO (Res.need_bind n1);obtain⟨v,rfl,h⟩:=Qu i1;obtain⟨la,us,rfl,g1,g2⟩:=OT hx h;exact⟨la,rfl,⟨_,Same.seq e1.fh g1⟩,n2 _ F1 H1 e1 (OV g1 g2)⟩
 .exact n1.elim
def gAbs:Yy->Yz
 | [.int i]=>some (.int (if i<0 then -i else i))
 |_=>none
def gInt:Yy->Yz
 | [.int i]=>some (.int i)
 | [.bl b]=>some (.int (if b then 1 else 0))
 |_=>none
@[simp]def gAbs_int (i:Int):gAbs [.int i]=some (.int (if i<0 then -i else i)):=rfl
@[simp]def gInt_int (i:Int):gInt [.int i]=some (.int i):=rfl
@[simp]def gInt_bl (b:Bool):gInt [.bl b]=some (.int (if b then 1 else 0)):=rfl
def b_abs:za1 X (.builtin "abs") (rDA X.K gAbs):=za1.weak LQ λxs H Q ⟨F,ds,z,sF,id,hz,q⟩=>by
 unfold gAbs at hz
 split at hz
 .obtain rfl:=Zqi hz;obtain⟨v,rfl,h⟩:=Qu id;exact⟨_,by rw[IsD.int_iff.mp h],q _ F H (.refl sF) (isI _ F)⟩
 .exact J3 hz
def OX:bootBuiltins "abs" = some (.builtin "abs"):=by kernel_rfl
end
end L2.DL
namespace L2.ST
open PySem
def itF:Nat->Nat->Nat
 | 0,z=>z
 |n+1,z=>itF n (5*z+1)
def G2 (a b z:Nat):itF (a+b) z=itF b (itF a z):=by
 induction a generalizing z with
 |zero=>rw[U8];rfl
 |succ a ih=>rw[Nat.succ_add];exact ih _
def G3 (n z d:Nat):itF n (z+d)=itF n z+5 ^ n*d:=by
 induction n generalizing z d with
 |zero=>simp[itF]
 |succ n ih =>
  show itF n (5*(z+d)+1)=itF n (5*z+1)+5 ^ (n+1)*d;have e:5*(z+d)+1=(5*z+1)+5*d:=()
  rw[e,ih,Vi,VD]
def pow5 (n:Nat):5 ^ n % 4=1:=by
 induction n with
 |zero=>rfl
 |succ n ih=>rw[Vi];omega
def OY (k z:Nat):∃u,itF (2 ^ k) z=z+2 ^ k*(2*u+1):=by
 induction k generalizing z with
 |zero=>exact⟨2*z,by show 5*z+1=z+1*(2*(2*z)+1);omega⟩
 |succ k ih =>
  obtain⟨u,hu⟩:=ih z;have e:2 ^ (k+1)=2 ^ k+2 ^ k:=by rw[Vi];omega
  rw[e,G2,hu,G3,hu];have h5:=pow5 (2 ^ k);obtain⟨v,hv⟩:∃v,5 ^ (2 ^ k)=4*v+1:=⟨5 ^ (2 ^ k) / 4,()⟩;rw[hv];generalize 2 ^ k=m;refine⟨2*u*(2*v+1) / 2+v,?_⟩;have:2*u*(2*v+1) / 2=u*(2*v+1):=by rw[VD,Nat.mul_div_cancel_left _ ()]
  rw[this]
  grind
def OZ (m n z:Nat):itF n z % m=itF n (z % m) % m:=by
 have h:=G3 n (z % m) (m*(z / m));rw[Nat.mod_add_div] at h;rw[h,<- VD,Nat.mul_comm _ m,VD,Nat.add_mul_mod_self_left]
theorem Cu:∀(k x y:Nat),y<2 ^ k->∃q,q<2 ^ k/\itF q x % 2 ^ k=y
 | 0,x,y,h=>⟨0,by decide,by rw[Nat.pow_zero] at *;omega⟩
 |k+1,x,y,h=>by
  have e:2 ^ (k+1)=2*2 ^ k:=by rw[Vi];omega
  have hp:0<2 ^ k:=Nat.two_pow_pos k;obtain⟨q,hq,hm⟩:=Cu k x (y % 2 ^ k) (UJ _ hp);rw[e] at h ⊢;by_cases c:itF q x % (2*2 ^ k)=y
  .exact⟨q,(),c⟩
  .refine⟨q+2 ^ k,(),?_⟩;rw[G2];obtain⟨u,hu⟩:=OY k (itF q x);rw[hu];generalize itF q x=w at *;generalize 2 ^ k=m at *;have e2:w+m*(2*u+1)=(w+m)+(2*m)*u:=by grind
   rw[e2,Nat.add_mul_mod_self_left];have d1:=Nat.div_add_mod w m;have d2:=Nat.div_add_mod y m;have d3:=Nat.div_add_mod w (2*m);have l3:=UJ w (show 0<2*m from ());rw[hm] at d1;have r3:w % (2*m) % m=y % m:=by rw[Nat.mod_mul_left_mod];exact hm
   have a1:w % (2*m)<m\/m<=w % (2*m):=()
   have a2:y<m\/m<=y:=()
   have s1:∀t,t<2*m->m<=t->t % m=t-m:=λt h1 h2=>by
    rw[Nat.mod_eq_sub_mod h2,UV ()]
   rw[Nat.add_mod,UV (show m<2*m from ())];generalize w % (2*m)=t at *;rcases a1 with a1|a1<;>rcases a2 with a2|a2
   .rw[UV a1,UV a2] at r3;exact Zn r3 c
   .rw[UV a1,s1 y h a2] at r3;rw[UV ()];omega
   .rw[UV a2,s1 t l3 a1] at r3;rw[Nat.mod_eq_sub_mod (),UV ()];omega
   .rw[s1 t l3 a1,s1 y h a2] at r3;exact Zn () c
def JE (t:Yv):Nat->SetTable.Probe->SetTable.Probe
 | 0,p=>p
 |n+1,p=>JE t n (t.advance p)
def Y8 (t:Yv)(a b:Nat)(p:SetTable.Probe):JE t (a+b) p=JE t b (JE t a p):=by
 induction a generalizing p with
 |zero=>rw[U8];rfl
 |succ a ih=>rw[Nat.succ_add];exact ih _
def Pa (t:Yv)(n:Nat)(p:SetTable.Probe):JE t (n+1) p=t.advance (JE t n p):=Y8 t n 1 p
def Kt (mask i pert:Nat):SetTable.Probe:={ j:=i,more:=SetTable.runEnd mask i-i,i:=i,perturb:=pert,dummy:=none }
def runs (mask:Nat):Nat->Nat×Nat->Nat×Nat
 | 0,s=>s
 |n+1,s=>runs mask n (SetTable.leap mask s.1 s.2)
def Ax (mask i:Nat):SetTable.runEnd mask i-i<=9:=by
 unfold SetTable.runEnd
 split<;>omega
def G4 (t:Yv)(m:Nat):∀(p:SetTable.Probe),p.more=m->p.dummy=none->JE t (m+1) p=Kt t.mask (SetTable.leap t.mask p.i p.perturb).1 (SetTable.leap t.mask p.i p.perturb).2:=by
 induction m with
 |zero =>
  intro p hm hd;show t.advance p=_;unfold SetTable.advance;rw[Ze ()];unfold Kt;rw[hd]
 |succ m ih =>
  intro p hm hd;have h:=ih { p with j:=p.j+1,more:=p.more-1 } (by show p.more-1=m;omega) hd;show JE t (m+1) (t.advance p)=_;have ha:t.advance p={ p with j:=p.j+1,more:=p.more-1 }:=by
   unfold SetTable.advance;rw[Zd ()]
  rw[ha,h]
theorem G5 (t:Yv):∀(r i pert:Nat),∃n,n<=10*r/\JE t n (Kt t.mask i pert)=Kt t.mask (runs t.mask r (i,pert)).1 (runs t.mask r (i,pert)).2
 | 0,i,pert=>⟨0,Zf _,rfl⟩
 |r+1,i,pert=>by
  have h1:=G4 t (SetTable.runEnd t.mask i-i) (Kt t.mask i pert) rfl rfl;obtain⟨n,hn,h2⟩:=G5 t r (SetTable.leap t.mask i pert).1 (SetTable.leap t.mask i pert).2;have hl:=Ax t.mask i;refine⟨(SetTable.runEnd t.mask i-i+1)+n,(),?_⟩;rw[Y8,h1];exact h2
def G6 (mask a b:Nat)(s:Nat×Nat):runs mask (a+b) s=runs mask b (runs mask a s):=by
 induction a generalizing s with
 |zero=>rw[U8];rfl
 |succ a ih=>rw[Nat.succ_add];exact ih _
theorem Cv (mask:Nat):∀(r:Nat) (s:Nat×Nat),(runs mask r s).2=s.2 / 32 ^ r
 | 0,s=>by show s.2=_;rw[Nat.pow_zero,Nat.div_one]
 |r+1,s=>by
  show(runs mask r (SetTable.leap mask s.1 s.2)).2=_;rw[Cv mask r];show s.2 / 32 / 32 ^ r=_;rw[Nat.div_div_eq_div_mul,Vi,Nat.mul_comm 32]
theorem Cw (mask:Nat):∀(r i:Nat),i<mask+1->runs mask r (i,0)=(itF r i % (mask+1),0)
 | 0,i,h=>by
  show(i,0)=(i % (mask+1),0);rw[UV h]
 |r+1,i,h=>by
  show runs mask r ((i*5+1+0 / 32) % (mask+1),0 / 32)=(itF r (5*i+1) % (mask+1),0);rw[Nat.zero_div,Nat.add_zero,Cw mask r _ (UJ _ ()),<- OZ,Nat.mul_comm i 5]
def G7 (mask r:Nat)(s:Nat×Nat)(h:s.1<mask+1):(runs mask r s).1<mask+1:=by
 induction r generalizing s with
 |zero=>exact h
 |succ r ih=>exact ih _ (UJ _ ())
def cover (hk:t.mask+1=2 ^ k)(h:Int)(hy:y<=t.mask):∃n,n<10*SetTable.turns t.mask/\(JE t n (t.probeStart h)).j=y:=by
 have hs:t.probeStart h=Kt t.mask (SetTable.bits h % (t.mask+1)) (SetTable.bits h):=rfl;have hb:SetTable.bits h<2 ^ 64:=by
  unfold SetTable.bits;have:=UW h (show(0:Int)<2 ^ 64 by decide);have:=UX h (show(2 ^ 64:Int)≠0 by decide);omega
 have hl:=G7 t.mask 13 (SetTable.bits h % (t.mask+1),SetTable.bits h) (UJ _ ());have hp:(runs t.mask 13 (SetTable.bits h % (t.mask+1),SetTable.bits h)).2=0:=by
  rw[Cv];exact Nat.div_eq_of_lt (Zg hb (by decide))
 obtain⟨q,hq,e⟩:=Cu k (runs t.mask 13 (SetTable.bits h % (t.mask+1),SetTable.bits h)).1 y ();have hr:runs t.mask (13+q) (SetTable.bits h % (t.mask+1),SetTable.bits h)=(y,0):=by
  rw[G6];generalize hR:runs t.mask 13 (SetTable.bits h % (t.mask+1),SetTable.bits h)=s at *;obtain⟨s1,s2⟩:=s;simp only at hp hl e;rw[hp,Cw t.mask q s1 hl,hk,e]
 obtain⟨n,hn,e2⟩:=G5 t (13+q) (SetTable.bits h % (t.mask+1)) (SetTable.bits h);refine⟨n,by unfold SetTable.turns;omega,?_⟩;rw[hs,e2,hr];rfl
def G8 {t:Yv}{p:SetTable.Probe}(h:p.dummy=none):(t.advance p).dummy=none:=by
 unfold SetTable.advance
 split
 .exact h
 .exact h
def Pb {t:Yv}{p:SetTable.Probe}(h:p.dummy=none)(n:Nat):(JE t n p).dummy=none:=by
 induction n generalizing p with
 |zero=>exact h
 |succ n ih=>exact ih (G8 h)
theorem G9 {t:Yv}{hashAt:Nat->Int}{h:Int}:∀(k fuel:Nat) (p:SetTable.Probe),k<fuel->p.dummy=none->(∀m,m<k->∃i,t.slot (JE t m p).j=.live i)->t.slot (JE t k p).j=.empty ->
 (∃m i,m<k/\t.slot (JE t m p).j=.live i/\hashAt i=h/\SetTable.probe.go t hashAt h fuel p=some (.candidate (JE t m p).j i (JE t (m+1) p))/\∀m' i',m'<m->t.slot (JE t m' p).j=.live i'->hashAt i'≠h) \/
 (SetTable.probe.go t hashAt h fuel p=some (.empty (JE t k p).j none)/\∀m' i',m'<k->t.slot (JE t m' p).j=.live i'->hashAt i'≠h)
 | 0,0,p,hf,_,_,_=>Zn hf (Zy _)
 | 0,fuel+1,p,_,hd,_,he=>by
  have he:t.slot p.j=.empty:=he;refine .inr ⟨?_,λm' i' hm=>Zn hm (Uw _)⟩;unfold SetTable.probe.go;rw[he];show some (SetTable.Met.empty p.j p.dummy)=_;rw[hd];rfl
 |k+1,0,p,hf,_,_,_=>Zn hf (Uw _)
 |k+1,fuel+1,p,hf,hd,hl,he=>by
  obtain⟨i,hi⟩:=hl 0 (Vj _);have hi:t.slot p.j=.live i:=hi;by_cases c:hashAt i=h
  .refine .inl ⟨0,i,Vj _,hi,c,?_,λm' i' hm=>Zn hm (Uw _)⟩;unfold SetTable.probe.go;rw[hi];show(if(hashAt i == h)=true then _ else _)=_;rw[Zd (by rw[c];exact beq_self_eq_true h)];rfl
  .have hg:SetTable.probe.go t hashAt h (fuel+1) p=SetTable.probe.go t hashAt h fuel (t.advance p):=by
    rw[SetTable.probe.go];rw[hi];show(if(hashAt i == h)=true then _ else _)=_;rw[Ze (by simpa using c)]
   rcases G9 (hashAt:=hashAt) (h:=h) k fuel (t.advance p) () (G8 hd) (λm hm=>hl (m+1) ()) he with ⟨m,i2,h1,h2,h3,h4,h5⟩|⟨h1,h2⟩
   .refine .inl ⟨m+1,i2,(),h2,h3,by rw[hg];exact h4,λm' i' hm hs=>?_⟩;cases m' with
    |zero =>
     have hs:t.slot p.j=.live i':=hs;rw[hi] at hs;cases hs;exact c
    |succ m'=>exact h5 m' i' () hs
   .refine .inr ⟨by rw[hg];exact h1,λm' i' hm hs=>?_⟩;cases m' with
    |zero =>
     have hs:t.slot p.j=.live i':=hs;rw[hi] at hs;cases hs;exact c
    |succ m'=>exact h2 m' i' () hs
open PySem
def UpA (xs:Yf):Prop:=∀i j,i<j->j<xs.size->xs.getD i 0<xs.getD j 0
def QB {α: Type}{xs:Array α}(h:i<xs.size)(d:α):xs.getD i d=xs[i]:=by
 unfold Array.getD;rw[dif_pos h];rfl
theorem Cy (u:UpA xs):∀(fuel lo hi:Nat),hi-lo<=fuel->lo<=hi->hi<=xs.size->(∀i,i<lo->xs.getD i 0<j)->(∀i,hi<=i->i<xs.size->j<=xs.getD i 0) ->
 SetTable.below.go xs j fuel lo hi<=xs.size/\(∀i,i<SetTable.below.go xs j fuel lo hi->xs.getD i 0<j)/\∀i,SetTable.below.go xs j fuel lo hi<=i->i<xs.size->j<=xs.getD i 0
 | 0,lo,hi,hf,hl,hs,h1,h2=>by
  have e:lo=hi:=()
  subst e;unfold SetTable.below.go;exact⟨hs,h1,h2⟩
 |fuel+1,lo,hi,hf,hl,hs,h1,h2=>by
  unfold SetTable.below.go;by_cases c:lo<hi
  .rw[Zd c];obtain⟨m,e,m1,m2,m3,m4⟩:=EY (k:=fuel+1) (x:=0) c hf;have hm:m<xs.size:=Zg m2 hs;have em:xs.getD m j=xs.getD m 0:=by rw[QB hm,QB hm]
   show(if xs.getD ((lo+hi) / 2) j<j then _ else _)<=xs.size/\(∀i,i<(if xs.getD ((lo+hi) / 2) j<j then _ else _)->_)/\∀i,(if xs.getD ((lo+hi) / 2) j<j then _ else _)<=i->_;rw[e];by_cases d:xs.getD m j<j
   .rw[Zd d];rw[em] at d;refine Cy u fuel (m+1) hi m4 m2 hs (λi hi'=>?_) h2;by_cases q:i=m
    .rw[q];exact d
    .exact UL (u i m (VM (VN hi') q) hm) d
   .rw[Ze d];rw[em] at d;refine Cy u fuel lo m m3 m1 (Zz hm) h1 λi hi' hs'=>?_;by_cases q:i=m
    .rw[q];exact Nat.le_of_not_lt d
    .exact Zz (Vy (Nat.le_of_not_lt d) (u m i (VM hi' (Ne.symm q)) hs'))
  .rw[Ze c];have e:lo=hi:=()
   subst e;exact⟨hs,h1,h2⟩
def Ay (u:UpA xs)(j:Nat):SetTable.below xs j<=xs.size/\(∀i,i<SetTable.below xs j->xs.getD i 0<j)/\∀i,SetTable.below xs j<=i->i<xs.size->j<=xs.getD i 0:=
 Cy u xs.size 0 xs.size () () (Zf _) (λi h=>Zn h (Uw _)) λi h1 h2=>()
def Pc (u:UpA xs)(hi:i<xs.size):SetTable.below xs (xs.getD i 0)=i:=by
 obtain⟨h1,h2,h3⟩:=Ay u (xs.getD i 0);generalize SetTable.below xs (xs.getD i 0)=p at *;rcases UN p i with q|q|q
 .have a:=u p i q hi;have b:=h3 p (Zf _) ();omega
 .exact q
 .have:=h2 i q;omega
def occ (t:Yv)(j:Nat):Prop:=∃i,i<t.place.size/\t.place.getD i 0=j
def GA (j:Nat):SetTable.has #[] j=false:=rfl
def GB {t:Yv}(u:UpA t.place){i j:Nat}(hi:i<t.place.size)(e:t.place.getD i 0=j):t.slot j=.live i:=by
 unfold SetTable.slot;have hb:SetTable.below t.place j=i:=by rw[<- e];exact Pc u hi
 show(if(t.place[SetTable.below t.place j]? == some j)=true then SetTable.Slot.live (SetTable.below t.place j) else _)=_;rw[hb];have hg:t.place[i]? = some j:=by
  rw[Us hi,<- e,QB hi]
 rw[hg,Zd (beq_self_eq_true _)]
def Pd (hd:t.dummies = #[])(h:¬occ t j):t.slot j=.empty:=by
 unfold SetTable.slot;show(if(t.place[SetTable.below t.place j]? == some j)=true then _ else _)=_;have hn:¬(t.place[SetTable.below t.place j]? == some j)=true:=by
  intro z;have z:t.place[SetTable.below t.place j]? = some j:=by simpa using z
  obtain⟨h1,h2⟩:=Ju.mp z;exact h ⟨_,h1,by rw[QB h1];exact h2⟩
 rw[Ze hn,hd,GA];rfl
def Pe (u:UpA t.place)(h:occ t j):∃i,t.slot j=.live i/\i<t.place.size/\t.place.getD i 0=j:=by
 obtain⟨i,hi,e⟩:=h;exact⟨i,GB u hi e,hi,e⟩
def Pf {t t':Yv}(h:t.mask=t'.mask)(p:SetTable.Probe):t.advance p=t'.advance p:=by
 unfold SetTable.advance;rw[h]
def GC {t t':Yv}(h:t.mask=t'.mask)(n:Nat)(p:SetTable.Probe):JE t n p=JE t' n p:=by
 induction n generalizing p with
 |zero=>rfl
 |succ n ih=>show JE t n (t.advance p)=JE t' n (t'.advance p);rw[Pf h,ih]
def GE {t t':Yv}(h:t.mask=t'.mask)(x:Int):t.probeStart x=t'.probeStart x:=by
 unfold SetTable.probeStart;rw[h]
def Way (t:Yv)(o:Nat->Prop)(x:Int)(y:Nat):Prop:=∃n,(JE t n (t.probeStart x)).j=y/\∀m,m<n->o (JE t m (t.probeStart x)).j
def Way.mono {t t':Yv}{o o':Nat->Prop}{x:Int}{y:Nat}(h:Way t o x y)(hm:t.mask=t'.mask)(ho:∀j,o j->o' j):Way t' o' x y:=by
 obtain⟨n,h1,h2⟩:=h;refine⟨n,?_,λm hm'=>?_⟩
 .rw[<- GC hm,<- GE hm];exact h1
 .rw[<- GC hm,<- GE hm];exact ho _ (h2 m hm')
structure TabOk (t:Yv)(hs:Array Int):Prop where
 size:t.place.size=hs.size
 up:UpA t.place
 le:∀i,i<t.place.size->t.place.getD i 0<=t.mask
 nod:t.dummies = #[]
 pow:∃k,t.mask+1=2 ^ k
 room:t.place.size<=t.mask
 ways:∀i,i<t.place.size->Way t (occ t) (hs.getD i 0) (t.place.getD i 0)
def Pg (u:UpA xs)(hs:xs.size<=m):∃y,y<=m/\∀i,i<xs.size->xs.getD i 0≠y:=by
 by_cases h:∀i,i<xs.size->xs.getD i 0=i
 .exact⟨m,Zf _,λi hi e=>by have:=h i hi;omega⟩
 .obtain⟨i,hi,hne,hmin⟩:∃i,i<xs.size/\xs.getD i 0≠i/\∀k,k<i->xs.getD k 0=k:=by
   have key:∀n,n<=xs.size->(∀k,k<n->xs.getD k 0=k)\/∃i,i<xs.size/\xs.getD i 0≠i/\∀k,k<i->xs.getD k 0=k:=by
    intro n
    induction n with
    |zero=>intro _;exact .inl λk hk=>Zn hk (Uw _)
    |succ n ih =>
     intro hn;rcases ih () with q|q
     .by_cases c:xs.getD n 0=n
      .refine .inl λk hk=>?_;by_cases e:k=n
       .rw[e];exact c
       .exact q k ()
      .exact .inr ⟨n,(),c,q⟩
     .exact .inr q
   rcases key xs.size (Zf _) with q|q
   .exact Zn q h
   .exact q
  refine⟨i,(),λk hk e=>?_⟩;rcases UN k i with q|q|q
  .have:=hmin k q;omega
  .subst q;exact hne e
  .have a:=u i k q hk;have b:i<=xs.getD i 0:=by
    cases i with
    |zero=>exact Ue _
    |succ i =>
     have:=u i (i+1) () hi;have:=hmin i ();omega
   omega
def Ph (T:TabOk t hs)(x:Int):∃n,n<10*SetTable.turns t.mask/\(∀m,m<n->occ t (JE t m (t.probeStart x)).j)/\¬occ t (JE t n (t.probeStart x)).j:=by
 obtain⟨k,hk⟩:=T.pow;obtain⟨y,hy,hf⟩:=Pg T.up T.room;obtain⟨n,hn,e⟩:=cover hk x hy;have hno:¬occ t (JE t n (t.probeStart x)).j:=by
  rw[e];rintro⟨i,hi,q⟩;exact hf i hi q
 have key:∀d n,n<=d->n<10*SetTable.turns t.mask->¬occ t (JE t n (t.probeStart x)).j->∃n,n<10*SetTable.turns t.mask/\(∀m,m<n->occ t (JE t m (t.probeStart x)).j)/\¬occ t (JE t n (t.probeStart x)).j:=by
  intro d
  induction d with
  |zero =>
   intro n hd hn hno;have:n=0:=()
   subst this;exact⟨0,hn,λm hm=>Zn hm (Uw _),hno⟩
  |succ d ih =>
   intro n hd hn hno;by_cases c:∀m,m<n->occ t (JE t m (t.probeStart x)).j
   .exact⟨n,hn,c,hno⟩
   .obtain⟨m,hm⟩:=Classical.not_forall.mp c;obtain⟨h1,h2⟩:=Classical.not_imp.mp hm;exact ih m () () h2
 exact key n n (Zf _) hn hno
def Cz {α: Type}(xs:Array α)(hp:p<=xs.size)(x:α):(SetTable.insertAt xs p x).size=xs.size+1:=by
 unfold SetTable.insertAt;simp;omega
def GF {α: Type}(xs:Array α)(hp:p<=xs.size)(x d:α)(i:Nat):(SetTable.insertAt xs p x).getD i d=if i<p then xs.getD i d else if i=p then x else xs.getD (i-1) d:=by
 unfold SetTable.insertAt;simp only[UY];rw[Array.getElem?_append,Array.getElem?_push,Array.getElem?_extract,Array.getElem?_extract];simp only[Array.size_push,Array.size_extract];have e:min p xs.size-0=p:=()
 rw[e];rcases UN i p with c|c|c
 .have a:i<p+1:=()
  have b:¬i=p:=()
  simp only[a,b,c,if_true,if_false];simp
 .subst c;have a:¬i<i:=Zy _;simp only[Vm,a,if_true,if_false];rfl
 .have a:¬i<p+1:=()
  have b:¬i<p:=()
  have b2:¬i=p:=()
  simp only[a,b,b2,if_false];have ei:p+(i-(p+1))=i-1:=()
  rw[ei];by_cases c3:i-1<xs.size
  .rw[Zd (by simp only[Vz];omega)]
  .rw[Ze (by simp only[Vz];omega),Vg ()]
def Pi (T:TabOk t hs)(hy:y<=t.mask)(hf:¬occ t y)(hw:Way t (occ t) x y)(hr:t.place.size+1<=t.mask):TabOk (t.put y).1 (SetTable.insertAt hs (t.put y).2 x)/\(t.put y).2<=hs.size/\(t.put y).1.mask=t.mask:=by
 obtain⟨b1,b2,b3⟩:=Ay T.up y;have hp:(t.put y).2=SetTable.below t.place y:=rfl;have hpl:(t.put y).1.place=SetTable.insertAt t.place (SetTable.below t.place y) y:=rfl;have hmk:(t.put y).1.mask=t.mask:=rfl;have hdm:(t.put y).1.dummies = #[]:=by
  show(if SetTable.has t.dummies y then SetTable.eraseAt t.dummies (SetTable.below t.dummies y) else t.dummies)=_;rw[T.nod,GA];rfl
 rw[hp];have b4:∀i,SetTable.below t.place y<=i->i<t.place.size->y<t.place.getD i 0:=λi h1 h2=>by
  have:=b3 i h1 h2;have:t.place.getD i 0≠y:=λz=>hf ⟨i,h2,z⟩;omega
 generalize SetTable.below t.place y=p at *;have sz:(SetTable.insertAt t.place p y).size=t.place.size+1:=Cz _ b1 _;have gp:=GF t.place b1 y 0;have oc:∀j,occ t j->occ (t.put y).1 j:=by
  rintro j ⟨i,hi,e⟩;by_cases c:i<p
  .exact⟨i,by rw[hpl,sz];omega,by rw[hpl,gp,Zd c];exact e⟩
  .exact⟨i+1,by rw[hpl,sz];omega,by rw[hpl,gp,Ze (),Ze (),Nat.add_sub_cancel];exact e⟩
 have hsz:=T.size;refine⟨⟨?_,?_,?_,hdm,by rw[hmk];exact T.pow,by rw[hpl,sz,hmk];exact hr,?_⟩,(),hmk⟩
 .rw[hpl,sz,Cz _ ()];omega
 .intro i j hij hj;rw[hpl] at hj ⊢;rw[sz] at hj;rw[gp,gp];by_cases c1:j<p
  .rw[Zd c1,Zd ()];exact T.up i j hij ()
  .rw[Ze c1];by_cases c2:j=p
   .rw[Zd c2,Zd ()];exact b2 i ()
   .rw[Ze c2];by_cases c3:i<p
    .rw[Zd c3];exact T.up i (j-1) () ()
    .rw[Ze c3];by_cases c4:i=p
     .rw[Zd c4];exact b4 (j-1) () ()
     .rw[Ze c4];exact T.up (i-1) (j-1) (Nat.sub_lt_sub_right () (by assumption)) ()
 .intro i hi;rw[hpl] at hi ⊢;rw[sz] at hi;rw[gp,hmk]
  split
  .exact T.le i ()
  .split
   .exact hy
   .exact T.le (i-1) ()
 .intro i hi;rw[hpl] at hi ⊢;rw[sz] at hi;rw[gp,GF hs () x 0];by_cases c1:i<p
  .rw[Zd c1,Zd c1];exact(T.ways i ()).mono hmk.symm oc
  .rw[Ze c1,Ze c1];by_cases c2:i=p
   .rw[Zd c2,Zd c2];exact hw.mono hmk.symm oc
   .rw[Ze c2,Ze c2];exact(T.ways (i-1) ()).mono hmk.symm oc
open PySem
theorem Az (t:Yv)(i pert:Nat):∀k,k<=SetTable.runEnd t.mask i-i->JE t k (Kt t.mask i pert)={ j:=i+k,more:=SetTable.runEnd t.mask i-i-k,i:=i,perturb:=pert,dummy:=none }
 | 0,_=>rfl
 |k+1,h=>by
  rw[Pa,Az t i pert k ()];unfold SetTable.advance;rw[Zd (by show SetTable.runEnd t.mask i-i-k > 0;omega)];show SetTable.Probe.mk (i+k+1) (SetTable.runEnd t.mask i-i-k-1) i pert none=_
  congr 1
def C0 {mask i:Nat}(h:i<=mask):i<=SetTable.runEnd mask i/\SetTable.runEnd mask i<=mask:=by
 unfold SetTable.runEnd
 split<;>omega
def occO (owner:Array (Option Nat))(j:Nat):Prop:=∃i,owner.getD j none=some i
theorem GG {t:Yv}{owner:Array (Option Nat)}(hs:owner.size=t.mask+1):∀(fuel i pert y:Nat),i<=t.mask->SetTable.layClean.free t.mask owner fuel i pert=some y ->
 y<=t.mask/\owner.getD y none=none/\∃n,(JE t n (Kt t.mask i pert)).j=y/\∀m,m<n->occO owner (JE t m (Kt t.mask i pert)).j
 | 0,i,pert,y,_,h=>by unfold SetTable.layClean.free at h;exact J3 h
 |fuel+1,i,pert,y,hi,h=>by
  have hr:=C0 hi;unfold SetTable.layClean.free at h;have kd:∀{k},k<SetTable.runEnd t.mask i+1-i->k<=SetTable.runEnd t.mask i-i:=λhk=>by
   rw[Nat.succ_sub hr.1] at hk;exact VN hk
  have bd:∀{k},k<SetTable.runEnd t.mask i+1-i->i+k<owner.size:=λhk=>by
   rw[hs];exact Nat.lt_succ_of_le (Zh (Nat.add_le_of_le_sub' hr.1 (kd hk)) hr.2)
  have inb:∀k,k<SetTable.runEnd t.mask i+1-i->owner.getD (i+k) (some 0)=owner.getD (i+k) none:=λk hk=>by
   rw[QB (bd hk),QB (bd hk)]
  have bz:∀k,k<SetTable.runEnd t.mask i+1-i->(!(owner.getD (i+k) (some 0)).isNone)=true->occO owner (i+k):=λk hk hb=>by
   rw[inb k hk] at hb;unfold occO;cases q:owner.getD (i+k) none with
   |none=>rw[q] at hb;exact JB hb
   |some v=>exact⟨v,rfl⟩
  split at h
  .rename_i k hk;obtain⟨h1,h2,h3⟩:=List.find?_range_eq_some.mp hk;have h2:=Jd.mp h2;obtain rfl:=Zqi h;refine⟨VN (by have:=bd h2;rwa [hs] at this),?_,k,?_,λm hm=>?_⟩
   .rw[inb k h2] at h1;cases q:owner.getD (i+k) none with
    |none=>rfl
    |some v=>rw[q] at h1;exact JB h1
   .rw[Az t i pert k (kd h2)]
   .rw[Az t i pert m (kd (UL hm h2))];exact bz m (UL hm h2) (h3 m hm)
  .rename_i hk;have h3:=Jv.mp hk;have hl:(SetTable.leap t.mask i pert).1<=t.mask:=Jm.mp (UJ _ (Vj _));obtain⟨g1,g2,n,g3,g4⟩:=GG hs fuel _ _ y hl h;have he:=G4 t (SetTable.runEnd t.mask i-i) (Kt t.mask i pert) rfl rfl;have he:JE t (SetTable.runEnd t.mask i-i+1) (Kt t.mask i pert)=Kt t.mask (SetTable.leap t.mask i pert).1 (SetTable.leap t.mask i pert).2:=he;refine⟨g1,g2,SetTable.runEnd t.mask i-i+1+n,by rw[Y8,he];exact g3,λm hm=>?_⟩;by_cases c:m<=SetTable.runEnd t.mask i-i
   .rw[Az t i pert m c];exact bz m () (h3 m ())
   .obtain⟨m',rfl⟩:∃m',m=SetTable.runEnd t.mask i-i+1+m':=⟨m-(SetTable.runEnd t.mask i-i+1),()⟩;rw[Y8,he];exact g4 m' ()
theorem GH {mask:Nat}{owner:Array (Option Nat)}(hs:owner.size=mask+1):∀(fuel i pert:Nat),i<=mask->SetTable.layClean.free mask owner fuel i pert=none->∀r,r<fuel->occO owner (runs mask r (i,pert)).1
 | 0,i,pert,_,_,r,hr=>Zn hr (Uw _)
 |fuel+1,i,pert,hi,h,r,hr=>by
  have hre:=C0 hi;unfold SetTable.layClean.free at h
  split at h
  .cases h
  .rename_i hk;have h3:=Jv.mp hk;have hl:(SetTable.leap mask i pert).1<=mask:=Jm.mp (UJ _ (Vj _));cases r with
   |zero =>
    have h0:=h3 0 ();have e:owner.getD (i+0) (some 0)=owner.getD i none:=by rw[Nat.add_zero,QB (),QB ()]
    rw[e] at h0;show occO owner i;unfold occO;cases q:owner.getD i none with
    |none=>rw[q] at h0;exact JB h0
    |some v=>exact⟨v,rfl⟩
   |succ r=>exact GH hs fuel _ _ hl h r ()
def Pj {mask k:Nat}(hk:mask+1=2 ^ k)(h:Int){y:Nat}(hy:y<=mask):∃r,r<SetTable.turns mask/\(runs mask r (SetTable.bits h % (mask+1),SetTable.bits h)).1=y:=by
 have hb:SetTable.bits h<2 ^ 64:=by
  unfold SetTable.bits;have:=UW h (show(0:Int)<2 ^ 64 by decide);have:=UX h (show(2 ^ 64:Int)≠0 by decide);omega
 have hl:=G7 mask 13 (SetTable.bits h % (mask+1),SetTable.bits h) (UJ _ ());have hp:(runs mask 13 (SetTable.bits h % (mask+1),SetTable.bits h)).2=0:=by
  rw[Cv];exact Nat.div_eq_of_lt (Zg hb (by decide))
 obtain⟨q,hq,e⟩:=Cu k (runs mask 13 (SetTable.bits h % (mask+1),SetTable.bits h)).1 y ();refine⟨13+q,by unfold SetTable.turns;omega,?_⟩;rw[G6];generalize hR:runs mask 13 (SetTable.bits h % (mask+1),SetTable.bits h)=s at *;obtain⟨s1,s2⟩:=s;simp only at hp hl e;rw[hp,Cw mask q s1 hl,hk,e]
structure LayOk (t:Yv)(owner:Array (Option Nat))(hs:Ye):Prop where
 size:owner.size=t.mask+1
 lt:∀j i,owner.getD j none=some i->i<hs.length
 one:∀j j' i,owner.getD j none=some i->owner.getD j' none=some i->j=j'
 all:∀i,i<hs.length->∃j,j<=t.mask/\owner.getD j none=some i/\Way t (occO owner) (hs.getD i 0) j
def Pk {f:Nat->Nat}{n:Nat}(h:∀a b,a<n->b<n->f a=f b->a=b):((List.range n).map f).Nodup:=by
 unfold List.Nodup;rw[Vk];refine List.Pairwise.imp_of_mem (R:=λa b=>a≠b) (λ{a b} ha hb hn e=>hn (h a b (Jd.mp ha) (Jd.mp hb) e)) ?_;exact List.nodup_range
def Pm {t:Yv}{owner:Array (Option Nat)}{hs:Ye}(L:LayOk t owner hs)(hl:hs.length<=t.mask):∃y,y<=t.mask/\owner.getD y none=none:=by
 apply VS;intro hno;have al:∀y,y<t.mask+1->∃i,owner.getD y none=some i:=λy hy=>by
  cases q:owner.getD y none with
  |none=>exact Zn ⟨y,(),q⟩ hno
  |some i=>exact⟨i,rfl⟩
 have nd:((List.range (t.mask+1)).map λy=>(owner.getD y none).getD 0).Nodup:=Pk λa b ha hb e=>by
  obtain⟨i,hi⟩:=al a ha;obtain⟨i',hi'⟩:=al b hb;rw[hi,hi'] at e;have e:i=i':=e;subst e;exact L.one a b i hi hi'
 have sub:((List.range (t.mask+1)).map λy=>(owner.getD y none).getD 0) ⊆ List.range hs.length:=λz hz=>by
  obtain⟨y,hy,rfl⟩:=Ja.mp hz;obtain⟨i,hi⟩:=al y (Jd.mp hy);rw[hi];exact Jd.mpr (L.lt y i hi)
 have:=VX nd sub;rw[Zql,ZB,ZB] at this;omega
def Pn {owner:Array (Option Nat)}{y:Nat}(hy:y<owner.size)(v:Option Nat)(j:Nat):(owner.setIfInBounds y v).getD j none=if j=y then v else owner.getD j none:=by
 simp only[UY];rw[Array.getElem?_setIfInBounds];by_cases c:y=j
 .subst c;rw[Zd rfl,Zd rfl,Zd hy];rfl
 .rw[Ze c,Ze λz=>c z.symm]
def Po {t:Yv}{owner:Array (Option Nat)}{hs:Ye}(L:LayOk t owner hs)(hl:hs.length<=t.mask)(hp:∃k,t.mask+1=2 ^ k)(h:Int):
 ∃y,SetTable.layClean.free t.mask owner (SetTable.turns t.mask) (SetTable.bits h % (t.mask+1)) (SetTable.bits h)=some y/\LayOk t (owner.setIfInBounds y (some hs.length)) (hs++[h]):=by
 have hi:SetTable.bits h % (t.mask+1)<=t.mask:=Jm.mp (UJ _ (Vj _));cases q:SetTable.layClean.free t.mask owner (SetTable.turns t.mask) (SetTable.bits h % (t.mask+1)) (SetTable.bits h) with
 |none =>
  obtain⟨k,hk⟩:=hp;obtain⟨y,hy,hf⟩:=Pm L hl;obtain⟨r,hr,e⟩:=Pj hk h hy;obtain⟨i,hz⟩:=GH L.size _ _ _ hi q r hr;rw[e,hf] at hz;exact J3 hz
 |some y =>
  obtain⟨h1,h2,n,h3,h4⟩:=GG L.size _ _ _ y hi q;have sg:=Pn (owner:=owner) (y:=y) (by rw[L.size];omega) (some hs.length);have oc:∀j,occO owner j->occO (owner.setIfInBounds y (some hs.length)) j:=by
   rintro j ⟨i,hj⟩;refine⟨i,?_⟩;rw[sg,Ze λz=>by rw[z,h2] at hj;cases hj];exact hj
  refine⟨y,rfl,⟨by rw[Array.size_setIfInBounds];exact L.size,λj i hj=>?_,λj j' i hj hj'=>?_,λi hi'=>?_⟩⟩
  .rw[Ub,Uq];rw[sg] at hj
   split at hj
   .cases hj;omega
   .have:=L.lt j i hj;omega
  .rw[sg] at hj hj'
   split at hj
   .rename_i a;obtain rfl:=Zqi hj
    split at hj'
    .rename_i b;rw[a,b]
    .have:=L.lt j' _ hj';omega
   .split at hj'
    .obtain rfl:=Zqi hj';have:=L.lt j _ hj;omega
    .exact L.one j j' i hj hj'
  .rw[Ub,Uq] at hi';by_cases c:i<hs.length
   .obtain⟨j,g1,g2,g3⟩:=L.all i c;refine⟨j,g1,?_,?_⟩
    .rw[sg,Ze λz=>by rw[z,h2] at g2;cases g2];exact g2
    .have e:(hs++[h]).getD i 0=hs.getD i 0:=by
      rw[Ua,Ua,Vf c]
     rw[e];exact g3.mono rfl oc
   .have e:i=hs.length:=()
    subst e;refine⟨y,h1,by rw[sg,Zd rfl],?_⟩;have e:(hs++[h]).getD hs.length 0=h:=by
     rw[Ua,Ve (Zf _),Nat.sub_self];rfl
    rw[e];exact⟨n,h3,λm hm=>oc _ (h4 m hm)⟩
theorem GI {t:Yv}(hp:∃k,t.mask+1=2 ^ k):∀(rest:Ye) (hs:Ye) (owner:Array (Option Nat)),LayOk t owner hs->hs.length+rest.length<=t.mask+1 ->
 ∃owner',rest.foldl (init:=some (owner,hs.length)) (λacc h=>do
  let (owner,k) <- acc
  let j <- SetTable.layClean.free t.mask owner (SetTable.turns t.mask) (SetTable.bits h % (t.mask+1)) (SetTable.bits h)
  pure (owner.setIfInBounds j (some k),k+1))=some (owner',hs.length+rest.length)/\LayOk t owner' (hs++rest)
 | [],hs,owner,L,_=>⟨owner,rfl,by rw[ZA];exact L⟩
 |h::rest,hs,owner,L,hl=>by
  rw[Zu] at hl;obtain⟨y,e,L'⟩:=Po L () hp h;obtain⟨o',e2,L2⟩:=GI hp rest (hs++[h]) _ L' (by rw[Ub,Uq];omega);refine⟨o',?_,by rw[UC] at L2;exact L2⟩;rw[Ub,Uq] at e2;rw[UE];simp only[Option.bind_eq_bind,Option.bind_some,e];rw[Zu,show hs.length+(rest.length+1)=hs.length+1+rest.length by omega];exact e2
def Pp {t:Yv}(hp:∃k,t.mask+1=2 ^ k)(hs:Array Int)(hl:hs.size<=t.mask+1):∃owner,SetTable.layClean t.mask hs=some owner/\LayOk t owner hs.toList:=by
 have L0:LayOk t (Array.replicate (t.mask+1) none) []:=by
  have z:∀j i,(Array.replicate (t.mask+1) (none:Option Nat)).getD j none≠some i:=λj i h=>by
   simp only[UY,Array.getElem?_replicate] at h
   split at h<;>exact J3 h
  exact⟨by simp,λj i h=>Zn h (z j i),λj j' i h=>Zn h (z j i),λi h=>Zn h (Uw _)⟩
 obtain⟨o,e,L⟩:=GI hp hs.toList [] _ L0 (by simpa using hl);refine⟨o,?_,by simpa using L⟩;unfold SetTable.layClean;rw[<- Array.foldl_toList];have e:hs.toList.foldl _ (some (Array.replicate (t.mask+1) none,0))=some (o,[].length+hs.toList.length):=e;rw[e];rfl
open PySem
def Pq {owner:Array (Option Nat)}{j i:Nat}(h:owner.getD j none=some i):j<owner.size:=by
 apply VS;intro z;rw[UY,Vg ()] at h;exact J3 h
def KF (mask:Nat)(owner:Array (Option Nat)):List (Nat×Nat):=(List.range (mask+1)).filterMap λj=>(owner.getD j none).map (j,·)
def Pr:p∈KF mask owner↔p.1<=mask/\owner.getD p.1 none=some p.2:=by
 unfold KF;rw[List.mem_filterMap];constructor
 .rintro⟨j,hj,e⟩;obtain⟨i,hi,e⟩:=Ji.mp e;subst e;exact⟨Jm.mp (Jd.mp hj),hi⟩
 .rintro⟨h1,h2⟩;exact⟨p.1,Jd.mpr (),by rw[h2];rfl⟩
def Ps (mask:Nat)(owner:Array (Option Nat)):(KF mask owner).Pairwise λa b=>a.1<b.1:=by
 unfold KF;rw[List.pairwise_filterMap];refine List.pairwise_lt_range.imp λ{a b} hab x hx y hy=>?_;obtain⟨i,_,rfl⟩:=Ji.mp hx;obtain⟨i',_,rfl⟩:=Ji.mp hy;exact hab
def C1 {α: Type}(l:List α)(i:Nat)(d:α):l.toArray.getD i d=l.getD i d:=by
 rw[UY,List.getElem?_toArray,Ua]
def C2 {α β: Type}(l:List α)(f:α -> β)(i:Nat)(hi:i<l.length)(d:β):(l.map f).getD i d=f l[i]:=by
 rw[Ua,Zv,Zqg hi];rfl
def Pt {mask:Nat}(hp:∃k,mask+1=2 ^ k)(hs:Array Int)(hl:hs.size<=mask)(finger moves:Nat)(led plain:Bool):
 ∃t' order,SetTable.laid mask finger moves led plain hs=some (t',order)/\t'.mask=mask/\t'.moves=moves/\t'.led=led/\t'.plain=plain/\t'.finger=finger/\order.size=hs.size/\(∀k,k<order.size->order.getD k 0<hs.size)/\(∀k k',k<order.size->k'<order.size->order.getD k 0=order.getD k' 0->k=k')/\(∀i,i<hs.size->∃k,k<order.size/\order.getD k 0=i)/\TabOk t' (order.map λi=>hs.getD i 0):=by
 let t0:Yv:={ mask:=mask,place:=#[],dummies:=#[],finger:=0,led:=false,moves:=0,plain:=true }
 obtain⟨owner,e,L⟩:=Pp (t:=t0) hp hs (by show hs.size<=mask+1;omega);have e:SetTable.layClean mask hs=some owner:=e;have hsz:owner.size=mask+1:=L.size;have mem:=λp=>Pr (mask:=mask) (owner:=owner) (p:=p);have up:=Ps mask owner;have nd2:((KF mask owner).map (·.2)).Nodup:=by
  unfold List.Nodup;rw[Vk];refine List.Pairwise.imp_of_mem (λ{a b} ha hb hab e2=>?_) up;have h1:=((mem a).mp ha).2;have h2:=((mem b).mp hb).2;rw[e2] at h1;have:=L.one _ _ _ h1 h2;omega
 have sub1:((KF mask owner).map (·.2)) ⊆ List.range hs.size:=λz hz=>by
  obtain⟨p,hp,rfl⟩:=Ja.mp hz;have:=L.lt _ _ ((mem p).mp hp).2;exact Jd.mpr (by simpa using this)
 have sub2:List.range hs.size ⊆ ((KF mask owner).map (·.2)):=λi hi=>by
  obtain⟨j,h1,h2,_⟩:=L.all i (by simpa using Jd.mp hi);exact Ja.mpr ⟨(j,i),(mem (j,i)).mpr ⟨h1,h2⟩,rfl⟩
 have len:(KF mask owner).length=hs.size:=by
  have a:=VX nd2 sub1;have b:=VX List.nodup_range sub2;rw[Zql,ZB] at a b;omega
 have el:SetTable.laid mask finger moves led plain hs=some ({ mask:=mask,place:=((KF mask owner).map (·.1)).toArray,dummies:=#[],finger:=finger,led:=led,moves:=moves,plain:=plain },((KF mask owner).map (·.2)).toArray):=by
  unfold SetTable.laid;rw[e];rfl
 generalize hlv:KF mask owner=lv at *;have gp:∀i (hi:i<lv.length),((lv.map (·.1)).toArray).getD i 0=lv[i].1:=λi hi=>by rw[C1,C2 _ _ _ hi]
 have go:∀i (hi:i<lv.length),((lv.map (·.2)).toArray).getD i 0=lv[i].2:=λi hi=>by rw[C1,C2 _ _ _ hi]
 have upi:=Jl.mp up;refine⟨_,_,el,rfl,rfl,rfl,rfl,rfl,by simpa using len,λk hk=>?_,λk k' hk hk' e2=>?_,λi hi=>?_,?_⟩
 .have hk:k<lv.length:=by simpa using hk
  rw[go k hk];have:=L.lt _ _ ((mem lv[k]).mp (UG hk)).2;simpa using this
 .have hk:k<lv.length:=by simpa using hk
  have hk':k'<lv.length:=by simpa using hk'
  rw[go k hk,go k' hk'] at e2;have h1:=((mem lv[k]).mp (UG hk)).2;have h2:=((mem lv[k']).mp (UG hk')).2;rw[e2] at h1;have e3:=L.one _ _ _ h1 h2;rcases UN k k' with q|q|q
  .have:=upi k k' hk hk' q;omega
  .exact q
  .have:=upi k' k hk' hk q;omega
 .obtain⟨p,hp,e2⟩:=Ja.mp (sub2 (Jd.mpr hi));obtain⟨k,hk,rfl⟩:=UA hp;exact⟨k,by simpa using hk,by rw[go k hk];exact e2⟩
 .have oc:∀j,occO owner j->occ { mask:=mask,place:=(lv.map (·.1)).toArray,dummies:=#[],finger:=finger,led:=led,moves:=moves,plain:=plain } j:=by
   rintro j ⟨i,hj⟩;have hin:=Pq hj;have hm:(j,i)∈lv:=(mem (j,i)).mpr ⟨by show j<=mask;omega,hj⟩;obtain⟨k,hk,e2⟩:=UA hm;exact⟨k,by simpa using hk,by show((lv.map (·.1)).toArray).getD k 0=j;rw[gp k hk,e2]⟩
  refine⟨by simp,λi j hij hj=>?_,λi hi=>?_,rfl,hp,by show((lv.map (·.1)).toArray).size<=mask;simp;omega,λk hk=>?_⟩
  .have hj:j<lv.length:=by simpa using hj
   show((lv.map (·.1)).toArray).getD i 0<((lv.map (·.1)).toArray).getD j 0;rw[gp i (),gp j hj];exact upi i j () hj hij
  .have hi:i<lv.length:=by simpa using hi
   show((lv.map (·.1)).toArray).getD i 0<=mask;rw[gp i hi];exact((mem lv[i]).mp (UG hi)).1
  .have hk:k<lv.length:=by simpa using hk
   have h1:=((mem lv[k]).mp (UG hk)).2;have hlt:=L.lt _ _ h1;obtain⟨j,g1,g2,g3⟩:=L.all lv[k].2 hlt;have ej:=L.one _ _ _ g2 h1;subst ej;have eh:(((lv.map (·.2)).toArray).map λi=>hs.getD i 0).getD k 0=hs.toList.getD lv[k].2 0:=by
    have e4:((lv.map (·.2)).toArray).map (λi=>hs.getD i 0)=((lv.map (·.2)).map λi=>hs.getD i 0).toArray:=by simp
    rw[e4,C1,Zw,C2 _ _ _ hk];show hs.getD lv[k].2 0=_;rw[UY,Ua,Array.getElem?_toList]
   rw[eh];show Way _ _ _ (((lv.map (·.1)).toArray).getD k 0);rw[gp k hk];exact g3.mono rfl oc
theorem GJ:∀(fuel size n:Nat),(∃k,size=2 ^ k)->n<size*2 ^ fuel->(∃k,SetTable.sizeAbove.go n fuel size=2 ^ k)/\n<SetTable.sizeAbove.go n fuel size
 | 0,size,n,hp,h=>by
  unfold SetTable.sizeAbove.go;exact⟨hp,by simpa using h⟩
 |fuel+1,size,n,⟨k,hk⟩,h=>by
  unfold SetTable.sizeAbove.go
  split
  .exact GJ fuel (size*2) n ⟨k+1,by rw[Vi,hk]⟩ (by rw[VD,<- Nat.pow_succ'];exact h)
  .exact⟨⟨k,hk⟩,()⟩
def GK (h:n<1000000000):(∃k,SetTable.sizeAbove n=2 ^ k)/\n<SetTable.sizeAbove n:=
 GJ 64 8 n ⟨3,rfl⟩ (Zg h (by decide))
theorem GL:∀(fuel size n:Nat),size<=2*n+8->SetTable.sizeAbove.go n fuel size<=2*n+8
 | 0,size,n,h=>by unfold SetTable.sizeAbove.go;exact h
 |fuel+1,size,n,h=>by
  unfold SetTable.sizeAbove.go
  split
  .exact GL fuel (size*2) n ()
  .exact h
def Pu (n:Nat):SetTable.sizeAbove n<=2*n+8:=GL 64 8 n ()
def Pv {t:Yv}{hs:Array Int}{wanted:Nat}(h1:hs.size<=wanted)(h2:wanted<1000000000):
 ∃t' order,t.relaid hs wanted=some (t',order)/\t'.led=t.led/\t'.plain=t.plain/\t'.mask+1=SetTable.sizeAbove wanted/\order.size=hs.size/\(∀k,k<order.size->order.getD k 0<hs.size)/\(∀k k',k<order.size->k'<order.size->order.getD k 0=order.getD k' 0->k=k')/\(∀i,i<hs.size->∃k,k<order.size/\order.getD k 0=i)/\TabOk t' (order.map λi=>hs.getD i 0):=by
 obtain⟨⟨k,hk⟩,hlt⟩:=GK h2;have hm:SetTable.sizeAbove wanted-1+1=SetTable.sizeAbove wanted:=()
 obtain⟨t',order,e,e1,_,e3,e4,_,e6,e7,e8,e9,e10⟩:=Pt (mask:=SetTable.sizeAbove wanted-1) ⟨k,by rw[hm];exact hk⟩ hs () t.finger (t.movedTo (SetTable.sizeAbove wanted-1)) t.led t.plain;exact⟨t',order,e,e3,e4,by rw[e1];exact hm,e6,e7,e8,e9,e10⟩
open PySem
variable {prog:Program}{w:World}{A:Around}{E:Ya}{s:Shared}
theorem TabOk.fits {t:Yv}{es:Array (Int×Value)}(T:TabOk t (es.map (·.1))):t.fits es.size=true:=by
 have h1:=T.size;rw[Ut] at h1;unfold SetTable.fits SetTable.fill;rw[T.nod];simp[h1,show es.size<=t.mask by have:=T.room;omega]
def GM {es:Array (Int×Value)}{i:Nat}(hi:i<es.size):(es.map (·.1)).getD i 0=es[i].1:=by
 rw[QB (by rw[Ut];exact hi)];simp
def C3 {es:Array (Int×Value)}{i:Nat}(hi:i<es.size):(es[i]?.map (·.1)).getD 0=es[i].1:=by
 rw[Us hi];rfl
def Wb (t:Yv)(p:SetTable.Probe):Prop:=p.j+p.more<=t.mask
def GN (t:Yv)(h:i<=t.mask):Wb t (Kt t.mask i pert):=by
 have:=C0 h;show i+(SetTable.runEnd t.mask i-i)<=t.mask;omega
def Pw (h:Wb t p):Wb t (t.advance p):=by
 unfold Wb at h;unfold SetTable.advance
 split
 .show p.j+1+(p.more-1)<=t.mask;omega
 .have hl:(SetTable.leap t.mask p.i p.perturb).1<=t.mask:=Jm.mp (UJ _ (Vj _));exact GN t (pert:=(SetTable.leap t.mask p.i p.perturb).2) hl
def Px (h:Wb t p)(n:Nat):Wb t (JE t n p):=by
 induction n generalizing p with
 |zero=>exact h
 |succ n ih=>exact ih (Pw h)
def Py (t:Yv)(h:Int):Wb t (t.probeStart h):=GN t (pert:=SetTable.bits h) (Jm.mp (UJ _ (Vj _)))
def Pz (h:Wb t p)(n:Nat):(JE t n p).j<=t.mask:=by
 have:=Px h n;unfold Wb at this;omega
theorem GO {a:Addr}{o:Obj}{es:Array (Int×Value)}{ep:Nat}{t:Yv}{x:Value}{h:Int}{same:Value->Bool}{Q:SetFound->Yu}{e:Nat}
 (ho:s.heap.get? a=some o) (hd:o.data=.set es ep t) (T:TabOk t (es.map (·.1))) (hodd:t.mask % 2=1)
 (hq:∀i (hi:i<es.size),es[i].1=h->∀Q:Bool->Yu,Q (same es[i].2) s->YB prog w A (eqBool es[i].2 x) Q E s)
 (hr:∀i (hi:i<es.size),∃b,es[i].2=.ref b)
 (hsn:t.led=true\/∀Q:Bool->Yu,Q false s->YB prog w A (searchCouldBeSeen x ((es.filter (·.1 == h)).toList.map (·.2))) Q E s)
 (he:e<10*SetTable.turns t.mask) (hoc:∀m,m<e->occ t (JE t m (t.probeStart h)).j) (hfr:¬occ t (JE t e (t.probeStart h)).j)
 (hit:∀i (hi:i<es.size),es[i].1=h->same es[i].2=true->Q (.there none) s)
 (miss:(∀i (hi:i<es.size),es[i].1=h->same es[i].2=false)->Q (.free (JE t e (t.probeStart h)).j false) s):
 ∀(fuel c:Nat) (st:Option SetTable.Probe),c<=e->e-c<fuel->st.getD (t.probeStart h)=JE t c (t.probeStart h) ->
  (∀m i (hi:i<es.size),m<c->t.slot (JE t m (t.probeStart h)).j=.live i->es[i].1=h->same es[i].2=false) ->
  YB prog w A (setSearchFrom a x h true fuel st) Q E s
 | 0,c,st,hc,hf,_,_=>Zn hf (Uw _)
 |fuel+1,c,st,hc,hf,hst,hno=>by
  have hsz:t.place.size=es.size:=by have:=T.size;rwa [Ut] at this
  show wpAny _ _ (_ >>= _) _ _ _;refine Za (wpAny_setState_of ho hd T.fits ?_);dsimp only;have hg:t.gaveWay=false:=by unfold SetTable.gaveWay;rw[hodd];rfl
  rw[hg];simp only[Uf,if_false];have live:∀m,m<e->∃i,t.slot (JE t m (t.probeStart h)).j=.live i/\i<es.size/\t.place.getD i 0=(JE t m (t.probeStart h)).j:=λm hm=>by
   obtain⟨i,h1,h2,h3⟩:=Pe T.up (hoc m hm);exact⟨i,h1,(),h3⟩
  have step:∀m,JE t m (JE t c (t.probeStart h))=JE t (c+m) (t.probeStart h):=λm=>(Y8 t c m _).symm;have meets:∀g:Nat->Int,(∀i,g i=(es[i]?.map (·.1)).getD 0)->(∃m i,c<=m/\m<e/\t.slot (JE t m (t.probeStart h)).j=.live i/\g i=h/\t.probe g h (st.getD (t.probeStart h))=some (.candidate (JE t m (t.probeStart h)).j i (JE t (m+1) (t.probeStart h)))/\∀m' i',c<=m'->m'<m->t.slot (JE t m' (t.probeStart h)).j=.live i'->g i'≠h) \/
   (t.probe g h (st.getD (t.probeStart h))=some (.empty (JE t e (t.probeStart h)).j none)/\∀m' i',c<=m'->m'<e->t.slot (JE t m' (t.probeStart h)).j=.live i'->g i'≠h):=λg _=>by
   rw[hst];have sd:(JE t c (t.probeStart h)).dummy=none:=Pb rfl c;have ek:c+(e-c)=e:=()
   rcases G9 (t:=t) (hashAt:=g) (h:=h) (e-c) (10*SetTable.turns t.mask) (JE t c (t.probeStart h)) () sd (λm hm=>by
    rw[step];obtain⟨i,h1,_⟩:=live (c+m) ();exact⟨i,h1⟩) (by rw[step,ek];exact Pd T.nod hfr) with ⟨m,i,g1,g2,g3,g4,g5⟩|⟨g1,g2⟩
   .rw[step] at g2 g4;rw[step] at g4;refine .inl ⟨c+m,i,(),(),g2,g3,g4,λm' i' a1 a2 a3=>g5 (m'-c) i' () (by rw[step,show c+(m'-c)=m' by omega];exact a3)⟩
   .rw[step,ek] at g1;exact .inr ⟨g1,λm' i' a1 a2 a3=>g2 (m'-c) i' () (by rw[step,show c+(m'-c)=m' by omega];exact a3)⟩
  generalize hmet:t.probe _ h (st.getD (t.probeStart h))=met;have here:∀i (hi:i<es.size),es[i].1=h->∃m,m<e/\t.slot (JE t m (t.probeStart h)).j=.live i:=λi hi hh=>by
   obtain⟨n,n1,n2⟩:=T.ways i ();rw[GM hi,hh] at n1 n2;refine⟨n,?_,by rw[n1];exact GB T.up () rfl⟩;rcases UN n e with q|q|q
   .exact q
   .subst q;exact Zn ⟨i,(),n1.symm⟩ hfr
   .exact Zn (n2 e q) hfr
  rcases meets _ (λi=>rfl) with ⟨m,i,c1,c2,c3,c4,c5,c6⟩|⟨c1,c2⟩
  .have em:=hmet.symm.trans c5;subst em;obtain⟨i2,k1,k2,k3⟩:=live m c2;rw[c3] at k1;cases k1;have hh:es[i].1=h:=by rw[<- C3 k2];exact c4
   dsimp only;have rest:YB prog w A (do
    let some (_,y):=es[i]? | unsupported "internal:set-entry"
    let equal <- holding [y] (eqBool y x)
    let (es',_,t') <- setState a
    if true&&equal then return SetFound.there none
    let some same:=t'.sameMemory t.moves t.mask|unsupported "set.changed-during-lookup:is-the-new-block-at-the-old-address"
    let still <- match (if same then t'.slot (JE t m (t.probeStart h)).j else .empty) with
     | .live i'=>match es'[i']? with
      |some (_,y')=>do pure (if <- isSame y' y then some i' else none)
      |none=>pure none
     |_=>pure none
    match still with
    |none=>rule "set.search.anew";setSearchFrom a x h true fuel none
    |some i'=>if equal then return .there (some i') else setSearchFrom a x h true fuel (some (JE t (m+1) (t.probeStart h)))) Q E s:=by
    rw[Us k2];dsimp only;refine Za (wpAny_holding (hq i k2 hh _ ?_));refine Za (wpAny_setState_of ho hd T.fits ?_);dsimp only;cases hs:same es[i].2 with
    |true =>
     simp only[Bool.and_self,if_true];exact Zb (hit i k2 hh hs)
    |false =>
     simp only[Vw,Uf,if_false];have hsm:t.sameMemory t.moves t.mask=some true:=by unfold SetTable.sameMemory;rw[Zd (beq_self_eq_true _)]
     rw[hsm];dsimp only;simp only[if_true];rw[c3];dsimp only;rw[Us k2];dsimp only;obtain⟨b,hb⟩:=hr i k2;have his:∀{Q':Bool->Yu},Q' true s->YB prog w A (isSame es[i].2 es[i].2) Q' E s:=λ{Q'} hq'=>by
      rw[hb];unfold isSame;dsimp only;rw[Zd (beq_self_eq_true _)];exact Zb hq'
     refine Za (his ?_);simp only[if_true];refine Za (Zb ?_);dsimp only;refine GO ho hd T hodd hq hr hsn he hoc hfr hit miss fuel (m+1) _ () () rfl λm' i' hi' hm' hl hh'=>?_;by_cases d1:m'<c
     .exact hno m' i' hi' d1 hl hh'
     .by_cases d2:m'=m
      .subst d2;rw[c3] at hl;cases hl;exact hs
      .exact Zn (by rw[C3 hi'];exact hh') (c6 m' i' () () hl)
   cases hld:t.led with
   |true =>
    rw[Ze (by simp)];exact rest
   |false =>
    rw[Zd (by simp)];rcases hsn with z|hsn
    .rw[z] at hld;cases hld
    .refine Za (hsn _ ?_);rw[Ze (by simp)];exact rest
  .have em:=hmet.symm.trans c1;subst em;dsimp only;refine Zb (miss λi hi hh=>?_);obtain⟨m,m1,m2⟩:=here i hi hh;by_cases d1:m<c
   .exact hno m i hi d1 m2 hh
   .exact Zn (by rw[C3 hi];exact hh) (c2 m i () m1 m2)
def P0 {a:Addr}{o:Obj}{es:Array (Int×Value)}{ep:Nat}{t:Yv}{x:Value}{h:Int}{same:Value->Bool}{Q:SetFound->Yu}
 (ho:s.heap.get? a=some o) (hd:o.data=.set es ep t) (T:TabOk t (es.map (·.1))) (hodd:t.mask % 2=1) (hm:t.mask<=9000)
 (hq:∀i (hi:i<es.size),es[i].1=h->∀Q:Bool->Yu,Q (same es[i].2) s->YB prog w A (eqBool es[i].2 x) Q E s)
 (hr:∀i (hi:i<es.size),∃b,es[i].2=.ref b)
 (hsn:t.led=true\/∀Q:Bool->Yu,Q false s->YB prog w A (searchCouldBeSeen x ((es.filter (·.1 == h)).toList.map (·.2))) Q E s)
 (hit:∀i (hi:i<es.size),es[i].1=h->same es[i].2=true->Q (.there none) s)
 (miss:(∀i (hi:i<es.size),es[i].1=h->same es[i].2=false)->∀y,y<=t.mask->¬occ t y->Way t (occ t) h y->Q (.free y false) s):
 YB prog w A (setSearch a x h true) Q E s:=by
 obtain⟨e,he,hoc,hfr⟩:=Ph T h;have hj:(JE t e (t.probeStart h)).j<=t.mask:=Pz (Py t h) e;unfold setSearch;exact GO ho hd T hodd hq hr hsn he hoc hfr hit (λz=>miss z _ hj hfr ⟨e,rfl,hoc⟩) 100000 0 none (Ue _) (by unfold SetTable.turns at he;omega) rfl λm i hi hm'=>Zn hm' (Uw _)
open PySem
theorem GP:∀(fuel size n:Nat),size<=SetTable.sizeAbove.go n fuel size
 | 0,size,n=>by unfold SetTable.sizeAbove.go;exact Zf _
 |fuel+1,size,n=>by
  unfold SetTable.sizeAbove.go
  split
  .exact Zh () (GP fuel (size*2) n)
  .exact Zf _
def P1 (n:Nat):8<=SetTable.sizeAbove n:=GP 64 8 n
def P3 {m k:Nat}(h:m+1=2 ^ k)(h7:7<=m):m % 2=1:=by
 cases k with
 |zero=>rw[Nat.pow_zero] at h;omega
 |succ k=>rw[Vi] at h;omega
def P4 {order:Yf}{n:Nat}(h1:∀k,k<order.size->order.getD k 0<n)(h2:∀k k',k<order.size->k'<order.size->order.getD k 0=order.getD k' 0->k=k')(h3:∀i,i<n->∃k,k<order.size/\order.getD k 0=i):order.toList.Perm (List.range n):=by
 have nd:order.toList.Nodup:=by
  unfold List.Nodup;rw[List.pairwise_iff_getElem];intro i j hi hj hij e;have hi':i<order.size:=by simpa using hi
  have hj':j<order.size:=by simpa using hj
  have:=h2 i j hi' hj' (by rw[QB hi',QB hj'];simpa using e);omega
 refine List.perm_iff_count.mpr λa=>?_;rw[nd.count,List.nodup_range.count];have:a∈order.toList↔a∈List.range n:=by
  rw[List.mem_range];constructor
  .intro h;obtain⟨k,hk,e⟩:=UA h;have hk':k<order.size:=by simpa using hk
   have:=h1 k hk';rw[QB hk'] at this;have e:order[k]=a:=by simpa using e
   omega
  .intro h;obtain⟨k,hk,e⟩:=h3 a h;rw[QB hk] at e;rw[<- e,VT];exact VU hk
 simp only[this]
def P5 {α: Type}{es:Array α}{order:Yf}(d:α)(h1:∀k,k<order.size->order.getD k 0<es.size):(order.filterMap (es[·]?))=order.map λi=>es.getD i d:=by
 apply Array.toList_inj.mp;rw[Array.toList_filterMap,Array.toList_map];have:∀l:Yg,(∀i∈l,i<es.size)->l.filterMap (es[·]?)=l.map λi=>es.getD i d:=by
  intro l
  induction l with
  |nil=>intro _;rfl
  |cons i l ih =>
   intro h;rw[UO,Zl,Us (h i Zqs)];dsimp only;rw[ih λj hj=>h j (Zqm _ hj),QB (h i Zqs)]
 refine this _ λi hi=>?_;obtain⟨k,hk,e⟩:=UA hi;have hk':k<order.size:=by simpa using hk
 have:=h1 k hk';rw[QB hk'] at this;have e:order[k]=i:=by simpa using e
 omega
structure SetIs (hp:Heap)(a:Addr)(es:Array (Int×Value))(t:Yv):Prop where
 at_:∃ep,hp.get? a=some { cls:=.type "set",dict:=none,data:=.set es ep t,slots:=#[] }
 tab:TabOk t (es.map (·.1))
 seven:7<=t.mask
 most:t.mask<=8*es.size+7
 room:es.size*5<t.mask*3
 refs:∀i (hi:i<es.size),∃b,es[i].2=.ref b
def SetIs.odd {hp:Heap}{a:Addr}{es:Array (Int×Value)}{t:Yv}(S:SetIs hp a es t):t.mask % 2=1:=by
 obtain⟨k,hk⟩:=S.tab.pow;exact P3 hk S.seven
variable {prog:Program}{w:World}{A:Around}{E:Ya}{s:Shared}
def GQ {hp:Heap}{a:Addr}{es es':Array (Int×Value)}{ep:Nat}{t t':Yv}(ho:hp.get? a=some { cls:=.type "set",dict:=none,data:=.set es ep t,slots:=#[] }):
 (hp.update a (Obj.putSet es' t')).get? a=some { cls:=.type "set",dict:=none,data:=.set es' (ep+1) t',slots:=#[] }:=by
 have e:=putSet_of (o:={ cls:=.type "set",dict:=none,data:=.set es ep t,slots:=#[] }) es' t' rfl;have:=Heap.get?_update_self (Obj.putSet es' t') ho (by rw[e];rfl);rw[e] at this;exact this
def P6 {α β: Type}(f:α -> β)(xs:Array α)(p:Nat)(x:α):(SetTable.insertAt xs p x).map f=SetTable.insertAt (xs.map f) p (f x):=by
 unfold SetTable.insertAt;simp
def P7 {a:Addr}{es:Array (Int×Value)}{ep:Nat}{t:Yv}{Q:Unit->Yu}
 (ho:s.heap.get? a=some { cls:=.type "set",dict:=none,data:=.set es ep t,slots:=#[] }) (T:TabOk t (es.map (·.1))) (hn:1<=es.size) (hl:es.size<=1000) (hr:∀i (hi:i<es.size),∃b,es[i].2=.ref b)
 (h:∀es' t',es'.toList.Perm es.toList->t'.led=t.led->t'.plain=t.plain->SetIs (s.heap.update a (Obj.putSet es' t')) a es' t'->Q Yp { s with heap:=s.heap.update a (Obj.putSet es' t') }):
 YB prog w A (setRelay a (SetTable.grown es.size)) Q E s:=by
 have hg:SetTable.grown es.size=es.size*4:=by unfold SetTable.grown;rw[Ze ()]
 have hle:=Pu (es.size*4);obtain⟨_,hgt⟩:=GK (n:=es.size*4) ();have hge:=P1 (es.size*4);obtain⟨t',order,e,e1,e2,e3,e4,e5,e6,e7,e8⟩:=Pv (t:=t) (hs:=es.map (·.1)) (wanted:=es.size*4) (by rw[Ut];omega) ();rw[Ut] at e4 e5 e7;rw[hg];unfold setRelay;refine Za (wpAny_setState_of ho rfl T.fits ?_);dsimp only;rw[Ze (by rw[sizeLine_eq];omega)];rw[e];have pk:=P5 (es:=es) (0,Value.none) e5;have psz:(order.filterMap (es[·]?)).size=es.size:=by rw[pk,Ut];exact e4
 have pm:(order.filterMap (es[·]?)).toList.Perm es.toList:=by
  rw[Array.toList_filterMap];exact((P4 e5 e6 e7).filterMap _).trans (by rw[filterMap_getElem?_range])
 have ph:(order.filterMap (es[·]?)).map (·.1)=order.map λi=>(es.map (·.1)).getD i 0:=by
  rw[pk,Array.map_map];apply Array.map_congr_left;intro i hi;obtain⟨k,hk,ek⟩:=Array.getElem_of_mem hi;have:=e5 k hk;rw[QB hk,ek] at this;show(es.getD i (0,Value.none)).1=_;rw[QB this,GM this]
 have T':TabOk t' ((order.filterMap (es[·]?)).map (·.1)):=by rw[ph];exact e8
 have rf:∀i (hi:i<(order.filterMap (es[·]?)).size),∃b,(order.filterMap (es[·]?))[i].2=.ref b:=λi hi=>by
  have hm:(order.filterMap (es[·]?))[i]∈es.toList:=pm.mem_iff.mp (by rw[VT];exact VU hi);obtain⟨j,hj,ej⟩:=UA hm;have hj':j<es.size:=by simpa using hj
  obtain⟨b,hb⟩:=hr j hj';refine⟨b,?_⟩;rw[<- ej];simpa using hb
 have hne:¬((order.filterMap (es[·]?)).size != es.size)=true:=by rw[psz];simp
 refine Za (wpAny_of_eq (a:=(order.filterMap (es[·]?),t')) ?_ ?_)
 .show(if((order.filterMap (es[·]?)).size != es.size)=true then _ else _)=_;rw[Ze hne]
 .dsimp only;generalize order.filterMap (es[·]?)=es' at psz pm T' rf ph;refine wpAny_storeSet_of ho rfl ?_ (by rw[sizeLine_eq];omega);refine h es' t' pm e1 e2 ⟨⟨ep+1,?_⟩,T',(),(),(),rf⟩;exact GQ ho
def P8 {es es':Array (Int×Value)}(hr:∀i (hi:i<es.size),∃b,es[i].2=.ref b){x:Value}{h:Int}{b:Addr}(hx:x=.ref b)(pm:es'.toList.Perm (es.toList++[(h,x)])):∀i (hi:i<es'.size),∃b,es'[i].2=.ref b:=λi hi=>by
 have hm:es'[i]∈es.toList++[(h,x)]:=pm.mem_iff.mp (by rw[VT];exact VU hi);rcases Jc.mp hm with z|z
 .obtain⟨j,hj,ej⟩:=UA z;have hj':j<es.size:=by simpa using hj
  obtain⟨b,hb⟩:=hr j hj';refine⟨b,?_⟩;rw[<- ej];simpa using hb
 .rw[Vu.mp z];exact⟨b,hx⟩
def P9 {a:Addr}{es:Array (Int×Value)}{t:Yv}{x:Value}{b:Addr}{h:Int}{same:Value->Bool}{Q:Bool->Yu}
 (S:SetIs s.heap a es t) (hx:x=.ref b) (hl:es.size+1<=1000)
 (hq:∀i (hi:i<es.size),es[i].1=h->∀Q:Bool->Yu,Q (same es[i].2) s->YB prog w A (eqBool es[i].2 x) Q E s)
 (hsn:t.led=true\/∀Q:Bool->Yu,Q false s->YB prog w A (searchCouldBeSeen x ((es.filter (·.1 == h)).toList.map (·.2))) Q E s)
 (hbv:∀Q:Bool->Yu,Q true s->YB prog w A (hashByValue 8 x) Q E s)
 (hit:∀i (hi:i<es.size),es[i].1=h->same es[i].2=true->Q false s)
 (miss:(∀i (hi:i<es.size),es[i].1=h->same es[i].2=false)->∀h' es' t',Heap.SameBut a s.heap h'->SetIs h' a es' t'->es'.toList.Perm (es.toList++[(h,x)])->t'.led=t.led->t'.plain=t.plain->Q true { s with heap:=h' }):
 YB prog w A (setAddHashed a x h) Q E s:=by
 obtain⟨ep,ho⟩:=S.at_;have hm9:t.mask<=9000:=by have:=S.most;omega
 unfold setAddHashed setAddHashedIn;refine wpAny_holding (Za (wpAny_setState_of ho rfl S.tab.fits ?_));dsimp only;have hb:byScan x es=false:=by subst hx;rfl
 rw[hb];simp only[Uf,if_false];refine Za (P0 ho rfl S.tab S.odd hm9 hq S.refs hsn (λi hi h1 h2=>Zb (hit i hi h1 h2)) λhno y hy hf hw=>?_);dsimp only;refine Za (wpAny_setState_of ho rfl S.tab.fits ?_);dsimp only;have hsz:t.place.size=es.size:=by have:=S.tab.size;rwa [Ut] at this
 have hroom:=S.room;have hseven:=S.seven;obtain⟨T1,hp1,hm1⟩:=Pi S.tab hy hf hw ();rw[Ut] at hp1;have ld1:(t.put y).1.led=t.led:=rfl;have pl1:(t.put y).1.plain=t.plain:=rfl;generalize hput:t.put y=tp at T1 hp1 hm1 ld1 pl1;obtain⟨t1,p⟩:=tp;dsimp only at T1 hp1 hm1 ld1 pl1 ⊢;have em:(SetTable.insertAt es p (h,x)).map (·.1)=SetTable.insertAt (es.map (·.1)) p h:=P6 _ _ _ _;rw[<- em] at T1;have pm:(SetTable.insertAt es p (h,x)).toList.Perm (es.toList++[(h,x)]):=by
  have:=SetTable.insertAt_perm es p (h,x)
  rwa [Array.toList_push] at this
 have sz1:(SetTable.insertAt es p (h,x)).size=es.size+1:=Cz es hp1 _;have rf1:=P8 S.refs hx pm;generalize SetTable.insertAt es p (h,x)=es1 at T1 pm sz1 rf1;have tail:YB prog w A (do
  storeSet a es1 t1
  if !false&&t1.tooFull then setRelay a (SetTable.grown (es.size+1))
  return true) Q E s:=by
  refine Za (wpAny_storeSet_of ho rfl ?_ (by rw[sizeLine_eq];omega));have ho1:=GQ (es':=es1) (t':=t1) ho;have sb1:=Heap.SameBut.update s.heap a (Obj.putSet es1 t1);by_cases c:t1.tooFull=true
  .rw[Zd (by rw[c];rfl)];rw[<- sz1];refine Za (P7 ho1 T1 () () rf1 λes2 t2 pm2 l2 p2 S2=>?_);refine Zb (miss hno _ es2 t2 (sb1.trans (Heap.SameBut.update _ a _)) S2 (pm2.trans pm) (l2.trans ld1) (p2.trans pl1))
  .rw[Ze (by simpa using c)];have hfull:¬(t1.fill*5 ≥ t1.mask*3):=by
    intro z;exact c (by unfold SetTable.tooFull;exact Zp z)
   have hfl:t1.fill=es1.size:=by
    unfold SetTable.fill;have:=T1.size;rw[Ut] at this;rw[this,T1.nod];rfl
   have S1:SetIs (s.heap.update a (Obj.putSet es1 t1)) a es1 t1:=⟨⟨ep+1,ho1⟩,T1,(),by have:=S.most;omega,(),rf1⟩;exact Zb (miss hno _ es1 t1 sb1 S1 pm ld1 pl1)
 split
 .refine Za (hbv _ ?_);simp only[if_true];exact tail
 .refine Za (Zb ?_);simp only[if_true];exact tail
open PySem
variable {prog:Program}{w:World}{A:Around}{E:Ya}{s:Shared}
inductive HashAll (prog:Program)(w:World)(A:Around)(E:Ya)(s:Shared):Yd->List Int->Prop
 |nil:HashAll prog w A E s [] []
 |cons {v:Value} {vs:Yd} {h:Int} {hs:Ye}:(∀(tk:Nat) (Q:Int->Yu),(∀tk',tk<=tk'->Q h { s with toks:=tk' })->YB prog w A (pyHash v) Q E { s with toks:=tk })->HashAll prog w A E s vs hs->HashAll prog w A E s (v::vs) (h::hs)
def C4 (hs:Ye):Int:=reduceHash (Builtin.Tuple.tupleHashOf hs)
def GR (ho:s.heap.get? a=some o)(hc:o.cls=.type "tuple")(hd:o.data=.seq items n)(hu:A.units<cLine)
 (H:HashAll prog w A.in1 E s items.toList hs) (h:∀tk,tk0<=tk->Q (C4 hs) { s with toks:=tk }):YB prog w A (pyHash (.ref a)) Q E { s with toks:=tk0 }:=by
 have hT:Shared.TypeIs { s with toks:=tk0 } (.ref a) "tuple" := ⟨o,ho,hc⟩;unfold pyHash;refine W.pyHash_slot (T:= "tuple") hT F.slot_tuple_hash F.entry_tuple_hash (F.args_tuple_hash_1 _) (beq_builtin_none _) (.inr hu) ?_;show wpAny _ _ (Builtin.Tuple.tupleItemsOf (.ref a) >>= _) _ _ _;refine Za (wpAny_tupleItemsOf ho hd ?_);refine Za ?_;rw[<- Vt];refine wpAny_forIn_list _ (λrest (b:Array Int) s'=>∃left tk,HashAll prog w A.in1 E s rest left/\b.toList++left=hs/\s'={ s with toks:=tk }/\tk0<=tk) _ ?_ ?_ _ _ ⟨hs,tk0,H,rfl,rfl,Zf _⟩
 .rintro x rest b s' ⟨left,tk,hl,hb,rfl,hle⟩;cases hl with
  |cons h1 hl' =>
   refine Za (h1 tk _ λtk' hle'=>?_);exact Zb ⟨_,tk',hl',by simp[<- hb],rfl,Zh hle hle'⟩
 .rintro b s' ⟨left,tk,hl,hb,rfl,hle⟩;cases hl;rw[ZA] at hb;show wpAny _ _ (retInt (Builtin.Tuple.tupleHashOf b.toList)) _ _ _;rw[hb];exact Za (wpAny_mkInt (Zb ⟨_,_,rfl,h _ (Nat.le_succ_of_le hle)⟩))
theorem GS:∀{vs:Yd} {ns:Ye},PyProof.Rows.IntsAre vs ns->HashAll prog w A E s vs (ns.map hashInt)
 |_,_,.nil=>.nil
 |_,_,.cons n t r=>.cons (λtk Q h=>wpAny_pyHash_int (h _ (Vd tk))) (GS r)
inductive PlainV (hp:Heap):Nat->Value->Prop
 |int (n:Nat) (i:Int) (t:Tok):PlainV hp n (.int i t)
 |tup {n:Nat} {a:Addr} {o:Obj} {items:Yk} {k:Nat}:hp.get? a=some o->o.cls=.type "tuple" -> o.data=.seq items k->(∀v∈items.toList,PlainV hp n v)->PlainV hp (n+1) (.ref a)
def PB (p:PlainV s.heap n v):∀(d:Nat) (Q:Bool->Yu),n<=d->Q true s->YB prog w A (hashByValue d v) Q E s:=by
 induction p with
 |int n i t =>
  intro d Q _ h;cases d<;>exact Zb h
 |tup ho hc hd _ ih =>
  intro d Q hn h;cases d with
  |zero=>omega
  |succ d =>
   have hT:Shared.TypeIs s (.ref _) "tuple" := ⟨_,ho,hc⟩;unfold hashByValue;refine Za (wpAny_specialOf hT F.slot_tuple_hash.lookup ?_);dsimp only;refine Za (wpAny_seqItems ho hd ?_);refine Za ?_;show wpAny _ _ (forIn _ _ _) _ _ _;rw[Option.getD_some,<- Vt];refine wpAny_forIn_list _ (λrest r s'=>r.1=none/\s'=s/\∀v∈rest,v∈_) _ ?_ ?_ _ _ ⟨rfl,rfl,λv hv=>hv⟩
   .rintro x rest r s' ⟨hr,rfl,hm⟩;refine Za (ih x (hm x Zqs) d _ () ?_);simp only[UR,Uf,if_false];exact Zb ⟨rfl,rfl,λv hv=>hm v (Zqm _ hv)⟩
   .rintro⟨r1,r2⟩ s' ⟨hr,rfl,_⟩;simp only at hr;subst hr;exact Zb h
def GT (p:PlainV s.heap n v):∀(d:Nat) (Q:Bool->Yu),n<=d->Q true s->YB prog w A (eqIsQuiet d v) Q E s:=by
 induction p with
 |int n i t =>
  intro d Q _ h;exact wpAny_of_eq (eqIsQuiet_byValue d rfl) h
 |tup ho hc hd _ ih =>
  intro d Q hn h;cases d with
  |zero=>omega
  |succ d =>
   have hT:Shared.TypeIs s (.ref _) "tuple" := ⟨_,ho,hc⟩;unfold eqIsQuiet;refine Za (wpAny_specialOf hT F.slot_tuple_eq.lookup ?_);dsimp only;refine Za (wpAny_isInstance hT isSubtype_tuple_tuple ?_);simp only[UR,Uf,if_false];refine Za (wpAny_seqItems ho hd ?_);refine Za ?_;show wpAny _ _ (forIn _ _ _) _ _ _;rw[Option.getD_some,<- Vt];refine wpAny_forIn_list _ (λrest r s'=>r.1=none/\s'=s/\∀v∈rest,v∈_) _ ?_ ?_ _ _ ⟨rfl,rfl,λv hv=>hv⟩
   .rintro x rest r s' ⟨hr,rfl,hm⟩;refine Za (ih x (hm x Zqs) d _ () ?_);simp only[UR,Uf,if_false];exact Zb ⟨rfl,rfl,λv hv=>hm v (Zqm _ hv)⟩
   .rintro⟨r1,r2⟩ s' ⟨hr,rfl,_⟩;simp only at hr;subst hr;exact Zb h
def GU (p:PlainV s.heap n v):∀(d:Nat) (Q:Bool->Yu),n<=d->Q false s->YB prog w A (ofAClassStatement d v) Q E s:=by
 induction p with
 |int n i t =>
  intro d Q _ h;cases d<;>exact Zb h
 |tup ho hc hd _ ih =>
  intro d Q hn h;cases d with
  |zero=>omega
  |succ d =>
   have hT:Shared.TypeIs s (.ref _) "tuple" := ⟨_,ho,hc⟩;unfold ofAClassStatement;refine Za (wpAny_typeOf hT ?_);dsimp only;rw[Zd (by decide)];refine Za (Zb ?_);simp only[UR,Uf,if_false];refine Za (wpAny_seqItems ho hd ?_);dsimp only;refine Za ?_;show wpAny _ _ (forIn _ _ _) _ _ _;rw[<- Vt];refine wpAny_forIn_list _ (λrest r s'=>r.1=none/\s'=s/\∀v∈rest,v∈_) _ ?_ ?_ _ _ ⟨rfl,rfl,λv hv=>hv⟩
   .rintro x rest r s' ⟨hr,rfl,hm⟩;refine Za (ih x (hm x Zqs) d _ () ?_);simp only[Uf,if_false];exact Zb ⟨rfl,rfl,λv hv=>hm v (Zqm _ hv)⟩
   .rintro⟨r1,r2⟩ s' ⟨hr,rfl,_⟩;simp only at hr;subst hr;exact Zb h
def PF (hn:n<=8)(px:PlainV s.heap n x)(py:∀y∈ys,PlainV s.heap n y)(h:Q false s):YB prog w A (searchCouldBeSeen x ys) Q E s:=by
 unfold searchCouldBeSeen;refine Za ?_;refine wpAny_forIn_list _ (λrest r s'=>r.1=none/\s'=s/\∀v∈rest,v∈ys) _ ?_ ?_ _ _ ⟨rfl,rfl,λv hv=>hv⟩
 .rintro y rest r s' ⟨hr,rfl,hm⟩;have hy:=py y (hm y Zqs);have nx:∀v∈rest,v∈ys:=λv hv=>hm v (Zqm _ hv);dsimp only
  split
  all_goals
   split
   .exact Zb ⟨rfl,rfl,nx⟩
   .refine Za (GT px 8 _ hn ?_);simp only[UR,Uf,if_false];refine Za (GT hy 8 _ hn ?_);simp only[UR,Uf,if_false];refine Za (GU px 8 _ hn ?_);simp only[Uf,if_false];refine Za (GU hy 8 _ hn ?_);simp only[Uf,if_false];exact Zb ⟨rfl,rfl,nx⟩
 .rintro⟨r1,r2⟩ s' ⟨hr,rfl,_⟩;simp only at hr;subst hr;exact Zb h
structure KeyFam (prog:Program)(w:World)(hp:Heap)(PV:Value->Prop)(hsh:Value->Int)(same:Value->Value->Bool):Prop where
 ref:∀v,PV v->∃b,v=.ref b
 plain:∀v,PV v->PlainV hp 8 v
 hash:∀v,PV v->∀(A:Around) (E:Ya) (s:Shared) (Q:Int->Yu),(∀b o,hp.get? b=some o->s.heap.get? b=some o)->A.units+8<cLine->(∀tk,s.toks<=tk->Q (hsh v) { s with toks:=tk })->YB prog w A (pyHash v) Q E s
 eq:∀v u,PV v->PV u->∀(A:Around) (E:Ya) (s:Shared) (Q:Bool->Yu),(∀b o,hp.get? b=some o->s.heap.get? b=some o)->A.units+8<cLine->Q (same v u) s->YB prog w A (eqBool v u) Q E s
 coh:∀v u,PV v->PV u->same v u=true->hsh v=hsh u
def PlainV.keep (k:∀b o,hp.get? b=some o->hp'.get? b=some o)(p:PlainV hp n v):PlainV hp' n v:=by
 induction p with
 |int n i t=>exact .int n i t
 |tup ho hc hd _ ih=>exact .tup (k _ _ ho) hc hd ih
def Wy (same:Value->Value->Bool)(D:Yd)(v:Value):Yd:=if D.any (same · v) then D else D++[v]
def dedV (same:Value->Value->Bool)(val:Nat->Value)(i:Nat):Yd:=((List.range i).map val).foldl (Wy same) []
def A0 (same:Value->Value->Bool)(val:Nat->Value)(i:Nat):dedV same val (i+1)=Wy same (dedV same val i) (val i):=by
 unfold dedV;rw[List.range_succ,Ug,US];rfl
theorem GV (same:Value->Value->Bool)(val:Nat->Value):∀i,(dedV same val i).length<=i
 | 0=>Zf _
 |i+1=>by
  have:=GV same val i;rw[A0];unfold Wy
  split
  .omega
  .rw[Ub,Uq];omega
theorem C5 (same:Value->Value->Bool)(val:Nat->Value):∀i v,v∈dedV same val i->∃j,j<i/\v=val j
 | 0,v,h=>by cases h
 |i+1,v,h=>by
  rw[A0] at h;unfold Wy at h
  split at h
  .obtain⟨j,hj,e⟩:=C5 same val i v h;exact⟨j,(),e⟩
  .rcases Jc.mp h with z|z
   .obtain⟨j,hj,e⟩:=C5 same val i v z;exact⟨j,(),e⟩
   .exact⟨i,(),Vu.mp z⟩
def Holds (hsh:Value->Int)(hp:Heap)(S:Addr)(ld:Bool)(D:Yd):Prop:=∃es t,SetIs hp S es t/\es.toList.Perm (D.map λv=>(hsh v,v))/\t.led=ld/\t.plain=true
section
variable {prog:Program}{w:World}{A:Around}{E:Ya}{s:Shared}
def PH {hp:Heap}{PV:Value->Prop}{hsh:Value->Int}{same:Value->Value->Bool}(K:KeyFam prog w hp PV hsh same){S:Addr}{ld:Bool}{D:Yd}{x:Value}{Q:Bool->Yu}
 (hk:∀b o,hp.get? b=some o->s.heap.get? b=some o) (hu:A.units+8<cLine) (H:Holds hsh s.heap S ld D) (hD:∀v∈D,PV v) (hx:PV x) (hl:D.length<=999)
 (h:∀h' b,Heap.SameBut S s.heap h'->Holds hsh h' S ld (Wy same D x)->Q b { s with heap:=h' }):YB prog w A (setAddHashed S x (hsh x)) Q E s:=by
 obtain⟨es,t,SI,pm,hld,hpl⟩:=H;obtain⟨b,hb⟩:=K.ref x hx;have hlen:es.size=D.length:=by
  have:=pm.length_eq;rw[Zql,Ui] at this;exact this
 have ent:∀i (hi:i<es.size),es[i].2∈D/\es[i].1=hsh es[i].2:=λi hi=>by
  have hm:es[i]∈D.map λv=>(hsh v,v):=pm.mem_iff.mp (by rw[VT];exact VU hi);obtain⟨v,hv,e⟩:=Ja.mp hm;rw[<- e];exact⟨hv,rfl⟩
 have back:∀v∈D,∃i,∃hi:i<es.size,es[i]=(hsh v,v):=λv hv=>by
  have hm:(hsh v,v)∈es.toList:=pm.mem_iff.mpr (Ja.mpr ⟨v,hv,rfl⟩);obtain⟨i,hi,e⟩:=UA hm;exact⟨i,by simpa using hi,by simpa using e⟩
 have px:=(K.plain x hx).keep hk;refine P9 (same:=λy=>same y x) SI hb () (λi hi _ Q' hq=>K.eq _ _ (hD _ (ent i hi).1) hx A E s Q' hk hu hq) (.inr λQ' hq=>?_) (λQ' hq=>PB px 8 Q' (Zf _) hq) (λi hi h1 h2=>?_) λhno h' es' t' sb S' pm' l' p'=>?_
 .refine PF (Zf 8) px (λy hy=>?_) hq;obtain⟨e,he,rfl⟩:=Ja.mp hy;have he:e∈es:=by
   have:=VT.mp he;exact(Array.mem_filter.mp this).1
  obtain⟨i,hi,rfl⟩:=Array.getElem_of_mem he;exact(K.plain _ (hD _ (ent i hi).1)).keep hk
 .have e:Wy same D x=D:=Zd (VP.mpr ⟨_,(ent i hi).1,h2⟩);have:=h s.heap false (Heap.SameBut.refl S s.heap) ⟨es,t,SI,by rw[e];exact pm,hld,hpl⟩;exact this
 .have e:Wy same D x=D++[x]:=Ze λz=>by
   obtain⟨v,hv,hs⟩:=VP.mp z;obtain⟨i,hi,ei⟩:=back v hv;have:=hno i hi (by rw[ei];exact K.coh v x (hD v hv) hx hs);rw[ei] at this;rw[hs] at this;cases this
  refine h h' true sb ⟨es',t',S',?_,l'.trans hld,p'.trans hpl⟩;rw[e,Ug];exact pm'.trans (pm.append_right _)
end
section
variable {prog:Program}{w:World}{A:Around}{R:Result->Yu}{I:Addr}{fp wr:Yi}{G:Array GenState->Array GenState->Prop}{n:Nat}{P:Nat->Value->Prop}{St:Nat->Yu}
def Holds.keep {hsh:Value->Int}{hp hp':Heap}{S:Addr}{ld:Bool}{D:Yd}(H:Holds hsh hp S ld D)(k:∀o,hp.get? S=some o->hp'.get? S=some o):Holds hsh hp' S ld D:=by
 obtain⟨es,t,SI,r⟩:=H;obtain⟨ep,ho⟩:=SI.at_;exact⟨es,t,⟨⟨ep,k _ ho⟩,SI.tab,SI.seven,SI.most,SI.room,SI.refs⟩,r⟩
def PJ (W:WalksS prog w A.in1 I fp wr G n P St)(S:Addr)(hSf:S∉fp)(hpw:∀b o,hp.get? b=some o->b∉wr/\b≠S)
 {PV:Value->Prop} {hsh:Value->Int} {same:Value->Value->Bool} (K:KeyFam prog w hp PV hsh same) (val:Nat->Value) (hval:∀i v,P i v->v=val i) (hPV:∀i,i<n->PV (val i)) (hn:n<=999) (hu:A.in1.units+8<cLine) (ld:Bool):
 ∀(k i:Nat) (s:Shared),n-i=k->i<=n->St i s->(∀b o,hp.get? b=some o->s.heap.get? b=some o)->Holds hsh s.heap S ld (dedV same val i) ->
  (∀s',Moved (S::wr) G s s'->Holds hsh s'.heap S ld (dedV same val n)->R (.ok (.ret .none)) s') ->
  codeAny (model prog w) A (.builtin "set.update.loop" ⟨[.ref S,.ref I],[]⟩) R s:=by
 have hSw:S∉wr:=λh=>hSf (W.sub _ h);have hsub:∀b∈wr,b∈S::wr:=λb hb=>Zqm _ hb;intro k
 induction k with
 |zero =>
  intro i s hk hi hst hkp H hR;have hin:i=n:=()
  subst hin;refine codeAny_builtin F.entry_set_update_loop ?_;rw[Around.under_plainId F.plain_set_update_loop _];show wpAny _ A.in1 (pyNext (.ref I) >>= _) _ _ s;refine Za (W.done s _ _ hst λs' hm=>?_);show wpAny _ A.in1 (ret Value.none) _ _ s';exact Zb (hR s' (hm.mono hsub) (H.keep λo e=>hm.heap S _ hSw e))
 |succ k ih =>
  intro i s hk hi hst hkp H hR;have hlt:i<n:=()
  refine codeAny_builtin F.entry_set_update_loop ?_;rw[Around.under_plainId F.plain_set_update_loop _];show wpAny _ A.in1 (pyNext (.ref I) >>= _) _ _ s;refine Za (W.item i s _ _ hlt hst λv s' hP hst' hm=>?_);have ev:=hval i v hP;have H':=H.keep (hp':=s'.heap) λo e=>hm.heap S _ hSw e;have hkp':∀b o,hp.get? b=some o->s'.heap.get? b=some o:=λb o e=>hm.heap b o (hpw b o e).1 (hkp b o e);have hv:PV v:=by rw[ev];exact hPV i hlt
  show wpAny _ A.in1 (holding [v] (setAdd S v) >>= _) _ _ s';refine Za (wpAny_holding ?_);unfold setAdd;refine wpAny_holding ?_;refine Za (K.hash v hv _ _ _ _ hkp' hu λtk htk=>?_);have hl:=GV same val i;refine PH K (s:={ s' with toks:=tk }) hkp' hu H' (λu hu'=>?_) hv () λh' b hsb H2=>?_
  .obtain⟨j,hj,e⟩:=C5 same val i u hu';rw[e];exact hPV j ()
  .rw[ev,<- A0] at H2;refine Zb ⟨plainId_quiet F.plain_set_update_loop _,ih (i+1) _ (by rw[Nat.sub_succ,hk];rfl) hlt (W.frame _ s' _ _ hst' ?_ λb hb o e=>?_) (λb o e=>?_) H2 λs'' hm'' H''=>?_⟩
   .exact htk
   .rw[hsb.2 b (λh:b=S=>hSf (by rw[<- h];exact hb))];exact e
   .rw[hsb.2 b (hpw b o e).2];exact hkp' b o e
   .refine hR s'' (Moved.trans W.gtrans ((hm.mono hsub).then_heap ?_ λb o hb e=>?_) hm'') H''
    .exact htk
    .rw[hsb.2 b (λh:b=S=>hb (by rw[h];exact Zqs))];exact e
end
def PK (led:Bool):TabOk (SetTable.fresh 0 0 led) ((#[]:Array (Int×Value)).map (·.1)):=by
 refine⟨by rw[Ut];rfl,λi j _ h=>Zn h (Uw _),λi h=>Zn h (Uw _),rfl,⟨3,rfl⟩,Ue _,λi h=>Zn h (Uw _)⟩
def PM (ho:hp.get? S=some { cls:=.type "set",dict:=none,data:=.set #[] 0 (.fresh 0 0 led) }):Holds hsh hp S led []:=
 ⟨#[],.fresh 0 0 led,⟨⟨0,ho⟩,PK led,Zf _,Zf _,(show 0*5<7*3 by decide),λi h=>Zn h (Uw _)⟩,VB _,rfl,rfl⟩
section
variable {prog:Program}{w:World}{A:Around}{E:Ya}{s:Shared}
def ledW (w:World):Bool:=!w.params.followText "set-order"
def GW (a:Value)
 (h:Q₁ (.ref s.heap.objs.size) { s with heap:=s.heap.push { cls:=.type "set",dict:=none,data:=.set #[] 0 (.fresh 0 0 (ledW w)) } }):
 codeAny (model prog w) A (.call (.builtin "set.__new__") ⟨[.type "set",a],[]⟩) (wants Q₁ E) s:=by
 refine codeAny_of_tree ?_;show wpAny _ A.in1 (do checkBuiltinCall "set.__new__" ⟨[.type "set",a],[]⟩;again (.builtin "set.__new__" ⟨[.type "set",a],[]⟩)) _ _ s;refine Za (wpAny_of_eq (F.newCall_set_1 a) (Zb ⟨plainId_quiet F.plain_set_new _,codeAny_builtin F.entry_set_new ?_⟩));rw[Around.under_plainId F.plain_set_new _];unfold Builtin.«set.__new__» Builtin.Frozenset.newClass;have hsub:=sub_set_self;obtain⟨hp,g,d,tk,os⟩:=s;dsimp only
 wp_walk
 refine wpAny_askSetting (Zb ?_);dsimp only;simp only[newObj];refine Za (wpAny_alloc (Zb ?_));exact Zb h
set_option maxRecDepth 100000 in
set_option maxHeartbeats 3200000 in
def PN {l:Addr}{items:Yk}{PV:Value->Prop}{hsh:Value->Int}{same:Value->Value->Bool}{Q:Ya}(hh:A.handled=none)(hl:s.heap.IsList l items)(K:KeyFam prog w s.heap PV hsh same)
 (hPV:∀(i:Nat) (v:Value),items[i]? = some v->PV v) (hn:items.size<=999) (hu:A.in1.in1.in1.units+8<cLine)
 (h:∀(h':Heap) (tk:Nat),Holds hsh h' s.heap.objs.size (ledW w) (dedV same (λi=>items.getD i .none) items.size)->(∀b o,b<s.heap.objs.size->s.heap.get? b=some o->h'.get? b=some o)->Q (.ref s.heap.objs.size) { s with heap:=h',toks:=tk }):
 YB prog w A (call (.type "set") [.ref l]) Q E s:=by
 have cn:=λA:Around=>GW (prog:=prog) (w:=w) (A:=A) (E:=E) (s:=s) (.ref l) (Q₁:=λobj s₁=>obj=.ref s.heap.objs.size/\s₁={ s with heap:=s.heap.push { cls:=.type "set",dict:=none,data:=.set #[] 0 (.fresh 0 0 (ledW w)) } }) ⟨rfl,rfl⟩;generalize ledW w=led at h cn;obtain⟨c,tl,hmro⟩:=F.called_set.mro;have hmade:=F.called_set.made;have hsub:=F.called_set.sub;refine wpAny_call (codeAny_of_tree ?_);show wpAny _ _ (callAny (.type "set") _) _ _ _;refine Zb ⟨Code.quiet_builtin _ (by decide +kernel),codeAny_builtin F.entry_type_call ?_⟩;rw[Around.under_plain (weight_type_call_type "set" [.ref l] []) rfl];have h1:=F.called_set.notType;have h2:=F.called_set.canCreate;have hct:=F.typeCall_set_1 (.ref l)
 repeat (any_goals (first|assumption|wp_step))
 refine codeAny_mono (cn _) λr s₁ hr=>?_;cases r with
 |error e=>exact hr
 |ok fl =>
  cases fl with
  |ret obj =>
   obtain⟨rfl,rfl⟩:=hr;generalize hno:({ cls:=.type "set",dict:=none,data:=.set #[] 0 (.fresh 0 0 led) }:Obj)=no at *;have hS:(s.heap.push no).get? s.heap.objs.size=some no:=Zr _ (by rw[<- hno];rfl);have hT:Shared.TypeIs { s with heap:=s.heap.push no } (.ref s.heap.objs.size) "set" := ⟨_,hS,by rw[<- hno]⟩;have hli:=F.called_set.init.lookup;have hbi:=F.called_set.init.bind (.ref s.heap.objs.size)
   repeat (any_goals (first|assumption|wp_step))
   refine codeAny_mono (codeAny_call_builtin (R:=wants (λr s₂=>r=.none/\∃h' tk,s₂={ s with heap:=h',toks:=tk }/\Holds hsh h' s.heap.objs.size led (dedV same (λi=>items.getD i .none) items.size) /\
    (∀b o,b<s.heap.objs.size->s.heap.get? b=some o->h'.get? b=some o)) E) F.called_set.init.plain F.entry_set_init (check_set_init_1 hT ?_)) λr₂ s₂ hr₂=>?_
   .obtain⟨ol,hol,hcl,nl,hdl⟩:=hl;obtain⟨ocls,odict,odata,oslots⟩:=ol;simp only at hcl hdl;subst hcl;subst hdl;have hol':(s.heap.push no).get? l=some { cls:=.type "list",dict:=odict,data:=.seq items nl,slots:=oslots }:=Zq _ hol;have hsls:=F.sub_list_set;have hslf:=F.sub_list_frozenset;have hne:(Value.type "list" == Value.type "dict")=false:=by decide
    have hl1:(s.heap.push no).IsList l items:=⟨_,hol',rfl,nl,rfl⟩;subst hno;unfold Builtin.«set.__init__» noKeywords Builtin.Frozenset.updateFrom;generalize hPI:pyIter=PI
    wp_walk
    subst hPI;refine wpAny_pyIter_list hl1 ?_;refine Za (wpAny_runValue ?_);have hlS:l<s.heap.objs.size:=Zk hol;have hh3:A.in1.in1.in1.handled=none:=by simp[hh]
    generalize hno:({ cls:=.type "set",dict:=none,data:=.set #[] 0 (.fresh 0 0 led) }:Obj)=no at *;have szp:(s.heap.push no).objs.size=s.heap.objs.size+1:=Heap.size_push ..;have hneI:l≠(s.heap.push no).objs.size:=by rw[szp];exact Zi (UD hlS)
    have hSf:s.heap.objs.size ∉ [(s.heap.push no).objs.size,l]:=by
     simp only[UB,UM,or_false,not_or];exact⟨by rw[szp];exact Zi (Vm _),U1 hlS⟩
    have hw:∀(i:Nat) (v:Value),items[i]? = some v->v=(λi=>items.getD i .none) i:=λi v hv=>by
     show v=items.getD i .none;rw[UY,hv];rfl
    refine PJ ((Walks.list hh3 _ l hneI items).toS) s.heap.objs.size hSf (hp:=s.heap) (λb o e=>?_) K (λi=>items.getD i .none) hw (λi hi=>?_) hn (by exact hu) led (items.size-0) 0 _ () (Ue _)
     ⟨⟨_,Zr _ rfl,rfl,rfl⟩,(hl1.push _)⟩ (λb o e=>Zq _ (Zq _ e)) (PM (by rw[hno];exact Zq _ hS)) λs' hm H'=>?_
    .have hb:=Zk e;refine⟨?_,Zi hb⟩;simp only[UB,UM,or_false];rw[szp];exact Zi (UD hb)
    .exact hPV i _ (by show items[i]? = some (items.getD i .none);rw[QB hi,Us hi])
    .obtain⟨h',g',d',tk',os'⟩:=s';have eg:g'=s.gens:=hm.gens;have ed:d'=s.drawn:=hm.drawn;have eo:os'=s.os:=hm.os;subst eg;subst ed;subst eo;show wpAny _ _ _ _ _ _;refine Zb ?_;show wpAny _ _ (ret Value.none) _ _ _;refine Zb ⟨rfl,h',tk',rfl,H',λb o hb e=>?_⟩;exact hm.heap b o (by simp only[UB,UM,or_false,not_or];exact⟨Zi hb,by rw[szp];exact Zi (UD hb)⟩) (Zq _ (Zq _ e))
   .cases r₂ with
    |error e=>exact hr₂
    |ok fl₂ =>
     cases fl₂ with
     |ret r =>
      obtain⟨rfl,h',tk,rfl,hS',hk'⟩:=hr₂
      repeat (any_goals (first|assumption|wp_step))
      exact h _ _ hS' hk'
     |_=>exact hr₂.elim
  |_=>exact hr.elim
end
def KG (p:Int×Int):PyData:=.tuple [.int p.1,.int p.2]
def rowP (r:Jx):PyData:=.tuple (r.map KG)
def GX (p:Int×Int):Int:=C4 ([p.1,p.2].map hashInt)
def GY (r:Jx):Int:=C4 (r.map GX)
def zdp (hp:Heap)(v:Value)(p:Int×Int):Prop:=∃a o vs n t u,v=.ref a/\hp.get? a=some o/\o.cls=.type "tuple" /\ o.data=.seq vs n/\vs.toList=[.int p.1 t,.int p.2 u]
inductive IsPairs (hp:Heap):Yd->Jx->Prop
 |nil:IsPairs hp [] []
 |cons {v vs p r}:zdp hp v p->IsPairs hp vs r->IsPairs hp (v::vs) (p::r)
def zdh (hp:Heap)(v:Value)(r:Jx):Prop:=∃a o vs n,v=.ref a/\hp.get? a=some o/\o.cls=.type "tuple" /\ o.data=.seq vs n/\IsPairs hp vs.toList r
def PP (h:zdp hp v p):Reads hp v (KG p) []:=by
 obtain⟨a,o,vs,n,t,u,rfl,h1,h2,h3,h4⟩:=h;refine .tuple h1 h2 h3 ?_;rw[h4];exact .cons (as:=[]) (bs:=[]) (.int _ _) (.cons (as:=[]) (bs:=[]) (.int _ _) .nil)
def PQ:∀{vs:Yd} {r:Jx},IsPairs hp vs r->ReadsAll hp vs (r.map KG) []:=λh=>by
 induction h with
 |nil=>exact .nil
 |cons h1 _ ih=>exact .cons (as:=[]) (bs:=[]) (PP h1) ih
def GZ (h:zdh hp v r):Reads hp v (rowP r) []:=by
 obtain⟨a,o,vs,n,rfl,h1,h2,h3,h4⟩:=h;exact .tuple h1 h2 h3 (PQ h4)
def zdp.keep (k:∀b o,hp.get? b=some o->hp'.get? b=some o)(h:zdp hp v p):zdp hp' v p:=by
 obtain⟨a,o,vs,n,t,u,e,h1,r⟩:=h;exact⟨a,o,vs,n,t,u,e,k _ _ h1,r⟩
theorem IsPairs.keep (k:∀b o,hp.get? b=some o->hp'.get? b=some o)(h:IsPairs hp vs r):IsPairs hp' vs r:=by
 induction h with
 |nil=>exact .nil
 |cons h1 _ ih=>exact .cons (h1.keep k) ih
theorem zdh.keep (k:∀b o,hp.get? b=some o->hp'.get? b=some o)(h:zdh hp v r):zdh hp' v r:=by
 obtain⟨a,o,vs,n,e,h1,h2,h3,h4⟩:=h;exact⟨a,o,vs,n,e,k _ _ h1,h2,h3,h4.keep k⟩
def PR (h:zdp hp v p)(n:Nat):PlainV hp (n+1) v:=by
 obtain⟨a,o,vs,k,t,u,rfl,h1,h2,h3,h4⟩:=h;refine .tup h1 h2 h3 λx hx=>?_;rw[h4] at hx;rcases UB.mp hx with e|e
 .rw[e];exact .int _ _ _
 .rw[Vu.mp e];exact .int _ _ _
def PU (h:zdh hp v r)(n:Nat):PlainV hp (n+2) v:=by
 obtain⟨a,o,vs,k,rfl,h1,h2,h3,h4⟩:=h;refine .tup h1 h2 h3 ?_;generalize vs.toList=l at h4
 induction h4 with
 |nil=>intro x hx;cases hx
 |cons g1 _ ih =>
  intro x hx;rcases UB.mp hx with e|e
  .rw[e];exact PR g1 n
  .exact ih x e
section
variable {prog:Program}{w:World}{A:Around}{E:Ya}{s:Shared}
def PX (hu:A.units<cLine):∀{vs:Yd} {r:Jx},IsPairs s.heap vs r->HashAll prog w A E s vs (r.map GX):=λh=>by
 induction h with
 |nil=>exact .nil
 |cons h1 _ ih =>
  refine .cons (λtk Q h=>?_) ih;obtain⟨a,o,vs,n,t,u,rfl,g1,g2,g3,g4⟩:=h1;refine GR g1 g2 g3 hu ?_ h;rw[g4];exact GS (.cons _ _ (.cons _ _ .nil))
def PY (hr:zdh s.heap v r)(hu:A.units<cLine)(hu1:A.in1.units<cLine)(h:∀tk,s.toks<=tk->Q (GY r) { s with toks:=tk }):YB prog w A (pyHash v) Q E s:=by
 obtain⟨a,o,vs,n,rfl,g1,g2,g3,g4⟩:=hr;have e:s={ s with toks:=s.toks }:=by cases s;rfl
 rw[e];exact GR (tk0:=s.toks) g1 g2 g3 hu (PX hu1 g4) h
end
def PZ (p q:Int×Int):PyData.eqv (KG p) (KG q)=decide (p=q):=by
 unfold KG PyData.eqv PyData.eqvAll PyData.eqvAll PyData.eqvAll PyData.eqv;obtain⟨a,b⟩:=p;obtain⟨c,d⟩:=q;rw[U4];simp
theorem Ha:∀r q:Jx,PyData.eqvAll (r.map KG) (q.map KG)=decide (r=q)
 | [],[]=>by unfold List.map PyData.eqvAll;simp
 | [],_::_=>by rw[Zl,Uu];unfold PyData.eqvAll;simp
 |_::_,[]=>by rw[Zl,Uu];unfold PyData.eqvAll;simp
 |p::r,q::s=>by
  rw[Zl,Zl];unfold PyData.eqvAll;rw[PZ,Ha r s,U4];simp
def Ra (r q:Jx):PyData.eqv (rowP r) (rowP q)=decide (r=q):=by
 unfold rowP PyData.eqv;exact Ha r q
theorem Hb:∀r:Jx,PyData.canLayAll0 (r.map KG)=true
 | []=>rfl
 |p::r=>by
  rw[Zl];unfold PyData.canLayAll0;rw[Hb r];rfl
def Hc (r:Jx):(rowP r).canLay0=true:=Hb r
theorem Hd:∀r:Jx,PyData.depthAll (r.map KG)<=1
 | []=>Ue _
 |p::r=>by
  rw[Zl];unfold PyData.depthAll;have h1:(KG p).depth=1:=rfl;have h2:=Hd r;rw[h1];omega
def Rb (r:Jx):(rowP r).depth<=2:=VR (Hd r)
def zdp.inj (h:zdp hp v p)(h':zdp hp v q):p=q:=by
 obtain⟨a,o,vs,n,t,u,rfl,h1,h2,h3,h4⟩:=h;obtain⟨a',o',vs',n',t',u',e,k1,k2,k3,k4⟩:=h';cases e;rw[h1] at k1;obtain rfl:=Zqi k1;rw[h3] at k3;cases k3;rw[h4] at k4;simp only[List.cons.injEq,Value.int.injEq,and_true] at k4;exact Prod.ext k4.1.1 k4.2.1
theorem IsPairs.inj:∀{vs:Yd} {r q:Jx},IsPairs hp vs r->IsPairs hp vs q->r=q:=λ{vs r q} g h=>by
 induction g generalizing q with
 |nil=>cases h;rfl
 |cons h1 _ ih =>
  cases h with
  |cons k1 k2=>rw[h1.inj k1,ih k2]
theorem zdh.inj (h:zdh hp v r)(h':zdh hp v q):r=q:=by
 obtain⟨a,o,vs,n,rfl,h1,h2,h3,h4⟩:=h;obtain⟨a',o',vs',n',e,k1,k2,k3,k4⟩:=h';cases e;rw[h1] at k1;obtain rfl:=Zqi k1;rw[h3] at k3;cases k3;exact h4.inj k4
open Classical in
noncomputable def rowV (hp:Heap)(v:Value):Jx:=if h:∃r,zdh hp v r then h.choose else[]
def Y9 (h:zdh hp v r):rowV hp v=r:=by
 unfold rowV;have e:∃r,zdh hp v r:=⟨r,h⟩;rw[dif_pos e];exact e.choose_spec.inj h
def Rc (prog:Program)(w:World)(hp:Heap):KeyFam prog w hp (λv=>∃r,zdh hp v r) (λv=>GY (rowV hp v)) (λv u=>decide (rowV hp v=rowV hp u)) where
 ref:=by
  rintro v ⟨r,a,o,vs,n,e,_⟩;exact⟨a,e⟩
 plain:=by
  rintro v ⟨r,h⟩;exact PU h 6
 hash:=by
  rintro v ⟨r,h⟩ A E s Q hk hu hq;rw[Y9 h] at hq;exact PY (h.keep hk) () (show A.units+1<cLine from ()) hq
 eq:=by
  rintro v u ⟨r,h⟩ ⟨q,h'⟩ A E s Q hk hu hq;rw[Y9 h,Y9 h',<- Ra] at hq;have d1:=Rb r;exact SeqAt.eqBoolOverData prog w A E s v u (rowP r) (rowP q) [] [] Q (GZ (h.keep hk)) (GZ (h'.keep hk)) (Hc r) (Hc q) () hq
 coh:=by
  intro v u _ _ h;rw[of_decide_eq_true h]
def zbg:Slot "set_iterator" "__next__" "set_iterator.__next__" :=
 .of (owner:= "set_iterator") (n:= "__next__") (by rw[typeLookup_type,builtinLookup_eq_fast];kernel_rfl) (by decide +kernel) (by decide +kernel) (by decide +kernel)
  (by first|exact .inl (by decide +kernel)|exact .inr (by decide +kernel)) (by rw[isSubtype_type];kernel_rfl)
def He:entryFor table "set_iterator.__next__" = some Builtin.«set_iterator.__next__»:=entryFor_of_tree (by kernel_rfl)
def Hf:Manifest.owners.lookup (String.ofList ['r','o','t','a','r','e','t','i','_','t','e','s'].reverse)=some Manifest.sig_set_iterator:=by kernel_rfl
def Hg (a:Value):argsOk "set_iterator.__next__" ⟨[a],[]⟩:=by
 unfold argsOk;rw[signature?_of (id:= "set_iterator.__next__") (n:=['_','_','t','x','e','n','_','_']) (o:=['r','o','t','a','r','e','t','i','_','t','e','s']) (by kernel_rfl) Hf];kernel_rfl
def Re:entryFor table "set.__iter__" = some Builtin.«frozenset.__iter__»:=entryFor_alias (id':= "frozenset.__iter__") (by kernel_rfl) rfl (by decide +kernel) (by kernel_rfl)
def Hh:Slot "set_iterator" "__iter__" "set_iterator.__iter__" :=
 .of (owner:= "set_iterator") (n:= "__iter__") (by rw[typeLookup_type,builtinLookup_eq_fast];kernel_rfl) (by decide +kernel) (by decide +kernel) (by decide +kernel)
  (by first|exact .inl (by decide +kernel)|exact .inr (by decide +kernel)) (by rw[isSubtype_type];kernel_rfl)
def Rf:entryFor table "set_iterator.__iter__" = some Builtin.«dict_keyiterator.__iter__» :=
 entryFor_alias (id':= "dict_keyiterator.__iter__") (by kernel_rfl) (by first|rfl|decide +kernel|(unfold String.splitOn;simp +decide [String.splitOnAux])) (by decide +kernel) (by kernel_rfl)
def Rg (a:Value):argsOk "set_iterator.__iter__" ⟨[a],[]⟩:=by
 unfold argsOk;rw[signature?_of (id:= "set_iterator.__iter__") (n:=['_','_','r','e','t','i','_','_']) (o:=['r','o','t','a','r','e','t','i','_','t','e','s']) (by kernel_rfl) Hf];kernel_rfl
abbrev C6 (h:Heap)(it S:Addr)(slot i n ep:Nat):Prop:=h.get? it=some { cls:=.type "set_iterator",dict:=none,data:=.fields #[.int slot 0,.int i 0,.ref S,.int n 0,.int ep 0],slots:=#[] }
abbrev WJ (es:Array (Int×Value))(ep:Nat)(t:Yv):Obj:={ cls:=.type "set",dict:=none,data:=.set es ep t,slots:=#[] }
def Kk (w:World)(S ep:Nat)(es:Array (Int×Value)):Array (Int×Value):=if w.params.followText "set-order" then pickOrder (w.params.setOrder S ep) es else es
theorem Hi {α: Type}(next:Nat->Nat):∀(fuel k:Nat) (left:List α) (out:Array α),left.length<=fuel->(pickOrder.go next fuel k left out).toList.Perm (out.toList++left)
 | 0,k,left,out,h=>by
  have:left=[]:=Jf.mp ();subst this;unfold pickOrder.go;rw[ZA]
 |fuel+1,k,left,out,h=>by
  unfold pickOrder.go;cases q:left[next k % left.length]? with
  |none =>
   have hl:left.length=0:=by
    rcases VQ left.length with z|z
    .exact z
    .have:=UJ (next k) z;rw[Zqg this] at q;cases q
   have:left=[]:=Jf.mp hl;subst this;rw[ZA]
  |some x =>
   have hi:=(Jb.mp q).1;have ex:=(Jb.mp q).2;have hl:=List.length_eraseIdx_of_lt hi;refine(Hi next fuel (k+1) _ _ ()).trans ?_;rw[Array.toList_push,UC];refine List.Perm.append_left _ ?_;have e1:left=left.take (next k % left.length)++x::left.drop (next k % left.length+1):=by
    have:=U6 hi;rw[ex] at this;rw[<- this,VV]
   rw[List.eraseIdx_eq_take_drop_succ];refine List.Perm.trans ?_ (List.Perm.of_eq e1.symm);exact(List.perm_middle (l₁:=left.take (next k % left.length))).symm
def Rh {α: Type}(next:Nat->Nat)(es:Array α):(pickOrder next es).toList.Perm es.toList:=by
 unfold pickOrder;have:=Hi next es.size 0 es.toList #[] (by simp);simpa using this
def Hj (w:World)(S ep:Nat)(es:Array (Int×Value)):(Kk w S ep es).toList.Perm es.toList:=by
 unfold Kk
 split
 .exact Rh _ _
 .exact VB _
def C7 (w:World)(S ep:Nat)(es:Array (Int×Value)):(Kk w S ep es).size=es.size:=by
 have:=(Hj w S ep es).length_eq;simpa using this
def Ri (u:UpA xs)(hi:i<xs.size):SetTable.below xs (xs[i]+1)=i+1:=by
 obtain⟨h1,h2,h3⟩:=Ay u (xs[i]+1);have e:xs.getD i 0=xs[i]:=QB hi 0;rcases UN (SetTable.below xs (xs[i]+1)) (i+1) with q|q|q
 .have:=h3 i () hi;omega
 .exact q
 .have a:=h2 (i+1) q;have b:=u i (i+1) () ();omega
def Rj (xs:Yf)(u:UpA xs):SetTable.below xs 0=0:=by
 obtain⟨h1,h2,h3⟩:=Ay u 0;rcases VQ (SetTable.below xs 0) with q|q
 .exact q
 .have:=h2 0 q;omega
section
variable {prog:Program}{w:World}{A:Around}{E:Ya}{s:Shared}
def Rk (ho:s.heap.get? S=some (WJ es ep t))(hf:t.fits es.size=true)(hp:t.plain=true)
 (hQ:Q (.ref s.heap.objs.size) { s with heap:=s.heap.push { cls:=.type "set_iterator",data:=.fields #[.int 0 0,.int 0 0,.ref S,.int es.size 0,.int ep 0] } }):YB prog w A (pyIter (.ref S)) Q E s:=by
 have hT:s.TypeIs (.ref S) "set" := ⟨_,ho,rfl⟩;refine wpAny_pyIter_slot hT F.slot_set_iter (wpAny_call_entry F.slot_set_iter hT Re ?_ (F.args_set_iter_1 _));unfold Builtin.«frozenset.__iter__» Builtin.Frozenset.slot0 slotArgs;simp only[List.isEmpty_nil,UR,Uf,↓reduceIte,bind_assoc,ZC,bne_self_eq_false];unfold Builtin.Frozenset.addrOf Builtin.Frozenset.sizeOf;refine Za (Zb ?_)
 try dsimp only
 refine Za (Zb ?_);refine Za (Za (wpAny_setEntries_of ho rfl hf (Zb ?_)));have hd:wpAny (model prog w) A.in1 (setDrawn S) (λb s'=>b=false/\s'=s) E s:=by
  unfold setDrawn;refine Za (wpAny_setState_of ho rfl hf ?_);unfold setsByText;refine Za (Za (wpAny_askSetting (Zb ?_)));refine Zb ⟨?_,rfl⟩;obtain⟨mask,place,dummies,finger,led,moves,plain⟩:=t;cases hp;exact Vw _
 refine Za (Zc hd (λb s' z=>?_) λ_ _ e=>e);obtain⟨rfl,rfl⟩:=z;simp only[Uf,↓reduceIte];refine Za (Zb ?_);unfold setEpoch;refine Za (Za (wpAny_setState_of ho rfl hf (Zb ?_)));unfold newFields;refine Za (wpAny_newObj_type (Zb ⟨_,rfl, "set_iterator",_,⟨_,Zr _ rfl,rfl⟩,zbg.lookup,hQ⟩) (by simp only[sizeOk,sizeLine_eq,Zm,Zu,ZC];omega))
def Hk (ho:s.heap.get? S=some (WJ es ep t))(hf:t.fits es.size=true)(hp:t.plain=true)(hl:t.led=ledW w)(hu:UpA t.place)(hz:t.place.size=es.size)
 (hb:w.params.followText "set-order" = false->SetTable.below t.place slot=i)
 (hQ:∀slot',(w.params.followText "set-order" = false->i<es.size->SetTable.below t.place slot'=i+1)->Q (((Kk w S ep es)[i]?).map λe=>(e.2,slot')) s):YB prog w A (setNext S slot i ep) Q E s:=by
 unfold setNext;refine Za (wpAny_setState_of ho rfl hf ?_);unfold setsByText;refine Za (Za (wpAny_askSetting (Zb ?_)));cases q:w.params.followText "set-order" with
 |true =>
  have e:({ program:=(model prog w).prog,params:=(model prog w).w.params }:Setting).params.followText "set-order" = true:=q;rw[Zd e];dsimp only;rw[Ze (by simp)];unfold setWalk;refine Za (Za (wpAny_setState_of ho rfl hf ?_));unfold setsByText;refine Za (Za (wpAny_askSetting (Zb ?_)));rw[Zd e];refine Za (wpAny_askSetting (Zb (Zb ?_)));have:=hQ slot λz=>by rw[q] at z;cases z
  unfold Kk at this;rw[Zd q] at this;exact this
 |false =>
  have e:¬({ program:=(model prog w).prog,params:=(model prog w).w.params }:Setting).params.followText "set-order" = true:=by
   show ¬w.params.followText "set-order" = true;rw[q];simp
  rw[Ze e];dsimp only;have hw:Kk w S ep es=es:=by unfold Kk;rw[q];rfl
  rw[hw] at hQ;have hb:=hb q;rw[hb];have hl:t.led=true:=by rw[hl];unfold ledW;rw[q];rfl
  obtain⟨mask,place,dummies,finger,led,moves,plain⟩:=t;cases hp;cases hl
  split
  .rename_i z;exact Zn z Zj
  .refine Za ?_;refine Zb (a:=Yp) ?_;refine Zb ?_;by_cases hi:i<es.size
   .have hj:i<place.size:=by rw[show place.size=es.size from hz];exact hi
    have:=hQ (place[i]+1) λ_ _=>Ri hu hj;rw[Us hi] at this;rw[Us hi,Us hj];exact this
   .have:=hQ 0 λ_ z=>Zn z hi;rw[Vg ()] at this;rw[Vg (show es.size<=i from ())];exact this
abbrev YD (w:World)(it S:Addr)(es:Array (Int×Value))(ep:Nat)(t:Yv)(i:Nat)(h:Heap):Prop:=(∃slot,C6 h it S slot i es.size ep/\(w.params.followText "set-order" = false->i<=es.size->SetTable.below t.place slot=i))/\h.get? S=some (WJ es ep t)
structure SetGood (w:World)(es:Array (Int×Value))(t:Yv):Prop where
 fits:t.fits es.size=true
 plain:t.plain=true
 led:t.led=ledW w
 up:UpA t.place
 size:t.place.size=es.size
def Rl (G:SetGood w es t)(st:YD w it S es ep t i s.heap)(hi:i<es.size)
 (hQ:∀h' x,(∃k,(Kk w S ep es)[i]? = some (k,x))->YD w it S es ep t (i+1) h'->Heap.SameBut it s.heap h'->Q (some x) { s with heap:=h' }):YB prog w A (pyNext (.ref it)) Q E s:=by
 obtain⟨⟨slot,hit,hb⟩,ho⟩:=st;have hT:s.TypeIs (.ref it) "set_iterator" := ⟨_,hit,rfl⟩;have hne:S≠it:=λz=>by
  subst z;unfold C6 at hit;rw[ho] at hit;have:=Zt Obj.data (Zqi hit);cases this
 unfold pyNext;refine Za (wpAny_attempt (wpAny_callSpecial?_slot (name:=Str.ofString "__next__") hT zbg
  (wpAny_call_entry zbg hT He ?_ (Hg _))))
 unfold Builtin.«set_iterator.__next__» slotArgs;simp only[List.isEmpty_nil,UR,Uf,↓reduceIte,bind_assoc,ZC,bne_self_eq_false];refine Za (Zb ?_)
 try dsimp only
 refine Za (wpAny_fieldsOf hit rfl ?_);dsimp only;refine Za (wpAny_setEntries_of ho rfl G.fits ?_);rw[Ze (by simp)];simp only[Vc];refine Za (Hk ho G.fits G.plain G.led G.up G.size (λz=>hb z ()) λslot' hs=>?_);have hw:i<(Kk w S ep es).size:=by rw[C7];exact hi
 rw[Us hw];dsimp only[Option.map_some];refine Za (wpAny_setField_rec hit (by simp) λh₁ he₁ hs₁=>?_);refine Za (wpAny_setField_rec (s:={ s with heap:=h₁ }) he₁ (by simp) λh₂ he₂ hs₂=>?_);have hs₂:Heap.SameBut it h₁ h₂:=hs₂;have hs₁:Heap.SameBut it s.heap h₁:=hs₁;refine Zb ⟨_,rfl,Zb (hQ h₂ _ ⟨_,by rw[Us hw]⟩ ⟨⟨slot',?_,λz _=>hs z hi⟩,hs₂.extBut _ _ hne (hs₁.extBut _ _ hne ho)⟩ ⟨hs₂.1.trans hs₁.1,λb hb=>(hs₂.2 b hb).trans (hs₁.2 b hb)⟩)⟩;have e:((i+1:Nat):Int)=(i:Int)+1:=()
 unfold C6;rw[e];simpa [rawInt] using he₂
def Rm (hh:A.handled=none)(G:SetGood w es t)(st:YD w it S es ep t i s.heap)(hi:i=es.size)
 (hQ:∀h',Heap.ExtBut it s.heap h'->Q none { s with heap:=h' }):YB prog w A (pyNext (.ref it)) Q E s:=by
 obtain⟨⟨slot,hit,hb⟩,ho⟩:=st;have hT:s.TypeIs (.ref it) "set_iterator" := ⟨_,hit,rfl⟩;unfold pyNext;refine Za (wpAny_attempt (wpAny_callSpecial?_slot (name:=Str.ofString "__next__") hT zbg
  (wpAny_call_entry zbg hT He ?_ (Hg _))))
 unfold Builtin.«set_iterator.__next__» slotArgs;simp only[List.isEmpty_nil,UR,Uf,↓reduceIte,bind_assoc,ZC,bne_self_eq_false];refine Za (Zb ?_)
 try dsimp only
 refine Za (wpAny_fieldsOf hit rfl ?_);dsimp only;refine Za (wpAny_setEntries_of ho rfl G.fits ?_);rw[Ze (by simp)];simp only[Vc];refine Za (Hk ho G.fits G.plain G.led G.up G.size (λz=>hb z ()) λslot' hs=>?_);rw[Vg (by rw[C7];omega)];dsimp only[Option.map_none];refine Za (wpAny_setField hit rfl (by simp) ?_);show wpAny _ _ (newExc (.type "StopIteration") [] >>= _) _ _ _;refine Za ?_;simp only[newExc,newTuple];refine Za (wpAny_newObj_type ?_ (by size_fits));refine Za (m:=firstArgMember _ _) (wpAny_of_eq (a:=Value.none) (by first|rfl|(simp only[firstArgMember];rfl)) ?_);refine wpAny_newObj_type ?_ (by size_fits);simp only[raiseNew];refine Za (wpAny_handled ?_);rw[show A.in1.handled=none from hh];refine Za (Zb (wpAny_throw ?_));refine Za (wpAny_isInstance (T:= "StopIteration") (b:=true) ⟨_,Zr _ rfl,rfl⟩ isSubtype_stop ?_);exact Zb (hQ _ (((Heap.SameBut.update ..).extBut.push _).push _))
end
def Rn (hh:A.handled=none)(G:SetGood w es t):WalksS prog w A it [it,S] [it] (λg g'=>g'=g) es.size (λi v=>∃k,(Kk w S ep es)[i]? = some (k,v)) (λi s=>YD w it S es ep t i s.heap):=
 (show Walks prog w A it [it,S] [it] es.size (λi v=>∃k,(Kk w S ep es)[i]? = some (k,v)) (λi h=>YD w it S es ep t i h) from {
  sub:=λb hb=>by simp at hb;simp[hb]
  frame:=λi h h' st hk=>⟨(let ⟨slot,a,b⟩:=st.1;⟨slot,hk it (by simp) _ a,b⟩),hk S (by simp) _ st.2⟩
  item:=λi s Q E hi st hQ=>Rl G st hi λh' x hx st' sb=>hQ x h' s.toks hx st' λb o hb e=>sb.extBut b o (λh=>hb (by simp[h])) e
  done:=λs Q E st hQ=>Rm hh G st rfl λh' eb=>hQ h' s.toks λb o hb e=>eb b o (λh=>hb (by simp[h])) e
  self:=λi s Q E st hQ=>by
   obtain⟨⟨slot,hit,hb⟩,ho⟩:=st;have hT:s.TypeIs (.ref it) "set_iterator" := ⟨_,hit,rfl⟩;refine wpAny_pyIter_slot hT Hh (wpAny_call_entry Hh hT Rf ?_ (Rg _));show wpAny _ _ (ret (.ref it)) _ _ s;exact Zb ⟨_,rfl, "set_iterator",_,hT,zbg.lookup,hQ⟩ }).toS
def Ro:typeLookup (.type "set") "__len__" = pure (some (.builtin "set.__len__")):=by rw[typeLookup_type,builtinLookup_eq_fast];kernel_rfl
section
variable {prog:Program}{w:World}{A:Around}{E:Ya}{s:Shared}
def Rp (hT:s.TypeIs (.ref r) "set")(h:Q false s):YB prog w A (Builtin.List.listLengthHint (.ref r)) Q E s:=by
 unfold Builtin.List.listLengthHint;refine Za (wpAny_specialOf hT Ro ?_);generalize hid:("set.__len__" : String)=id0
 wp_delta
 rw[show splitId id0=some ("set", "__len__") from by subst hid;decide +kernel];subst hid;refine Za (wpAny_isInstance (T:= "set") (b:=true) hT (by rw[isSubtype_type];kernel_rfl) ?_);refine wpAny_ite_split (λhab=>Zn hab (by decide)) (λ_=>?_);refine wpAny_ite_split (λ_=>?_) (λhab=>Zn (by decide +kernel) hab);refine Za (wpAny_typeOf hT ?_);exact Zb h
def Rq (hh:A.handled=none)(ho:s.heap.get? S=some (WJ es ep t))(G:SetGood w es t)(hn:es.size<=1000)
 (h:∀(h':Heap) (tk:Nat) (vs:Yd),(∀b o,s.heap.get? b=some o->h'.get? b=some o)->vs.Perm (es.toList.map (·.2))->s.heap.objs.size<h'.objs.size->R vs { s with heap:=h',toks:=tk }):YB prog w A (collect (.ref S)) R E s:=by
 have hS:S<s.heap.objs.size:=Zk ho;have hT:s.TypeIs (.ref S) "set" := ⟨_,ho,rfl⟩;unfold collect;refine Za (wpAny_runValue (codeAny_builtin F.entry_proto_collect ?_));rw[Around.under_plainId F.plain_proto_collect _];show wpAny _ A.in1 (newList [] >>= λl=>again (.builtin "list.__iadd__" ⟨[l,.ref S],[]⟩)) _ _ s;refine Za (wpAny_newObj_type ?_);refine Zb ⟨plainId_quiet F.plain_list_iadd _,codeAny_builtin F.entry_list_iadd ?_⟩;rw[Around.under_plainId F.plain_list_iadd _];generalize hno:({ cls:=.type "list",data:=.seq ([]:Yd).toArray }:Obj)=no;have hL₁:(s.heap.push no).get? s.heap.objs.size=some no:=Zr _ (by rw[<- hno];rfl);have ho₁:(s.heap.push no).get? S=some (WJ es ep t):=Zq _ ho;have hT₁:Shared.TypeIs { s with heap:=s.heap.push no } (.ref S) "set" := ⟨_,ho₁,rfl⟩;have hSL:S≠s.heap.objs.size:=Zi hS;show wpAny _ A.in1 (Builtin.List.listExtendWith (.ref s.heap.objs.size) (.ref S) (.ref s.heap.objs.size)) _ _ _;unfold Builtin.List.listExtendWith;refine Za (wpAny_typeOf hT₁ ?_);have h1:Builtin.List.listSameRef (.ref s.heap.objs.size) (.ref S)=false:=by simp[Builtin.List.listSameRef,Ne.symm hSL]
 have h2:(Value.type "set" == Value.type "list")=false:=by decide
 have h3:(Value.type "set" == Value.type "tuple")=false:=by decide
 simp only[h1,h2,h3,Bool.or_false,Uf,if_false];refine Za (Rk (s:={ s with heap:=s.heap.push no }) ho₁ G.fits G.plain ?_);have szp:(s.heap.push no).objs.size=s.heap.objs.size+1:=Heap.size_push ..;generalize hI:(s.heap.push no).objs.size=I at *;generalize hni:({ cls:=.type "set_iterator",data:=.fields #[.int 0 0,.int 0 0,.ref S,.int es.size 0,.int ep 0] }:Obj)=ni;have hS₂:=Zq ni ho₁;have hL₂:=Zq ni hL₁;have hI₂:((s.heap.push no).push ni).get? I=some ni:=by rw[<- hI];exact Zr _ (by rw[<- hni];rfl)
 refine Za (wpAny_holding (Rp ⟨_,hS₂,rfl⟩ ?_));have hIL:I≠s.heap.objs.size:=()
 have key:∀(R':Result->Yu),(∀(h':Heap) (tk c:Nat) (acc:Yk),(∀b o,s.heap.get? b=some o->h'.get? b=some o)->h'.get? s.heap.objs.size=some { cls:=.type "list",dict:=none,data:=.seq acc c,slots:=#[] }->acc.toList.Perm (es.toList.map (·.2))->R' (.ok (.ret (.ref s.heap.objs.size))) { s with heap:=h',toks:=tk }) ->
  ∀(h:Heap) (c₁ tk:Nat),(∀b o,b≠s.heap.objs.size->((s.heap.push no).push ni).get? b=some o->h.get? b=some o)->h.get? s.heap.objs.size=some { cls:=.type "list",dict:=none,data:=.seq #[] c₁,slots:=#[] } ->
  codeAny (model prog w) A (.builtin "list.extend.loop" ⟨[.ref s.heap.objs.size,.ref I,.ref s.heap.objs.size],[]⟩) R' { s with heap:=h,toks:=tk }:=by
  intro R' hR h₀ c₁ tk hk hL;have hSf:s.heap.objs.size ∉ [I,S]:=by
   simp only[UB,UM,or_false,not_or];exact⟨Ne.symm hIL,Ne.symm hSL⟩
  have hIt:h₀.get? I=some ni:=hk I _ hIL hI₂;rw[<- hni] at hIt;refine codeAny_extend_loopS (Rn (prog:=prog) (w:=w) (A:=A.in1) (it:=I) (S:=S) (ep:=ep) hh G) (Zh hn (by rw[sizeLine_eq];omega)) s.heap.objs.size hSf _ es.size 0 { s with heap:=h₀,toks:=tk } #[] c₁ rfl (Ue _)
   ⟨⟨0,hIt,λ_ _=>Rj _ G.up⟩,hk S _ hSL hS₂⟩ hL (ItemsOf.nil _) λs' acc c hm hL' hacc=>?_
  obtain⟨h',g',d',tk',os'⟩:=s';have eg:g'=s.gens:=hm.gens;have ed:d'=s.drawn:=hm.drawn;have eo:os'=s.os:=hm.os;subst eg;subst ed;subst eo;refine hR h' tk' c acc (λb o e=>?_) hL' ?_
  .have hb:=Zk e;have hbL:b≠s.heap.objs.size:=Zi hb;have hbI:b≠I:=Zi (Zg hb (by rw[szp];exact Vd _));exact hm.heap b o (by simp only[UB,UM,or_false,not_or];exact⟨hbL,hbI⟩) (hk b o hbL (Zq _ (Zq _ e)))
  .have el:acc.toList=(Kk w S ep es).toList.map (·.2):=by
    apply VE;intro j;rw[Zv];by_cases hj:j<acc.size
    .obtain⟨k,hk⟩:=hacc.2 j acc[j] (Us hj);have:(Kk w S ep es).toList[j]? = some (k,acc[j]):=by simpa using hk
     rw[this];simp[hj]
    .have hw:(Kk w S ep es).toList[j]? = none:=UF (by rw[Ui,C7,<- hacc.1];omega);rw[hw];exact UF (by rw[Ui];omega)
   rw[el];exact(Hj w S ep es).map _
 have fin:∀(h':Heap) (tk c:Nat) (acc:Yk),(∀b o,s.heap.get? b=some o->h'.get? b=some o)->h'.get? s.heap.objs.size=some { cls:=.type "list",dict:=none,data:=.seq acc c,slots:=#[] }->acc.toList.Perm (es.toList.map (·.2)) ->
  YB prog w A (do
   let o <- load s.heap.objs.size
   match o.data with
    | .seq xs _=>pure xs.toList
    |_=>unsupported "internal:collect") R E { s with heap:=h',toks:=tk }:=λh' tk c acc kk hl hp=>by
  refine Za (wpAny_load hl ?_);exact Zb (h h' tk acc.toList kk hp (Zk hl))
 have hL₂':((s.heap.push no).push ni).get? s.heap.objs.size=some { cls:=.type "list",dict:=none,data:=.seq #[] 0,slots:=#[] }:=by rw[hL₂,<- hno]
 refine wpAny_ite_split (λ_=>?_) (λ_=>Zb ⟨plainId_quiet F.plain_extend_loop _,key _ (λh' tk c acc kk hl hp=>fin h' tk c acc kk hl hp) _ 0 _ (λb o _ e=>e) hL₂'⟩);refine Za (wpAny_rule ?_);refine Za ?_;show wpAny _ _ (updateSeq s.heap.objs.size (·.push .none) >>= λ_=>updateSeq s.heap.objs.size (·.pop)) _ _ _;refine Za (wpAny_updateSeq hL₂' rfl ?_);have hL₃:=Heap.get?_update_self (Obj.mapSeq (·.push Value.none)) hL₂' rfl;refine wpAny_updateSeq (hz:=by seq_fits) hL₃ rfl ?_;have hL₄:=Heap.get?_update_self (Obj.mapSeq (·.pop)) hL₃ rfl;refine Zb ⟨plainId_quiet F.plain_extend_loop _,key _ (λh' tk c acc kk hl hp=>fin h' tk c acc kk hl hp) _ _ _ (λb o hb e=>?_) hL₄⟩;exact(Heap.get?_update_other _ _ (Ne.symm hb)).trans ((Heap.get?_update_other _ _ (Ne.symm hb)).trans e)
end
theorem Hl:∀{us:Yd} {r:Jx},W9 h us r->IsPairs h us r
 | [],[],_=>.nil
 | [],_::_,p=>by have:=p.1;simp at this
 |_::_,[],p=>by have:=p.1;simp at this
 |u::us,q::r,p=>by
  obtain⟨b,ob,nb,t,v,g1,g2,g3,g4⟩:=p.2 0 q rfl;have g1:some u=some (Value.ref b):=g1;obtain rfl:=Zqi g1;refine .cons ⟨b,ob,_,nb,t,v,rfl,g2,g3,g4,rfl⟩ (Hl ⟨by have:=p.1;simpa using this,λi x hx=>p.2 (i+1) x hx⟩)
def Rr (R:RowAt h v r a o us n):zdh h v r:=
 ⟨a,o,us.toArray,n,R.isv,R.get,R.cls,R.dat,Hl R.prs⟩
def dedI (rs:Jy):Nat->List Nat
 | 0=>[]
 |n+1=>if(dedI rs n).any (λi=>decide (rs.getD i []=rs.getD n [])) then dedI rs n else dedI rs n++[n]
def Rs (rs:Jy)(n:Nat):dedI rs (n+1)=if(dedI rs n).any (λi=>decide (rs.getD i []=rs.getD n [])) then dedI rs n else dedI rs n++[n]:=rfl
def dedR (rs:Jy):Jy:=(dedI rs rs.length).map λi=>rs.getD i []
theorem WK (rs:Jy):∀n i,i∈dedI rs n->i<n
 | 0,i,h=>by cases h
 |n+1,i,h=>by
  unfold dedI at h
  split at h
  .have:=WK rs n i h;omega
  .rcases Jc.mp h with q|q
   .have:=WK rs n i q;omega
   .rw[Vu.mp q];omega
theorem C8 (rs:Jy):∀n,(dedI rs n).length<=n
 | 0=>Zf _
 |n+1=>by
  have:=C8 rs n;unfold dedI
  split
  .omega
  .rw[Ub,Uq];omega
theorem Hm (rs:Jy):∀n,((dedI rs n).map λi=>rs.getD i []).Nodup
 | 0=>Vh
 |n+1=>by
  have ih:=Hm rs n;unfold dedI
  split
  .exact ih
  .rename_i h;rw[Ug,Vo];refine⟨ih,by simp,λx hx y hy=>?_⟩;rw[Zl,Uu,Vu] at hy;subst hy;intro z;subst z;obtain⟨i,hi,e⟩:=Ja.mp hx;exact h (VP.mpr ⟨i,hi,Zp e⟩)
theorem Hn (rs:Jy):∀n (r:Jx),r∈((dedI rs n).map λi=>rs.getD i [])↔∃i,i<n/\rs.getD i []=r
 | 0,r=>by
  constructor
  .intro h;cases h
  .rintro⟨i,hi,_⟩;omega
 |n+1,r=>by
  have ih:=Hn rs n;unfold dedI
  split
  .rename_i h;obtain⟨j,hj,e⟩:=VP.mp h;have e:=of_decide_eq_true e;rw[ih];constructor
   .rintro⟨i,hi,z⟩;exact⟨i,(),z⟩
   .rintro⟨i,hi,z⟩;by_cases q:i=n
    .subst q;exact⟨j,WK rs i j hj,by rw[e,z]⟩
    .exact⟨i,(),z⟩
  .rw[Ug,List.mem_append,ih];constructor
   .rintro(⟨i,hi,z⟩|z)
    .exact⟨i,(),z⟩
    .rw[Zl,Uu,Vu] at z;exact⟨n,(),z.symm⟩
   .rintro⟨i,hi,z⟩;by_cases q:i=n
    .subst q;exact .inr (by rw[Zl,Uu,Vu];exact z.symm)
    .exact .inl ⟨i,(),z⟩
def Ho (rs:Jy):(dedR rs).Nodup:=Hm rs _
def Hq (rs:Jy):(dedR rs).length<=rs.length:=by unfold dedR;rw[Zql];exact C8 rs _
def zgz:r∈dedR rs↔r∈rs:=by
 unfold dedR;rw[Hn];constructor
 .rintro⟨i,hi,z⟩;rw[Ua,Zqg hi] at z;rw[<- z];exact UG hi
 .intro h;obtain⟨i,hi,z⟩:=UA h;exact⟨i,hi,by rw[Ua,Zqg hi,<- z];rfl⟩
theorem Hr {same:Value->Value->Bool}{val:Nat->Value}{rs:Jy}{n:Nat}(h:∀i j,i<n->j<n->same (val i) (val j)=decide (rs.getD i []=rs.getD j [])):∀k,k<=n->dedV same val k=(dedI rs k).map val
 | 0,_=>rfl
 |k+1,hk=>by
  rw[A0,Hr h k (),Rs];unfold Wy;have e:((dedI rs k).map val).any (same · (val k))=(dedI rs k).any (λi=>decide (rs.getD i []=rs.getD k [])):=by
   rw[Vp,U4,VP,VP];constructor
   .rintro⟨i,hi,z⟩;exact⟨i,hi,by rw[<- h i k (by have:=WK rs k i hi;omega) ()];exact z⟩
   .rintro⟨i,hi,z⟩;exact⟨i,hi,by show same (val i) (val k)=true;rw[h i k (by have:=WK rs k i hi;omega) ()];exact z⟩
  rw[e]
  split
  .rfl
  .rw[Ug];rfl
theorem A1 {G:Hp}{rs:Jy}{ys:Yw}(h:zau G (rs.map rD) ys):∀ix:Yg,(∀i∈ix,i<rs.length)->zau G ((ix.map λi=>rs.getD i []).map rD) (ix.map λi=>ys.getD i .non)
 | [],_=>by unfold zau;rfl
 |i::ix,hi=>by
  have hl:=hi i Zqs;obtain⟨x,hx,hI⟩:=h.get (i:=i) (d:=rD (rs.getD i [])) (by rw[Zv,Zqg hl,Qe (Zqg hl)];rfl);rw[Zl,Zl,Zl];unfold zau;refine⟨x,_,?_,hI,A1 h ix λj hj=>hi j (Zqm _ hj)⟩;rw[Qe hx]
def SetO (w:World)(S:Addr)(ys:Yw):HO:=.ext λh=>∃es ep t us,h.get? S=some (WJ es ep t)/\SetGood w es t/\es.size<=1000/\(es.toList.map (·.2)).Perm us/\Vals ys us
def Hs (w:World):Yw->Hp->VK->Prop:=λxs H Q=>∃a ys rs,xs=[.ref a]/\Rd H a (.lst ys)/\zau H (rs.map rD) ys/\rs.length<=999/\∀S,H S=none->Q (.ref S) (upd H S (SetO w S ((dedI rs rs.length).map λi=>ys.getD i .non)))
def Ht (w:World):Yw->Hp->VK->Prop:=λxs H Q=>∃S ys rs,xs=[.ref S]/\H S=some (SetO w S ys)/\zau H (rs.map rD) ys/\(∀r∈rs,r ≠ [])/\rs.length<64 /\
 ∀l zs,H l=none->(∀G,zau G (rs.map rD) ys->zau G ((JO rltB rs).map rD) zs)->Q (.ref l) (upd H l (.lst zs))
def Rt (p:us.Perm vs):∀{zs:Yw} {rs:Jy},Vals zs us->zs.length=rs.length->∃(zs2:Yw) (rs2:Jy),Vals zs2 vs/\rs2.Perm rs/\zs2.length=rs2.length/\∀G,zau G (rs.map rD) zs->zau G (rs2.map rD) zs2:=by
 induction p with
 |nil=>exact λ{zs rs} h hl=>⟨zs,rs,h,.refl _,hl,λ_ h=>h⟩
 |cons x _ ih =>
  intro zs rs h hl;cases h with
  |cons r h =>
   cases rs with
   |nil=>simp at hl
   |cons q rs =>
    obtain⟨zs2,rs2,h2,p2,l2,g2⟩:=ih h (by simpa using hl);refine⟨_::zs2,q::rs2,.cons r h2,p2.cons q,by simp[l2],λG hG=>?_⟩;rw[Zl] at hG ⊢;unfold zau at hG ⊢;obtain⟨y,w,e,h3,h4⟩:=hG;cases e;exact⟨_,_,rfl,h3,g2 G h4⟩
 |swap x y l =>
  intro zs rs h hl;cases h with
  |cons r h =>
   cases h with
   |cons r' h =>
    cases rs with
    |nil=>simp at hl
    |cons q rs =>
     cases rs with
     |nil=>simp at hl
     |cons q' rs =>
      refine⟨_,q'::q::rs,.cons r' (.cons r h),.swap _ _ _,by simpa using hl,λG hG=>?_⟩;rw[Zl,Zl] at hG ⊢;unfold zau at hG ⊢;obtain⟨y,w,e,h3,h4⟩:=hG;cases e;unfold zau at h4;obtain⟨y,w,e,h5,h6⟩:=h4;cases e;refine⟨_,_,rfl,h5,?_⟩;unfold zau;exact⟨_,_,rfl,h3,h6⟩
 |trans _ _ ih1 ih2 =>
  intro zs rs h hl;obtain⟨zs2,rs2,h2,p2,l2,g2⟩:=ih1 h hl;obtain⟨Ru,rs3,h3,p3,l3,g3⟩:=ih2 h2 l2;exact⟨Ru,rs3,h3,p3.trans p2,l3,λG hG=>g3 G (g2 G hG)⟩
section
variable {X:Cx}
def call_setRows (hc:X.calm=true)(hu:X.A.units+64<cLine):za1 X (.type "set") (Hs X.w):=by
 intro Y s Z H xs us Q I rv h;obtain⟨a,ys,rs,rfl,ha,hA,hl,q⟩:=h;obtain⟨u,rfl,ru⟩:=Q7 rv;obtain rfl:u=Value.ref a:=ru;obtain⟨its,ri,pl,hz⟩:=I.list (.inl ha);have l1:=hA.length;have l2:=ri.length;rw[Zql] at l1;have sz:its.toArray.size=its.length:=Zm;have gd:∀i,its.toArray.getD i .none=its.getD i .none:=λi=>by
  rw[UY,Ua];simp
 have isr:∀i,i<its.length->zdh s.heap (its.getD i .none) (rs.getD i []):=λi hi=>by
  have hr:i<rs.length:=()
  obtain⟨x,hx,hI⟩:=hA.get (i:=i) (d:=rD (rs.getD i [])) (by rw[Zv,Zqg hr,Qe (Zqg hr)];rfl);obtain⟨v,hv,rr⟩:=ri.get hx;obtain⟨b,o,ws,n,R⟩:=BO I.hok hI rr;rw[Qe hv];exact Rr R
 refine PN (I.ok.hd hc) pl.isList (Rc X.prog X.w s.heap) (λi v hv=>?_) (by rw[sz];omega) (by show X.A.units+1+1+1+8<cLine;omega) λh' tk H' kk=>?_
 .have hi:i<its.length:=by
   have:=(Ju.mp hv).1;omega
  have e:v=its.getD i .none:=by
   rw[<- gd,UY,hv];rfl
  rw[e];exact⟨_,isr i hi⟩
 .have same:∀i j,i<its.toArray.size->j<its.toArray.size->(λv u=>decide (rowV s.heap v=rowV s.heap u)) ((λi=>its.toArray.getD i .none) i) ((λi=>its.toArray.getD i .none) j)=decide (rs.getD i []=rs.getD j []):=λi j hi hj=>by
   show decide (rowV s.heap (its.toArray.getD i .none)=rowV s.heap (its.toArray.getD j .none))=_;rw[gd,gd,Y9 (isr i ()),Y9 (isr j ())]
  obtain⟨es,t,SI,pm,led,plain⟩:=H';rw[Hr same _ (Zf _)] at pm;obtain⟨ep,ho⟩:=SI.at_;have en:its.toArray.size=rs.length:=()
  rw[en] at pm;have pm2:(es.toList.map (·.2)).Perm ((dedI rs rs.length).map λi=>its.getD i .none):=by
   have:=pm.map (·.2);rw[Zw,Zw] at this;refine this.trans (List.Perm.of_eq (Vq λi _=>?_));exact gd i
  have vl:Vals ((dedI rs rs.length).map λi=>ys.getD i .non) ((dedI rs rs.length).map λi=>its.getD i .none):=WX λi hi=>by
   have hi:=WK rs _ i hi;obtain⟨x,hx⟩:∃x,ys[i]? = some x:=⟨ys[i]'(),Zqg ()⟩;obtain⟨v,hv,rr⟩:=ri.get hx;rw[Qe hx,Qe hv];exact rr
  have szs:es.size<=1000:=by
   have:=pm2.length_eq;rw[Zql,Zql,Ui] at this;have:=C8 rs rs.length;omega
  have szp:t.place.size=es.size:=by
   have:=SI.tab.size;rw[Ut] at this;exact this
  refine⟨.ref s.heap.objs.size,upd H s.heap.objs.size (SetO X.w s.heap.objs.size ((dedI rs rs.length).map λi=>ys.getD i .non)),I.laid (t':=tk) (λb o e=>kk b o (Zk e) e) (Zf _) ?_,rfl,q _ (I.hok.fresh (Zf _))⟩;refine⟨⟨es,ep,t,_,ho,⟨SI.tab.fits,plain,led,SI.tab.up,szp⟩,szs,pm2,vl⟩,⟨_,ho⟩,λh1 h2 z kp=>?_⟩;obtain⟨es,ep,t,us,e,r⟩:=z;exact⟨es,ep,t,us,kp _ e,r⟩
def Rv (I:Inv X Y Z H s)(h:H S=some (SetO X.w S ys)):∃es ep t us,s.heap.get? S=some (WJ es ep t)/\SetGood X.w es t/\es.size<=1000/\(es.toList.map (·.2)).Perm us/\Vals ys us:=(show zbj X.prog X.w H s.heap S (SetO X.w S ys) from I.hok S _ h).1
def Rw
 (hc:wpAny (model prog w) A.in1 (collect x) (λvs s1=>∃lt,Wk lt/\vs.length<64/\(∀h',(∀b o,s1.heap.get? b=some o->h'.get? b=some o)->2<=vs.length->Keys prog w A.in1.in1 { s1 with heap:=h' } vs lt) /\
  ∀jx h' l,Pl vs.length jx vs.length->Up lt jx vs.length->(∀b o,s1.heap.get? b=some o->h'.get? b=some o)->s1.heap.objs.size<=l->(∃e,h'.get? l=some (seqObj "list" (jx.map (nthV vs)) e))->Q (.ref l) { s1 with heap:=h' }) E s):
 YB prog w A (call (.builtin "sorted") [x]) Q E s:=by
 refine Calls.call_function_entry kind_sorted plain_sorted entry_sorted (args_sorted1 _) ?_;unfold Builtin.«sorted»;refine Za (m:=checkCount "sorted" 1 1 _) (Zb (Za (Zc hc (λvs s1 z=>?_) λ_ _ e=>e)));obtain⟨lt,W,h64,hk,hq⟩:=z;have gl:(s1.heap.push (seqObj "list" vs.toArray 0)).get? s1.heap.objs.size=some (seqObj "list" vs.toArray 0):=Zr _ rfl;have nl:∀b o,s1.heap.get? b=some o->b≠s1.heap.objs.size:=λb o e=>Zi (Zk e);refine Za (wpAny_newList (Za (wpAny_holding (wpAny_call_entry slot_list_sort ⟨_,gl,rfl⟩ entry_list_sort (Ff (s:={ s1 with heap:=s1.heap.push (seqObj "list" vs.toArray 0) }) W gl h64 (λh' kp=>hk h' λb o e=>kp b o (nl b o e) (Zq _ e)) λjx p u=>⟨_,rfl,Zb ⟨_,rfl,?_⟩⟩) (args_list_sort _)))));refine hq jx _ _ p u (λb o e=>?_) (Zf _) (sortedHeap_at gl);rw[sortedHeap_old (nl b o e) (by rw[size_push'];exact UD (Zk e))];exact Zq _ e
def call_sortedSet (hc:X.calm=true)(hu:X.A.units+64<cLine):za1 X (.builtin "sorted") (Ht X.w):=by
 intro Y s Z H xs us Q I rv h;obtain⟨S,ys,rs,rfl,hS,hA,hne,h64,q⟩:=h;obtain⟨u,rfl,ru⟩:=Q7 rv;obtain rfl:u=Value.ref S:=ru;obtain⟨es,ep,t,ws,ho,G,hsz,pm,vl⟩:=Rv I hS;have l1:=hA.length;rw[Zql] at l1;have hlt:∀vs:Yd,vs.Perm (es.toList.map (·.2))->vs.length=rs.length:=λvs hv=>by
  have a:=hv.length_eq;have b:=pm.length_eq;have c:=vl.length;omega
 refine Rw (Rq (A:=X.A.in1) (E:=X.xe) (I.ok.hd hc) ho G hsz λh1 tk vs kk hv hsz1=>?_);obtain⟨ys2,rs2,vl2,p2,l2,g2⟩:=Rt (pm.symm.trans hv.symm) vl ();have lv:=hlt vs hv;have lr:=p2.length_eq;have A2:=g2 H hA;have ne2:∀r∈rs2,r ≠ []:=λr hr=>hne r (p2.mem_iff.mp hr);refine⟨λi j=>rltB (rs2.getD i []) (rs2.getD j []),zaP.wk λi=>rs2.getD i [],(),λh' kp h2=>Fp (by show X.A.units+1+1+4<cLine;omega) (I.hok.kept λb o e=>kp b o (kk b o e)) A2 vl2 ne2 h2,λjx h' l p u kp hl gl=>?_⟩;obtain⟨e,gl⟩:=gl;have lv2:vs.length=rs2.length:=()
 rw[lv2] at p u;have szl:s.heap.objs.size<=l:=by
  have hl:h1.objs.size<=l:=hl;omega
 have at_:∀i∈jx.toList,∃x v,ys2[i]? = some x/\vs[i]? = some v/\RelV x v:=λi hi=>by
  have hn:=p.mem hi;obtain⟨x,hx⟩:∃x,ys2[i]? = some x:=⟨ys2[i]'(),Zqg ()⟩;obtain⟨v,hv,rr⟩:=vl2.get hx;exact⟨x,v,hx,hv,rr⟩
 have sp:=BN zaP p u;have se:JO rltB rs2=JO rltB rs:=XN zaP (((Qz (ltb:=rltB) rs2).trans p2).trans (Qz (ltb:=rltB) rs).symm) (Wl zaP rs2) (Wl zaP rs);have fin:=q l (jx.toList.map λi=>ys2.getD i .non) (I.hok.fresh szl) λG hG=>by
  have:=A1 (g2 G hG) jx.toList λi hi=>p.mem hi;rw[sp,se] at this;exact this
 refine⟨.ref l,upd H l (.lst (jx.toList.map λi=>ys2.getD i .non)),I.laid (a:=l) (o:=.lst (jx.toList.map λi=>ys2.getD i .non)) (t':=tk) (λb o e=>kp b o (kk b o e)) szl ⟨?_,jx.toList.map (nthV vs),e,?_,?_⟩,rfl,fin⟩
 .rw[Zql,p.len];exact QL ()
 .refine WX λi hi=>?_;obtain⟨x,v,hx,hv,rr⟩:=at_ i hi;unfold nthV;rw[Qe hx,Qe hv];exact rr
 .rw[gl]
  congr 3
  apply Array.ext';simp
end
end L2.ST
namespace L2.DL
open PySem PySem.Spec PyProof.Rows L2.ST
def YE:Yy->Yz
 | [.lst ds]=>(Qh Kj ds).bind λrs=>if(∀r∈rs,r ≠ [])/\(dedR rs).length<64/\rs.length<=999 then some (.lst ((JO rltB (dedR rs)).map rwD)) else none
 |_=>none
section
variable {X:Cx}{E:XK}{fr:FA}{es:Yj}{e:Expr}
def Rx (h:∀{ta:TA},PA X es ta->PE X e (tCB (Ht X.w) (ZQ (tCB (Hs X.w) ta) tNil)))(ha:QA X E es fr):QN X E e (dBlt YE fr):=PE.weak (h ha) λZ H Q ⟨B,F,sd,r,n⟩=>by
 refine⟨B,F,sd,r,(Res.need_bind n).mono (λds n1 vs F1 H1 e1 i1=>?_) λ_ _ q=>q⟩;obtain⟨z,hz,q⟩:=Res.need_ofO n1;unfold YE at hz
 split at hz
 .obtain⟨rs,h1,hz⟩:=Jg.mp hz
  split at hz
  .rename_i hc;obtain rfl:=Zqi hz;obtain⟨v,rfl,h⟩:=Qu i1;rw[BX h1,IsD.lst_iff] at h;obtain⟨a,ys,rfl,g1,g2⟩:=h;refine⟨a,ys,rs,rfl,g1.same e1.fh,zcP.mp (IsDs.same e1.fh _ _ g2),hc.2.2,λS hS=>?_⟩;have sn:=Kh hS (SetO X.w S ((dedI rs rs.length).map λi=>ys.getD i .non));have pk:∀G,zau G (rs.map rD) ys->zau G ((dedR rs).map rD) ((dedI rs rs.length).map λi=>ys.getD i .non):=λG hG=>A1 hG _ λi hi=>WK rs _ i hi;refine⟨S,_,dedR rs,rfl,JL,pk _ (zau.same sn _ _ (zcP.mp (IsDs.same e1.fh _ _ g2))),λr hr=>hc.1 r (zgz.mp hr),hc.2.1,λl zs hl hG=>?_⟩;have hlS:l≠S:=λz=>by rw[z,JL] at hl;cases hl
   have hl1:H1 l=none:=by rw[JC hlS] at hl;exact hl
   have ek:Ext F1 H1 F1 (upd H1 S (SetO X.w S ((dedI rs rs.length).map λi=>ys.getD i .non))):=.keep e1.fh hS _;exact(q.ext e1) l F1 _ (ek.trans (.keep ek.fh hl _)) hl1 (Qv e1.fh hl1) ⟨zs,JL,zcP.mpr (hG F1 (pk F1 (zcP.mp g2)))⟩
  .exact J3 hz
 .exact J3 hz
end
def bt_set:bootBuiltins "set" = some (.type "set"):=by kernel_rfl
def Ry (h:∀r∈rs,r ≠ [])(h2:(dedR rs).length<64)(h3:rs.length<=999):YE [.lst (rs.map rwD)]=some (.lst ((JO rltB (dedR rs)).map rwD)):=by
 show(Qh Kj (rs.map rwD)).bind _=_;rw[XX];exact Zd ⟨h,h2,h3⟩
end L2.DL
namespace L2.ST
def llB (a b:Jx):Bool:=decide (a.length<b.length)||(decide (a.length=b.length)&&rltB a b)
def WL:llB a b=true↔a.length<b.length\/(a.length=b.length/\rltB a b=true):=by
 unfold llB;rw[UU,Uc,decide_eq_true_iff,decide_eq_true_iff]
def C9:llB a b=false↔b.length<a.length\/(a.length=b.length/\rltB a b=false):=by
 cases q:llB a b with
 |true =>
  rw[WL] at q;constructor
  .intro z;cases z
  .rintro(z|⟨z1,z2⟩)
   .rcases q with q|⟨q1,q2⟩<;>omega
   .rcases q with q|⟨q1,q2⟩
    .omega
    .rw[z2] at q2;exact JB q2
 |false =>
  refine⟨λ_=>?_,λ_=>rfl⟩;have nq:¬(llB a b=true):=by rw[q];simp
  rw[WL] at nq;rcases UN a.length b.length with z|z|z
  .exact Zn (.inl z) nq
  .refine .inr ⟨z,?_⟩;cases w:rltB a b with
   |true=>exact Zn (.inr ⟨z,w⟩) nq
   |false=>rfl
  .exact .inl z
def zfI:Tot llB where
 asy:=λa b h=>by
  rw[WL] at h;rw[C9];rcases h with h|⟨h1,h2⟩
  .exact .inl h
  .exact .inr ⟨h1.symm,zaP.asy _ _ h2⟩
 neg:=λa b c h=>by
  rw[WL] at h;rw[WL,WL];rcases h with h|⟨h1,h2⟩
  .rcases UN a.length b.length with z|z|z
   .exact .inl (.inl z)
   .exact .inr (.inl ())
   .exact .inr (.inl ())
  .rcases UN a.length b.length with z|z|z
   .exact .inl (.inl z)
   .rcases zaP.neg a b c h2 with y|y
    .exact .inl (.inr ⟨z,y⟩)
    .exact .inr (.inr ⟨(),y⟩)
   .exact .inr (.inl ())
 tot:=λa b h1 h2=>by
  rw[C9] at h1 h2;rcases h1 with h1|⟨h1,h3⟩<;>rcases h2 with h2|⟨h2,h4⟩
  .omega
  .omega
  .omega
  .exact zaP.tot _ _ h3 h4
def Rz (hs:l.Pairwise λa b=>rltB a b=true)(p:Pl l.length jx l.length)(u:Up (λi j=>decide (((l.getD i []).length:Int)<((l.getD j []).length:Int))) jx l.length):jx.toList.map (λi=>l.getD i [])=JO llB l:=by
 refine XN zfI ?_ ?_ (Wl zfI l)
 .refine List.Perm.trans ?_ (Qz (ltb:=llB) l).symm;have q:jx.toList.Perm (List.range l.length):=by
   have:=Jr.mp p.perm;simpa using this
  refine(q.map _).trans (List.Perm.of_eq ?_);apply List.ext_getElem
  .simp
  .intro i h1 h2;simp[h2]
 .refine Jl.mpr λa b ha hb ab=>?_;rw[VO,VO];have sz:jx.toList.length=l.length:=by rw[Ui,p.size]
  rw[Zql] at ha hb;have ea:jx.toList[a]=gx jx a:=by
   unfold gx;rw[Us (by rw[p.size];omega)];simp
  have eb:jx.toList[b]=gx jx b:=by
   unfold gx;rw[Us (by rw[p.size];omega)];simp
  rw[ea,eb];have la:=p.lt (Zf _) (show a<l.length from ());have lb:=p.lt (Zf _) (show b<l.length from ());have bf:=u a b ab ();generalize gx jx a=i at bf la;generalize gx jx b=j at bf lb;show llB (l.getD j []) (l.getD i [])=false;rw[C9];rcases bf with bf|⟨bf,ij⟩
  .have:=of_decide_eq_true bf;exact .inl ()
  .have:=of_decide_eq_false bf;rcases VF (l.getD i []).length (l.getD j []).length with z|z
   .exact .inl z
   .refine .inr ⟨(),zaP.asy _ _ ?_⟩;have:=Jl.mp hs i j la lb ij;rw[Qe (Zqg la),Qe (Zqg lb)];exact this
section
variable {prog:Program}{w:World}{A:Around}{E:Ya}{s:Shared}
def R0 (hk:IntsAre keys kz)(hl:kz.length=vs.length):Orc prog w A s oneType' (λi=>(nthV keys i,nthV vs i)) (λi j=>decide (kz.getD i 0<kz.getD j 0)) vs.length:=by
 have at_:∀{keys:Yd} {kz:Ye},IntsAre keys kz->∀i,i<kz.length->∃t,nthV keys i=.int (kz.getD i 0) t:=by
  intro keys kz h
  induction h with
  |nil=>intro i hi;exact Zn hi (Uw _)
  |cons n t _ ih =>
   intro i hi;cases i with
   |zero=>exact⟨t,rfl⟩
   |succ i=>exact ih i (by simpa using hi)
 intro i j hi hj E Q hq;obtain⟨t,e1⟩:=at_ hk i ();obtain⟨u,e2⟩:=at_ hk j ();show YB prog w A (keyLt' oneType' (nthV keys i) (nthV keys j)) Q E s;rw[e1,e2];exact W.kat_lt_int hq
def R3 (kz:Ye):Wk λi j=>decide (kz.getD i 0<kz.getD j 0):=
 ⟨λi j h=>by have:=of_decide_eq_true h;exact Zo (),λi j k h=>by
  have:=of_decide_eq_true h;rcases Int.lt_or_le (kz.getD i 0) (kz.getD j 0) with q|q
  .exact .inl (Zp q)
  .exact .inr (Zp ())⟩
def R4 (hk:IntsAre keys.toList kz)(hl:kz.length=vs.length)(h64:vs.length<64)(hka:kS≠a)
 (hK:s.heap.get? kS=some (seqObj "list" keys e)) (hA:s.heap.get? a=some (seqObj "list" #[] e1))
 (h:∀jx h',Pl vs.length jx vs.length->Up (λi j=>decide (kz.getD i 0<kz.getD j 0)) jx vs.length->(∀b o,b≠kS->b≠a->s.heap.get? b=some o->h'.get? b=some o)->(∃c,h'.get? a=some (seqObj "list" (jx.map (nthV vs)) c))->P (.done (.ret .none)) { s with heap:=h' }):
 YB prog w A (ksk_end a false vs.toArray e1 (.ref kS) keys) P E s:=by
 have hsz:keys.size=vs.length:=by
  have h1:=hk.length;rw[Ui] at h1;omega
 have kl:keys=keys.toList.toArray:=Array.toArray_toList.symm;have zr:keys.zip vs.toArray=(Array.range vs.length).map λi=>(nthV keys.toList i,nthV vs i):=by
  apply Array.ext_getElem?;intro k;rw[U7];by_cases hk':k<vs.length
  .rw[VA,Zd hk'];have e:nthV vs k=vs[k]:=by unfold nthV;rw[Ua,Zqg hk'];rfl
   have e2:nthV keys.toList k=keys[k]'():=by unfold nthV;rw[Ua,Zqg (by rw[Ui];omega)];simp
   simp[Array.getElem?_zip_eq_some,hk',hsz,e,e2]
  .rw[VA,Ze hk',Vg (by simp;omega)];rfl
 have tail:∀(st:SortSt) (jx:Yf),arrOf st=jx.map (λi=>(nthV keys.toList i,nthV vs i))->failedOf st=none->Pl vs.length jx vs.length->Up (λi j=>decide (kz.getD i 0<kz.getD j 0)) jx vs.length->YB prog w A (ksk_tail a false e1 (.ref kS) st) P E s:=by
  intro st jx q1 q2 q3 q4;have ms:(arrOf st).map (·.2)=jx.map (nthV vs):=by rw[q1,Array.map_map];rfl
  unfold ksk_tail;dsimp only;rw[ms,q2];obtain⟨c1,g1⟩:∃c1,(s.heap.update kS (Obj.mapSeq λ_ => #[])).get? kS=some (seqObj "list" #[] c1):=⟨_,get?_update_seq hK (λ_ => #[])⟩;have hA1:(s.heap.update kS (Obj.mapSeq λ_ => #[])).get? a=some (seqObj "list" #[] e1):=by rw[Heap.get?_update_ne _ _ _ _ (Ne.symm hka)];exact hA
  refine Za (listUpdate_at hK rfl ?_ (by rw[hsz,sizeLine_eq];omega) (Ue _));refine Za (wpAny_letGo ?_);refine Za (seqEpoch_at (s:={ s with heap:=s.heap.update kS (Obj.mapSeq λ_ => #[]) }) hA1 rfl (Za (listUpdate_at (s:={ s with heap:=s.heap.update kS (Obj.mapSeq λ_ => #[]) }) hA1 rfl ?_ (Ue _) (by rw[Ze Zj,Ut,q3.size,sizeLine_eq];omega))));simp only[bne_self_eq_false,Uf,if_false];refine Zb (h jx _ q3 q4 (λb o hb hb2 eb=>?_) ?_)
  .show((s.heap.update kS (Obj.mapSeq λ_ => #[])).update a (Obj.mapSeq λ_=>jx.map (nthV vs))).get? b=some o;rw[Heap.get?_update_ne _ _ _ _ hb2,Heap.get?_update_ne _ _ _ _ hb];exact eb
  .exact⟨_,get?_update_seq hA1 (λ_=>jx.map (nthV vs))⟩
 unfold ksk_end;dsimp only;simp only[Uf,if_false];by_cases h2:vs.toArray.size<2
 .rw[Zd h2,Zd h2];refine Za (Zb ?_);rw[StateT.run_pure];refine Za (Zb ?_);refine tail _ (Array.range vs.length) zr rfl (ZZ _ _ (Zf _)) λi j ij jn=>?_;rw[Zm] at h2;omega
 .rw[Ze h2,Ze h2];rw[Zm] at h2;rw[ksk_kind hk (by rw[hsz];omega)];refine Za (Zb ?_);refine Za (Zc (Fd (R3 kz) (R0 hk hl) (ix:=Array.range vs.length) (st:=SortSt.mk' oneType' (keys.zip vs.toArray) #[] 7 none) (Q:=λ_ st'=>∃jx,arrOf st'=jx.map (λi=>(nthV keys.toList i,nthV vs i))/\failedOf st'=none/\Pl vs.length jx vs.length/\Up (λi j=>decide (kz.getD i 0<kz.getD j 0)) jx vs.length)
   ⟨zr,rfl,rfl,rfl⟩ (ZZ _ _ ()) () h64 λjx st' a1 a2 a3 a4=>⟨jx,a1,a2,a3,a4⟩) ?_ λ_ _ e=>e)
  rintro⟨⟨⟩,st'⟩ s' ⟨rfl,jx,q1,q2,q3,q4⟩;exact tail st' jx q1 q2 q3 q4
def R5 {a kS:Addr}{f:Value}{vs:Yd}{kz:Ye}{e1:Nat}{P:PySem.Fin->Yu}(hl:kz.length=vs.length)(h64:vs.length<64)(hka:kS≠a)
 (hK:s.heap.get? kS=some (seqObj "list" #[] 0)) (hA:s.heap.get? a=some (seqObj "list" #[] e1))
 (turn:∀(i:Nat) (v:Value) (k:Int),vs[i]? = some v->kz[i]? = some k->∀(h:Heap) (tk:Nat),(∀b o,b≠kS->b≠a->s.heap.get? b=some o->h.get? b=some o) ->
  YB prog w A (call f [v]) (λr s'=>∃t tk',r=.int k t/\s'={ s with heap:=h,toks:=tk' }) (λ_ _=>False) { s with heap:=h,toks:=tk })
 (h:∀jx h' tk,Pl vs.length jx vs.length->Up (λi j=>decide (kz.getD i 0<kz.getD j 0)) jx vs.length->(∀b o,b≠kS->b≠a->s.heap.get? b=some o->h'.get? b=some o)->(∃c,h'.get? a=some (seqObj "list" (jx.map (nthV vs)) c))->P (.done (.ret .none)) { s with heap:=h',toks:=tk }):
 YB prog w A (ksk_rest a f false vs.toArray e1 (.ref kS)) P E s:=by
 unfold ksk_rest;refine Za (wpAny_rule ?_)
 first
  |rw[List.forIn_toArray]
  | (rw[<- Vt];simp only[List.toList_toArray])
  |rw[<- Vt]
 refine Za (ksk_fold (λi s'=>∃h' tk kA e,s'={ s with heap:=h',toks:=tk }/\(∀b o,b≠kS->s.heap.get? b=some o->h'.get? b=some o)/\h'.get? kS=some (seqObj "list" kA e)/\IntsAre kA.toList (kz.take i)) vs 0 s
  ⟨s.heap,s.toks,#[],0,rfl,λ_ _ _ e=>e,hK,by simpa using IntsAre.nil⟩ ?step ?done)
 case step =>
  rintro j x s' hx ⟨h',tk,kA,e,rfl,kk,hk1,hk⟩;simp only[U8] at hk ⊢;have hj:j<vs.length:=(Jb.mp hx).1;obtain⟨k,hkj⟩:∃k,kz[j]? = some k:=⟨_,Zqg ()⟩;have hz:kA.size<=vs.length:=by
   have h1:=hk.length;rw[Ui,Uj] at h1;omega
  refine Za (wpAny_attempt (Zc (turn j x k hx hkj h' tk λb o hb _ eb=>kk b o hb eb) (λv s'' he=>?_) λ_ _ hF=>hF.elim));obtain⟨t2,tk2,rfl,rfl⟩:=he
  try dsimp only
  obtain⟨c2,hc2⟩:∃c2,(h'.update kS (Obj.mapSeq (·.push (.int k t2)))).get? kS=some (seqObj "list" (kA.push (.int k t2)) c2):=⟨_,get?_update_seq hk1 (·.push (.int k t2))⟩;have ek:kz.take (j+1)=kz.take j++[k]:=by rw[List.take_add_one,hkj];simp
  have ea:(kA.push (Value.int k t2)).toList=kA.toList++[Value.int k t2]:=by simp
  refine Za (listUpdate_at (s:={ s with heap:=h',toks:=tk2 }) hk1 rfl ?_ (by rw[sizeLine_eq];omega) (Zh (Yq (Array.size_push ..)) (by rw[sizeLine_eq];omega)));refine Zb ⟨rfl,_,_,kA.push (.int k t2),c2,rfl,λb o hb eb=>?_,hc2,by rw[ea,ek];exact ksk_snoc hk⟩;show(h'.update kS (Obj.mapSeq (·.push (.int k t2)))).get? b=some o;rw[Heap.get?_update_ne _ _ _ _ hb];exact kk b o hb eb
 case done =>
  rintro s' ⟨h',tk,kA,e,rfl,kk,hk1,hk⟩;have hk':IntsAre kA.toList kz:=by
   have e3:kz.take (0+vs.length)=kz:=Vb ();rw[e3] at hk;exact hk
  try dsimp only
  refine Za (listItems_at (s:={ s with heap:=h',toks:=tk }) hk1 rfl ?_);exact R4 (s:={ s with heap:=h',toks:=tk }) hk' hl h64 hka hk1 (kk a _ (Ne.symm hka) hA) λjx h2 p u k2 g=>h jx h2 tk p u (λb o hb hb2 eb=>k2 b o hb hb2 (kk b o hb eb)) g
def R6 {a:Addr}{f:Value}{vs:Yd}{kz:Ye}{n:Nat}{P:PySem.Fin->Yu}(ho:s.heap.get? a=some (seqObj "list" vs.toArray n))(hl:kz.length=vs.length)(h64:vs.length<64)
 (turn:∀(i:Nat) (v:Value) (k:Int),vs[i]? = some v->kz[i]? = some k->∀(h:Heap) (tk:Nat),(∀b o,b≠a->s.heap.get? b=some o->h.get? b=some o) ->
  YB prog w A (call f [v]) (λr s'=>∃t tk',r=.int k t/\s'={ s with heap:=h,toks:=tk' }) (λ_ _=>False) { s with heap:=h,toks:=tk })
 (h:∀jx h' tk,Pl vs.length jx vs.length->Up (λi j=>decide (kz.getD i 0<kz.getD j 0)) jx vs.length->(∀b o,b≠a->s.heap.get? b=some o->h'.get? b=some o)->(∃c,h'.get? a=some (seqObj "list" (jx.map (nthV vs)) c))->P (.done (.ret .none)) { s with heap:=h',toks:=tk }):
 YB prog w A (ksk_tree a f false) P E s:=by
 have la:a<s.heap.objs.size:=Zk ho;obtain⟨e1,ho1⟩:∃e1,(s.heap.update a (Obj.mapSeq λ_=>(#[]:Yk))).get? a=some (seqObj "list" #[] e1):=⟨_,get?_update_seq ho λ_ => #[]⟩;have hkS:((s.heap.update a (Obj.mapSeq λ_=>(#[]:Yk))).push (seqObj "tuple" vs.toArray 0)).objs.size=s.heap.objs.size+1:=by rw[size_push',Heap.size_update]
 unfold ksk_tree;refine Za (listItems_at ho rfl ?_);refine Za (listUpdate_at ho rfl ?_ (by rw[Zm,sizeLine_eq];omega) (Ue _));refine Za (seqEpoch_at ho1 rfl ?_);refine Za (wpAny_newTuple ?_ (by show vs.length<=_;rw[sizeLine_eq];omega));refine Za (wpAny_newList ?_ (Ue _));refine wpAny_holding ?_;have hlt:∀{b o},s.heap.get? b=some o->b≠s.heap.objs.size/\b≠s.heap.objs.size+1:=λe=>⟨Zi (Zk e),Zi (UD (Zk e))⟩;have keep:∀b o,b≠a->s.heap.get? b=some o->(((s.heap.update a (Obj.mapSeq λ_=>(#[]:Yk))).push (seqObj "tuple" vs.toArray 0)).push (seqObj "list" #[] 0)).get? b=some o:=λb o hb e=>by
  refine Zq _ (Zq _ ?_);rw[Heap.get?_update_ne _ _ _ _ hb];exact e
 refine R5 (s:={ s with heap:=((s.heap.update a (Obj.mapSeq λ_=>(#[]:Yk))).push (seqObj "tuple" vs.toArray 0)).push (seqObj "list" #[] 0) }) (kS:=((s.heap.update a (Obj.mapSeq λ_=>(#[]:Yk))).push (seqObj "tuple" vs.toArray 0)).objs.size)
  hl h64 (by rw[hkS];exact U1 (UD la)) (Zr _ rfl) (Zq _ (Zq _ ho1))
  (λi v k hv hk h' tk kk=>turn i v k hv hk h' tk λb o hb e=>kk b o (by rw[hkS];exact(hlt e).2) hb (keep b o hb e))
  (λjx h' tk p u kk g=>h jx h' tk p u (λb o hb e=>kk b o (by rw[hkS];exact(hlt e).2) hb (keep b o hb e)) g)
end
section
variable {X:Cx}
def Hu:Yw->Hp->VK->Prop:=λxs H Q=>∃a ys rs,xs=[.ref a]/\Rd H a (.lst ys)/\zau H (rs.map rD) ys/\rs.Pairwise (λa b=>rltB a b=true)/\rs.length<64/\(∀r∈rs,r.length<=1000) /\
 ∀l zs,H l=none->(∀G,zau G (rs.map rD) ys->zau G ((JO llB rs).map rD) zs)->Q (.ref l) (upd H l (.lst zs))
def R7 {Y:Yb}{Z: St}{H:Hp}{s:Shared}{a:Addr}{ys:Yw}{rs:Jy}{Q:VK}(I:Inv X Y Z H s)(ha:Rd H a (.lst ys))(hA:zau H (rs.map rD) ys)(hs:rs.Pairwise (λa b=>rltB a b=true))(h64:rs.length<64)(hrl:∀r∈rs,r.length<=1000)
 (q:∀l zs,H l=none->(∀G,zau G (rs.map rD) ys->zau G ((JO llB rs).map rD) zs)->Q (.ref l) (upd H l (.lst zs))):
 YA X (call (.builtin "sorted") [.ref a] [(Str.ofString "key",.builtin "len")]) (EP X Y Z Q) X.xe s:=by
 obtain⟨its,ri,pl,hz⟩:=I.list (.inl ha);have l1:=hA.length;have l2:=ri.length;rw[Zql] at l1;have lw:its.length=rs.length:=()
 have hl:=pl.isList;have keep:∀b o,s.heap.get? b=some o->(((s.heap.push (seqObj "list" #[] 0)).update s.heap.objs.size (Obj.mapSeq (· ++ its.toArray))).push (seqObj "list" its.toArray 0)).get? b=some o:=λb o q=>by
  have hlt:b<s.heap.objs.size:=Zk q;refine Zq _ ?_;rw[Heap.get?_update_ne _ _ _ _ (Zi hlt),Heap.get?_push_ne _ _ _ (Zi hlt)];exact q
 have hsz:((s.heap.push (seqObj "list" #[] 0)).update s.heap.objs.size (Obj.mapSeq (· ++ its.toArray))).objs.size=s.heap.objs.size+1:=by
  rw[Heap.size_update,size_push']
 have hoL:(((s.heap.push (seqObj "list" #[] 0)).update s.heap.objs.size (Obj.mapSeq (· ++ its.toArray))).push (seqObj "list" its.toArray 0)).get? (s.heap.objs.size+1)=some (seqObj "list" its.toArray 0):=by
  rw[<- hsz];exact Zr _ rfl
 refine call_function_entry_kw kind_sorted plain_sorted entry_sorted (ksk_s1 _ _) ?_;unfold Builtin.«sorted»;refine Za (m:=checkCount "sorted" 1 1 _) (Zb ?_);refine Za (collect_list hl ?_ (by rw[lw,sizeLine_eq];omega));refine Za (wpAny_newList ?_ (by rw[lw,sizeLine_eq];omega));show wpAny _ _ _ _ _ { s with heap:=((s.heap.push (seqObj "list" #[] 0)).update s.heap.objs.size (Obj.mapSeq (· ++ its.toArray))).push (seqObj "list" its.toArray 0) };rw[hsz];generalize hH:((s.heap.push (seqObj "list" #[] 0)).update s.heap.objs.size (Obj.mapSeq (· ++ its.toArray))).push (seqObj "list" its.toArray 0)=hp at keep hoL;refine Za (wpAny_holding (wpAny_call_entry_kw slot_list_sort ⟨_,hoL,rfl⟩ entry_list_sort ?body (ksk_l1 _ _)))
 case body =>
  show wpAny (model X.prog X.w) X.A.in1.in1 (Builtin.«list.sort» ⟨[.ref (s.heap.objs.size+1)],[(Str.ofString "key",.builtin "len")]⟩) _ _ _;rw[ksk_t4];refine R6 (s:={ s with heap:=hp }) (kz:=rs.map λr=>(r.length:Int)) hoL (by rw[Zql];omega) () (λi v k hv hk h' tk kk=>?_) λjx h' tk p u kk g=>⟨_,rfl,Zb ⟨_,rfl,?_⟩⟩
  .have hi:i<rs.length:=by
    have:=(Jb.mp hk).1
    rwa [Zql] at this
   obtain⟨x,hx,hI⟩:=hA.get (i:=i) (d:=rD (rs.getD i [])) (by rw[Zv,Zqg hi,Qe (Zqg hi)];rfl);obtain⟨v',hv',rr⟩:=ri.get hx;rw[hv] at hv';obtain rfl:=Zqi hv';obtain⟨b,o,ws,m,R⟩:=BO I.hok hI rr;obtain rfl:v=Value.ref b:=R.isv;have hb:b≠s.heap.objs.size+1:=Zi (UD (Zk R.get));have ht:IsTup h' b ws.toArray:=⟨o,kk b o hb (keep b o R.get),R.cls,m,R.dat⟩;have lws:ws.length=(rs.getD i []).length:=R.prs.1;have ek:k=((rs.getD i []).length:Int):=by
    rw[Zv,Zqg hi] at hk;rw[Qe (Zqg hi)];exact(Zqi hk).symm
   have lrow:(rs.getD i []).length<=1000:=by
    rw[Qe (Zqg hi)];exact hrl _ (UG hi)
   have ev:Value.int ((ws.toArray.size:Nat):Int) (tk+1)=Value.int k (tk+1):=by rw[Zm,lws,ek]
   exact len_tuple (s:={ s with heap:=h',toks:=tk }) ht (by rw[Zm,lws];omega) ⟨tk+1,tk+1+1,ev,rfl⟩
  .obtain⟨c,g⟩:=g;have kk':∀b o,s.heap.get? b=some o->h'.get? b=some o:=λb o e=>kk b o (Zi (UD (Zk e))) (keep b o e);rw[lw] at p u;have ud:(λi j=>decide ((rs.map λr=>(r.length:Int)).getD i 0<(rs.map λr=>(r.length:Int)).getD j 0))=λi j=>decide (((rs.getD i []).length:Int)<((rs.getD j []).length:Int)):=by
    have e:∀i,(rs.map λr=>(r.length:Int)).getD i 0=((rs.getD i []).length:Int):=λi=>by
     rw[Ua,Zv,Ua];cases rs[i]?<;>rfl
    funext i j
    rw[e,e]
   rw[ud] at u;have sp:=Rz hs p u;have szl:s.heap.objs.size<=s.heap.objs.size+1:=Vd _;have at_:∀i∈jx.toList,∃x v,ys[i]? = some x/\its[i]? = some v/\RelV x v:=λi hi=>by
    have hn:=p.mem hi;obtain⟨x,hx⟩:∃x,ys[i]? = some x:=⟨ys[i]'(),Zqg ()⟩;obtain⟨v,hv,rr⟩:=ri.get hx;exact⟨x,v,hx,hv,rr⟩
   have fin:=q (s.heap.objs.size+1) (jx.toList.map λi=>ys.getD i .non) (I.hok.fresh szl) λG hG=>by
    have:=A1 hG jx.toList λi hi=>p.mem hi;rw[sp] at this;exact this
   refine⟨.ref (s.heap.objs.size+1),upd H (s.heap.objs.size+1) (.lst (jx.toList.map λi=>ys.getD i .non)),I.laid (a:=s.heap.objs.size+1) (o:=.lst (jx.toList.map λi=>ys.getD i .non)) (t':=tk) kk' szl ⟨?_,jx.toList.map (nthV its),c,?_,?_⟩,rfl,fin⟩
   .rw[Zql,p.len];exact QL ()
   .refine WX λi hi=>?_;obtain⟨x,v,hx,hv,rr⟩:=at_ i hi;unfold nthV;rw[Qe hx,Qe hv];exact rr
   .rw[g]
    congr 3
    apply Array.ext';simp
def pe_sortLen (hg:Gl X "sorted")(hm:X.mg "sorted" = none)(hg2:Gl X "len")(hm2:X.mg "len" = none)(ha:PA X [e] t)
 (he:backTo pos (starEach [e] X.env)=(false,eval e X.env)::backTo pos (starEach [] X.env):=by rfl) (hpl:(backTo pos (starEach [e] X.env)).any (·.1)=false:=by rfl):PE X (.Call (.Name "sorted" p) [e] [⟨some "key",.Name "len" lp,kp⟩] pos) (tCB Hu t):=by
 intro Y s Z H Q I h;refine wpAny_Call_Name_kw (WT I hg hm (show bootBuiltins "sorted" = some (.builtin "sorted") by kernel_rfl) ?_ (by decide) (by decide));refine callWith_kw (thn (ha pos Y s Z H _ I h) λus s1 ⟨vs,H1,I1,r1,q1⟩=>?_) he hpl;refine kws_cons (WT I1 hg2 hm2 boot_len ?_ (by decide) (by decide));refine kws_nil ?_;obtain⟨a,ys,rs,rfl,h1,h2,h3,h4,h5,q⟩:=q1;obtain⟨u,rfl,ru⟩:=Q7 r1;obtain rfl:u=Value.ref a:=ru;exact R7 I1 h1 h2 h3 h4 h5 q
end
end L2.ST
namespace L2.DL
open PySem PySem.Spec PyProof.Rows L2.ST
def YF:Yy->Yz
 | [.lst ds]=>(Qh Kj ds).bind λrs=>if rs.Pairwise (λa b=>rltB a b=true)/\rs.length<64/\∀r∈rs,r.length<=1000 then some (.lst ((JO llB rs).map rwD)) else none
 |_=>none
section
variable {X:Cx}{E:XK}{fr:FA}{es:Yj}{e:Expr}
def R8 (h:∀{ta:TA},PA X es ta->PE X e (tCB Hu ta))(ha:QA X E es fr):QN X E e (dBlt YF fr):=PE.weak (h ha) λZ H Q ⟨B,F,sd,r,n⟩=>by
 refine⟨B,F,sd,r,(Res.need_bind n).mono (λds n1 vs F1 H1 e1 i1=>?_) λ_ _ q=>q⟩;obtain⟨z,hz,q⟩:=Res.need_ofO n1;unfold YF at hz
 split at hz
 .obtain⟨rs,h1,hz⟩:=Jg.mp hz
  split at hz
  .rename_i hc;obtain rfl:=Zqi hz;obtain⟨v,rfl,h⟩:=Qu i1;rw[BX h1,IsD.lst_iff] at h;obtain⟨a,ys,rfl,g1,g2⟩:=h;refine⟨a,ys,rs,rfl,g1.same e1.fh,zcP.mp (IsDs.same e1.fh _ _ g2),hc.1,hc.2.1,hc.2.2,λl zs hl hG=>?_⟩;exact(q.ext e1) l F1 _ (.keep e1.fh hl _) hl (Qv e1.fh hl) ⟨zs,JL,zcP.mpr (hG F1 (zcP.mp g2))⟩
  .exact J3 hz
 .exact J3 hz
end
def R9 (h:rs.Pairwise (λa b=>rltB a b=true))(h2:rs.length<64)(h3:∀r∈rs,r.length<=1000):YF [.lst (rs.map rwD)]=some (.lst ((JO llB rs).map rwD)):=by
 show(Qh Kj (rs.map rwD)).bind _=_;rw[XX];exact Zd ⟨h,h2,h3⟩
def Hv (i j:Nat):FE:=λsd=>match sd[i]?,sd[j]? with
 |some (some (.own _ (.lst a))),some (some (.own _ (.lst b)))=>if a.length+b.length<=1000 then .ok (.lst (a++b)) else .no
 |_,_=>.no
@[simp]def zxi (i j:Nat)(sd:SD):Hv i j sd=(ownV sd[i]?).bind λd=>(Xj d).bind λa=>(ownV sd[j]?).bind λe=>(Xj e).bind λb=>if a.length+b.length<=1000 then .ok (.lst (a++b)) else .no:=by
 unfold Hv;cases sd[i]? with
 |none=>rfl
 |some o =>
  cases o with
  |none=>rfl
  |some v =>
   cases v with
   |val d=>rfl
   |own p d =>
    cases d with
    |lst ds =>
     cases sd[j]? with
     |none=>rfl
     |some o =>
      cases o with
      |none=>rfl
      |some v =>
       cases v with
       |val d=>rfl
       |own p d=>cases d<;>rfl
    |_=>rfl
noncomputable def idxD (ds:Yy)(d:D):Option Nat:=ds.findIdx? λe=>sameD e d
noncomputable def Hw (ds:Yy):Yy->Yz
 | [d]=>if(plN 12 d&&ds.all (plN 12))=true then(idxD ds d).map (λi:Nat=>D.int (i:Int)) else none
 |_=>none
noncomputable def Hx (fo fa:FE):FE:=λsd=>(fo sd).bind λo=>match o with
 | .lst ds=>(Jz fa dNil sd).bind λas=>.ofO (Hw ds as)
 |_=>.no
@[simp]def ev_index (fo fa:FE)(sd:SD):Hx fo fa sd=(fo sd).bind λo=>(Xj o).bind λds=>(fa sd).bind λd=>.ofO (Hw ds [d]):=by
 unfold Hx;cases fo sd with
 |ok o =>
  cases o with
  |lst ds =>
   show(Jz fa dNil sd).bind _=(fa sd).bind _;unfold Jz dNil;cases fa sd<;>rfl
  |_=>rfl
 |_=>rfl
end L2.DL
namespace L2
end L2
namespace L2.DL
def Res.strict {α: Type}:Res α -> Res α
 | .ok a=>.ok a
 |_=>.no
@[simp]def Res.strict_ok {α: Type}(a:α):(Res.ok a).strict=.ok a:=rfl
@[simp]def Res.strict_no {α: Type}:(Res.no:Res α).strict=.no:=rfl
def RA (Fn:Yy->Res D)(fr:FA):FE:=λsd=>(fr sd).bind λds=>(Fn ds).strict
@[simp]def ev_call0 (Fn:Yy->Res D)(fr:FA)(sd:SD):RA Fn fr sd=(fr sd).bind λds=>(Fn ds).strict:=rfl
end L2.DL
namespace L2
def RB (h:n<1000000):n.log2<20:=by
 by_cases z:n=0
 .subst z;decide
 .exact(Nat.log2_lt z).mpr (Zg h (by decide))
section
variable {X:Cx}{x:Str}{v e:Expr}{tv:TE}{t:TA}{p1 p2 np cpos pos:Pos}{k}
def tFmt (x:Str)(tv:TE):TE:=λZ H Q=>tv Z H λy H1=>∃a:Int,y=.int a/\a.natAbs<1000000/\Q (.str (Str.empty++x++Str.ofString (toString a))) H1
def RC (hx:x.length<=1000)(hv:PE X v tv):PE X (.JoinedStr [.Constant (.str x) k p1,.FormattedValue v (-1) none p2] pos) (tFmt x tv):=by
 intro Y s Z H Q I h;refine wpAny_JoinedStr ?_;have z0:(Str.empty:Str).length=0:=rfl;have sl:sizeLine=_:=sizeLine_eq;show wpAny _ _ (eval (.Constant (.str x) k p1) X.env) _ _ s;refine thn (DS Y s Z H (λy H1=>y=.str x/\H1=H) I ⟨rfl,rfl⟩) λu s1 ⟨y,H1,I1,r1,e1,e2⟩=>?_;subst e1 e2;obtain⟨t1,rfl⟩:=r1;refine⟨x,t1,rfl,by rw[strLen_append,z0,sizeLine_eq];omega,?_⟩;show wpAny _ _ (eval (.FormattedValue v (-1) none p2) X.env) _ _ s1;refine wpAny_FormattedValue_plain (thn (hv Y s1 Z H1 _ I1 h) λu s2 ⟨y,H2,I2,r2,a,e1,ha,q⟩=>?_);subst e1;obtain⟨t2,rfl⟩:=r2;have lg:=RB ha;have ln:=int_text_length_le (a:=a) (k:=20) (by decide) lg;have lx:(Str.empty++x++Str.ofString (toString a)).length<=sizeLine:=by rw[strLen_append,strLen_append,z0,PySem.ofString_length,sizeLine_eq];omega
 refine wpAny_formatField_int () ⟨_,_,rfl,lx,lx,?_⟩;exact⟨.str (Str.empty++x++Str.ofString (toString a)),H2,I2.tok _,⟨_,rfl⟩,q⟩
end
end L2
namespace L2.DL
def gFmt (x:Str):D->Yz
 | .int a=>if Nat.ble a.natAbs 999999=true then some (.str (Str.empty++x++Str.ofString (toString a))) else none
 |_=>none
def RE (c:Str)(f:FE):FS:=λsd=>(f sd).bind λ_=>.ex c []
@[simp]def ev_raise (c:Str)(f:FE)(sd:SD):RE c f sd=(f sd).bind λ_=>.ex c []:=rfl
section
variable {X:Cx}{E:XK}{m:Option Bool}{x:Str}{v e:Expr}{fv fe:FE}{p1 p2 np cpos pos:Pos}{k}
def Hy (hx:x.length<=1000)(hv:QE X E v fv):QE X E (.JoinedStr [.Constant (.str x) k p1,.FormattedValue v (-1) none p2] pos) (dUn (gFmt x) fv):=
 PE.weak (RC hx hv) λZ H Q ⟨B,F,sd,r,n⟩=>by
  refine⟨B,F,sd,r,(Res.need_bind n).mono (λd n1 y F1 H1 e1 i1=>?_) λ_ _ q=>q⟩;obtain⟨z,hz,q⟩:=Res.need_ofO n1;unfold gFmt at hz
  split at hz
  .rename_i a
   split at hz
   .rename_i hc;obtain rfl:=Zqi hz;exact⟨a,IsD.int_iff.mp i1,by have:=Vs.mp hc;omega,q _ F1 H1 e1 (IsD.str_iff.mpr rfl)⟩
   .exact J3 hz
  .exact J3 hz
end
end L2.DL
namespace L2
end L2
namespace L2.DL
noncomputable def tryK (i:Nat)(c:Str)(gs:FS)(sd:SD):Res D->Res Out
 | .ok d=>.ok (.next (sd.set i (some (.val d))))
 | .ex c' [] => @ite _ (c'=c) (Classical.propDecidable _) (gs sd).strict .no
 |_=>.no
@[simp]def tryK_ok (i:Nat)(c:Str)(gs:FS)(sd:SD)(d:D):tryK i c gs sd (.ok d)=.ok (.next (sd.set i (some (.val d)))):=rfl
@[simp]def tryK_ex (i:Nat)(c:Str)(gs:FS)(sd:SD):tryK i c gs sd (.ex c [])=(gs sd).strict:=@if_pos _ (Classical.propDecidable _) rfl _ _ _
noncomputable def sTry (i:Nat)(c:Str)(Fn:Yy->Res D)(fr:FA)(gs:FS):FS:=λsd=>(fr sd).strict.bind λds=>tryK i c gs sd (Fn ds)
@[simp]def ev_try (i:Nat)(c:Str)(Fn:Yy->Res D)(fr:FA)(gs:FS)(sd:SD):sTry i c Fn fr gs sd=(fr sd).strict.bind λds=>tryK i c gs sd (Fn ds):=rfl
def A3 (g':D->D->Yz)(fc:FE)(sd:SD)(y:D):D->Res D
 | .bl true=>(fc sd).bind λw=>.ofO (g' y w)
 | .bl false=>.ok (.bl false)
 |_=>.no
@[simp]def chainK_t (g':D->D->Yz)(fc:FE)(sd:SD)(y:D):A3 g' fc sd y (.bl true)=(fc sd).bind λw=>.ofO (g' y w):=rfl
@[simp]def chainK_f (g':D->D->Yz)(fc:FE)(sd:SD)(y:D):A3 g' fc sd y (.bl false)=.ok (.bl false):=rfl
def Kl (g g':D->D->Yz)(fa fb fc:FE):FE:=λsd=>(fa sd).bind λx=>(fb sd).bind λy=>(Res.ofO (g x y)).bind (A3 g' fc sd y)
@[simp]def ev_chain (g g':D->D->Yz)(fa fb fc:FE)(sd:SD):Kl g g' fa fb fc sd=(fa sd).bind λx=>(fb sd).bind λy=>(Res.ofO (g x y)).bind (A3 g' fc sd y):=rfl
section
variable {X:Cx}{E:XK}{a b c:Expr}{fa fb fc:FE}{g g':D->D->Yz}{pos:Pos}
def RF {K:W.Frag}{Z: St}{H:Hp}{Q:VK}(h:tD K E (Kl g g' fa fb fc) Z H Q):Eh (rD2 K g) (rD2 K g') (tD K E fa) (tD K E fb) (tD K E fc) Z H Q:=by
 obtain⟨B,F,sd,r,n⟩:=h;refine⟨B,F,sd,r,(Res.need_bind n).mono (λx n1 v F1 H1 e1 i1=>?_) λ_ _ q=>q⟩;refine⟨B,F1,sd,r.step e1,(Res.need_bind n1).mono (λy n2 w F2 H2 e2 i2=>?_) λ_ _ q=>q.ext e1⟩;obtain⟨z,hz,n3⟩:=Res.need_ofO (Res.need_bind n2);refine⟨F2,x,y,z,e2.fh,IsD.same e2.ff _ _ i1,i2,hz,λv3 F3 H3 e3 i3=>?_⟩;cases z with
 |bl k =>
  refine⟨k,IsD.bl_iff.mp i3,?_⟩;cases k with
  |true =>
   rw[Zd rfl];refine⟨B,F3,sd,((r.step e1).step e2).step e3,(Res.need_bind n3).mono (λu n4 v4 F4 H4 e4 i4=>?_) λ_ _ q=>q.ext (e1.trans (e2.trans e3))⟩;obtain⟨z',hz',q⟩:=Res.need_ofO n4;exact⟨F4,y,u,z',e4.fh,IsD.same (e3.ff.trans e4.ff) _ _ i2,i4,hz',q.ext (e1.trans (e2.trans (e3.trans e4)))⟩
  |false =>
   rw[Ze (by decide)];exact n3 _ F3 H3 (e1.trans (e2.trans e3)) (IsD.bl_iff.mpr rfl)
 |_=>exact n3.elim
end
def delH (H:Hp)(l:Addr):Hp:=λa=>if a=l then none else H a
def RG:Same (delH H l) H:=λa o e=>by
 unfold delH at e
 split at e
 .exact J3 e
 .exact e
def RH:delH H l l=none:=by unfold delH;rw[Zd rfl]
def RI (h:a≠l):delH H l a=H a:=by unfold delH;rw[Ze h]
def Xl (n j:Nat)(ds:Yy):SD:=match ds[j]? with
 |some d=>(Q5 n ds).set j (some (.own false d))
 |none=>Q5 n ds
def Xm (n ar j:Nat)(g:FS)(ds:Yy):Res D:=if ds.length=ar then(g (Xl n j ds)).bind λo=>match o with
 | .ret d=>.ok d
 |_=>.no else .no
def A4 (n ar j:Nat)(g:FS)(ds:Yy)(h:ds.length=ar):Xm n ar j g ds=(g (Xl n j ds)).bind outN:=by
 unfold Xm;rw[Zd h];cases g (Xl n j ds) with
 |ok o=>cases o<;>rfl
 |ex c fs=>rfl
 |no=>rfl
@[simp]def run_nO2 (n:Nat)(g:FS)(a b:D):Xm n 2 0 g [a,b]=(g (some (.own false a)::some (.val b)::List.replicate (n-2) none)).bind outN:=A4 n 2 0 g [a,b] rfl
@[simp]def run_nO3 (n:Nat)(g:FS)(a b c:D):Xm n 3 0 g [a,b,c]=(g (some (.own false a)::some (.val b)::some (.val c)::List.replicate (n-3) none)).bind outN:=A4 n 3 0 g [a,b,c] rfl
@[simp]def run_nO4 (n:Nat)(g:FS)(a b c d:D):Xm n 4 0 g [a,b,c,d]=(g (some (.own false a)::some (.val b)::some (.val c)::some (.val d)::List.replicate (n-4) none)).bind outN:=A4 n 4 0 g [a,b,c,d] rfl
section
variable {X:Cx}{pos:Pos}
def CA:D->D->Yz
 | .lst a,.lst b=>if a.length+b.length<=sizeLine then some (.lst (a++b)) else none
 |_,_=>none
def RJ:OpDN X (binaryOp .Add) CA:=OpR.weak FK λx y H Q ⟨F,d,e,z,sF,id,ie,hz,q⟩=>by
 cases d with
 |lst a =>
  cases e with
  |lst b =>
   have hz:(if a.length+b.length<=sizeLine then some (D.lst (a++b)) else none)=some z:=hz
   split at hz
   .rename_i hl;obtain rfl:=Zqi hz;rw[IsD.lst_iff] at id ie;obtain⟨l,xs,rfl,h1,h2⟩:=id;obtain⟨l',ys,rfl,h3,h4⟩:=ie;have l1:=h2.length;have l2:=h4.length;exact⟨l,l',xs,ys,rfl,rfl,h1.same sF,h3.same sF,(),λp hp=>q p F _ (.keep sF hp _) hp (Qv sF hp) ⟨_,JL,h2.append h4⟩⟩
   .exact J3 hz
  |_=>exact J3 hz
 |_=>exact J3 hz
@[simp]def zuf (a b:Yy):CA (.lst a) (.lst b)=if a.length+b.length<=sizeLine then some (.lst (a++b)) else none:=rfl
end
end L2.DL
namespace L2
end L2
namespace L2.DL
def RK (Fn:Yy->Res D)(fr:FA):FE:=λsd=>(fr sd).strict.bind Fn
@[simp]def ev_callS (Fn:Yy->Res D)(fr:FA)(sd:SD):RK Fn fr sd=(fr sd).strict.bind Fn:=rfl
def sIfS (c:FT)(g1 g2:FS):FS:=λsd=>(c sd).strict.bind λb=>if b then g1 sd else g2 sd
@[simp]def ev_ifSB (c:FT)(g1 g2:FS)(sd:SD):sIfS c g1 g2 sd=(c sd).strict.bind λb=>if b then g1 sd else g2 sd:=rfl
section
variable {X:Cx}{m:Option Bool}
noncomputable def A5 (c:Str)(gs:FS)(sd:SD):Res Out->Res Out
 | .ok o=>.ok o
 | .ex c' [] => @ite _ (c'=c) (Classical.propDecidable _) (gs sd).strict .no
 |_=>.no
@[simp]def tryBK_ok (c:Str)(gs:FS)(sd:SD)(o:Out):A5 c gs sd (.ok o)=.ok o:=rfl
@[simp]def tryBK_ex (c:Str)(gs:FS)(sd:SD):A5 c gs sd (.ex c [])=(gs sd).strict:=@if_pos _ (Classical.propDecidable _) rfl _ _ _
noncomputable def sTryB (c:Str)(g gs:FS):FS:=λsd=>A5 c gs sd (g sd)
@[simp]def ev_tryB (c:Str)(g gs:FS)(sd:SD):sTryB c g gs sd=A5 c gs sd (g sd):=rfl
end
end L2.DL
namespace L2
def zaK (K:W.Frag)(x:Str)(st:Stmt):Prop:=∃f fd,W.nsIn K mainGlobals x=some (some (.ref f))/\Fun K x x st f fd
def zaK.callee {P:Program}{w:World}{K:W.Frag}{h base:Heap}{mg:Yc}{x:Str}{st:Stmt}{k:Nat}{ps:Yh}{sp:Sp}(X:K.In h)(G:h.Ns mainGlobals mg)(d:zaK K x st)
 (ok:∀{f:Addr} {fd:FuncData},Fun K x x st f fd->FnOk P w K mg base CX0 k f fd ps sp)
 (hb:∀(kV doc pm:Value) (an:Option Addr) (cdv ct:Value) (us:Yd),us.length=ps.length->bindArgs (W.fnOf x x (XB st) (V2 st) (JD st) .none kV doc pm an cdv ct) ⟨us,[]⟩=pure (ps.zip us)):zan P w K mg base x k ps sp:=by
 obtain⟨f,fd,a,F⟩:=d;exact⟨f,fd,ok F,F.binds hb,F.kp,W.mg_of X G a⟩
end L2
namespace L2.DL
def CB (j:Nat):Out->Out
 | .next sd=>.next (sd.set j none)
 | .brk sd=>.brk (sd.set j none)
 | .cont sd=>.cont (sd.set j none)
 | .ret d=>.ret d
@[simp]def zt3 (j:Nat)(sd:SD):CB j (.next sd)=.next (sd.set j none):=rfl
@[simp]def zvR (j:Nat)(d:D):CB j (.ret d)=.ret d:=rfl
noncomputable def CC (cs:Yh)(j:Nat)(gs:FS)(sd:SD):Res Out->Res Out
 | .ok o=>.ok o
 | .ex c [] => @ite _ (c∈cs) (Classical.propDecidable _) ((gs (sd.set j (some (.val (.exc c))))).strict.bind λo=>.ok (CB j o)) .no
 |_=>.no
@[simp]def zwO (cs:Yh)(j:Nat)(gs:FS)(sd:SD)(o:Out):CC cs j gs sd (.ok o)=.ok o:=rfl
noncomputable def RL (cs:Yh)(j:Nat)(g gs:FS):FS:=λsd=>CC cs j gs sd (g sd)
@[simp]def ev_tryAs (cs:Yh)(j:Nat)(g gs:FS)(sd:SD):RL cs j g gs sd=CC cs j gs sd (g sd):=rfl
end L2.DL
namespace L2
end L2
namespace L2.DL
noncomputable def gIsiX (cs:Yh):Yy->Yz
 | [.exc c,.ucl u] => @ite _ (c=u) (Classical.propDecidable _) (some (.bl true)) none
 | [.exc c,.ty T] => @ite _ (T = "ValueError" /\ c∈cs) (Classical.propDecidable _) (some (.bl true)) none
 |_=>none
@[simp]def ztz (cs:Yh)(c:Str):gIsiX cs [.exc c,.ucl c]=some (.bl true):=@if_pos _ (Classical.propDecidable _) rfl _ _ _
end L2.DL
namespace L2
def Its (x:Str):It:=⟨λi _=>i<x.cps.size,λi H y H'=>H'=H/\∃c,x.cps[i]? = some c/\y=.str ⟨#[c]⟩,λi _=>x.cps.size<=i⟩
def RM {P:Program}{w:World}{K:W.Frag}{tg:Expr}(it:Addr)(x:Str)(t:Tok):Turn P w K tg (Its x) [it] it (λi h=>h.IsStrIter it "str_ascii_iterator" x t i) where
 mem:=by simp
 obj:=λi h st b hb=>by
  have e:b=it:=by simpa using hb
  subst e;obtain⟨o,ho,_,hd⟩:=st;exact⟨o,ho,λv z=>by rw[hd] at z;cases z⟩
 keep:=λi h h' st k=>let ⟨o,ho,r⟩:=st;⟨o,k it (by simp) o ho,r⟩
 item:=by
  intro X hP hw hK hc i Y s Z H E I hf st hg;subst hP hw hK;obtain⟨f0,f1,f2,f3,f4,f5⟩:=hf it (by simp);have hg:i<x.cps.size:=hg;refine wpAny_pyNext_ascii_item st (c:=x.cps[i]) (by simp[hg]) λh' st' sb=>?_;have I1:Inv X Y Z H { s with heap:=h',toks:=s.toks+1 }:=I.turned (λb o hb e=>(sb.2 b hb).trans e) f0 f1 f3 f4 f5;obtain⟨o,e,c,d⟩:=id st';exact⟨_,rfl,ZM (s:={ s with heap:=h',toks:=s.toks+1 }) e c d (by decide) ⟨.str ⟨#[x.cps[i]]⟩,H,I1,⟨_,rfl⟩,⟨rfl,_,by simp[hg],rfl⟩,st',λb hb=>(hf b hb).1⟩⟩
 done:=by
  intro X hP hw hK hc i Y s Z H E I hf st hg;subst hP hw hK;obtain⟨f0,f1,f2,f3,f4,f5⟩:=hf it (by simp);have hg:x.cps.size<=i:=hg;exact wpAny_pyNext_ascii_end (I.ok.hd hc) st (by simp[hg]) λh' eb=>⟨rfl,I.turned (t':=s.toks) (λb o hb e=>eb b o hb e) f0 f1 f3 f4 f5⟩
 self:=λ_ _ _ _ _ st h=>wpAny_pyIter_striter_ascii st h
section
variable {X:Cx}{tg:Expr}
def iStrT (tl:TE):TI:=λZ H R=>tl Z H λy H1=>∃x,y=.str x/\x.cps.all (· < 128)=true/\R (Its x) H1
def RN {l:Expr}{tl:TE}(hl:PE X l tl):PI X tg l (iStrT tl):=by
 intro Y s Z H R I h;refine thn (hl Y s Z H _ I h) λv s1 ⟨y,H1,I1,r1,q1⟩=>?_;obtain⟨x,rfl,ha,q⟩:=q1;obtain⟨t,rfl⟩:=r1;refine wpAny_pyIter_ascii ha ?_;refine⟨s1.heap.objs.size,[s1.heap.objs.size],_,_,H1,rfl,I1.kept (t':=s1.toks) λb o e=>Zq _ e,RM _ x t,⟨_,Zr _ rfl,rfl,rfl⟩,λb hb=>?_,q⟩;have e:b=s1.heap.objs.size:=by simpa using hb
 subst e;exact I1.fpOk (Zf _) (I1.hok.fresh (Zf _))
def RP (hu:X.A.units+64<cLine)(neg:Bool):OpR X (compareOp (if neg then .NotIn else .In)) (λx y H Q=>∃(d:DL.D) (ws:Yh) (p:Addr),DL.IsD X.K H d x/\DL.plN 12 d=true/\(ws.map DL.D.str).all (DL.plN 12)=true/\y=.ref p/\SqT X.K H p (ws.map V.str) /\
 Q (.bl (if neg then !(ws.map DL.D.str).any (λe=>DL.sameD e d) else(ws.map DL.D.str).any λe=>DL.sameD e d)) H):=by
 intro Y s Z H x y v u Q I rx ry ⟨d,ws,p,id,hp,hw,hy,hq,q⟩;subst hy;obtain rfl:u=Value.ref p:=ry;obtain⟨its,ri,pl,hl⟩:=I.tuple hq;have iw:∀ws:Yh,DL.IsDs X.K H (ws.map DL.D.str) (ws.map V.str):=λws=>by
  induction ws with
  |nil=>exact .nil
  |cons w ws ih=>exact .mk (DL.IsD.str_iff.mpr rfl) ih
 obtain⟨k1,k2⟩:=DL.any_eq (A:=X.A.in1) (by show X.A.units+1+60<cLine;omega) I.hok hp id rx hw (iw ws) ri;have ea:its.toArray.any (DL.eqTo X.K H d)=(ws.map DL.D.str).any (λe=>DL.sameD e d):=by
  rw[show its.toArray.any (DL.eqTo X.K H d)=its.any (DL.eqTo X.K H d) by simp,DL.any_map',k1,<- DL.any_map']
 cases neg with
 |true =>
  refine SeqAt.notIn_tupleAt (DL.eqTo X.K H d) pl (λw hw=>k2 w (by simpa using hw)) ⟨.bl _,H,I,rfl,?_⟩;rw[ea];exact q
 |false =>
  refine SeqAt.in_tupleAt (DL.eqTo X.K H d) pl (λw hw=>k2 w (by simpa using hw)) ⟨.bl _,H,I,rfl,?_⟩;rw[ea];exact q
end
end L2
namespace L2.DL
def ascB (x:Str):Bool:=x.cps.all (· < 128)
def chD (x:Str):Yy:=x.cps.toList.map λc=>.str ⟨#[c]⟩
def iStr (f:FE):FA:=λsd=>(f sd).bind λd=>match d with
 | .str x=>if ascB x=true then .ok (chD x) else .no
 |_=>.no
@[simp]def ev_iStr (f:FE)(sd:SD):iStr f sd=(f sd).bind λd=>match d with
 | .str x=>if ascB x=true then .ok (chD x) else .no
 |_=>.no:=rfl
def gInS (neg:Bool):D->D->Yz
 | .str c,.str x=>some (.bl (if neg then !(!(Builtin.Str.occurrences x c 0 x.length 1).isEmpty) else !(Builtin.Str.occurrences x c 0 x.length 1).isEmpty))
 |_,_=>none
def CD (neg:Bool)(c:Nat)(x:Str):gInS neg (.str ⟨#[c]⟩) (.str x)=some (.bl (if neg then !decide (c∈x.cps.toList) else decide (c∈x.cps.toList))):=by
 show some (D.bl (if neg then !(!(Builtin.Str.occurrences x ⟨#[c]⟩ 0 x.length 1).isEmpty) else !(Builtin.Str.occurrences x ⟨#[c]⟩ 0 x.length 1).isEmpty))=_;rw[PySem.StrLaws.found_one]
def gStr:Yy->Yz
 | [.int i]=>if Nat.ble i.natAbs.log2 1900 then some (.str (toString i)) else none
 |_=>none
def gSlS:D->Option Int->Option Int->Yz
 | .str x,l,u=>if x.length<=sizeLine then some (.str (Txt.slice x l u)) else none
 |_,_,_=>none
def dSlS (fe:FE)(fl fh:FO):FE:=λsd=>(fe sd).bind λd=>(fl sd).bind λl=>(fh sd).bind λh=>.ofO (gSlS d l h)
@[simp]def ev_slS (fe:FE)(fl fh:FO)(sd:SD):dSlS fe fl fh sd=(fe sd).bind λd=>(fl sd).bind λl=>(fh sd).bind λh=>.ofO (gSlS d l h):=rfl
@[simp]def gSlS_str (x:Str)(l u:Option Int):gSlS (.str x) l u=if x.length<=sizeLine then some (.str (Txt.slice x l u)) else none:=rfl
def gIsB:D->D->Yz
 | .bl a,.bl b=>some (.bl (a == b))
 |_,_=>none
@[simp]def gIsB_bl (a b:Bool):gIsB (.bl a) (.bl b)=some (.bl (a == b)):=rfl
section
variable {X:Cx}{E:XK}{tg e a b:Expr}{fe fa fb:FE}{lo hi:Option Expr}{p2 pos p:Pos}
def RQ (h:QE X E e fe):QI X E tg e (iStr fe):=PI.weak (RN h) λZ H R ⟨B,F,sd,r,n⟩=>by
 refine⟨B,F,sd,r,(Res.need_bind n).mono (λd n1 v F1 H1 e1 i1=>?_) λ_ _ q=>q⟩;cases d with
 |str x =>
  have n1:(if ascB x=true then Res.ok (chD x) else Res.no).need (λds=>∀J F' H',Ext F H F' H'->Walk X.K F' J ds->R J H') (XW X.K E F H):=n1
  split at n1
  .rename_i ha;have ic:∀l:Yg,IsDs X.K F1 (l.map λc=>D.str ⟨#[c]⟩) (l.map λc=>V.str ⟨#[c]⟩):=λl=>by
    induction l with
    |nil=>exact .nil
    |cons c l ih=>exact .mk (IsD.str_iff.mpr rfl) ih
   refine⟨x,IsD.str_iff.mp i1,ha,n1 (Its x) F1 H1 e1 (An (S:=λ_=>True) (xs:=x.cps.toList.map λc=>V.str ⟨#[c]⟩) (ic _) (λ_ _ _ _=>trivial) (λi H y _ hy=>?_) (λi H _ hi=>?_) λi H y H' _ hy=>?_)⟩
   .have:=(Jb.mp hy).1;rw[Zql,Ui] at this;exact this
   .rw[Zql,Ui] at hi;exact hi
   .obtain⟨h1,c,hc,h2⟩:=hy;refine⟨h1,?_⟩;rw[Zv,Array.getElem?_toList,hc,h2];rfl
  .exact n1.elim
 |_=>exact n1.elim
def Hz (neg:Bool):OpD X (compareOp (if neg then .NotIn else .In)) (gInS neg):=by
 intro Y s Z H x y v u Q I rx ry ⟨F,d,e,z,sF,id,ie,hz,q⟩;cases d with
 |str c =>
  cases e with
  |str t =>
   obtain rfl:=Zqi hz;have e1:=IsD.str_iff.mp id;have e2:=IsD.str_iff.mp ie;cases neg with
   |true=>exact LN Y s Z H x y v u Q I rx ry ⟨c,t,e1,e2,q _ F H (.refl sF) (isB _ F)⟩
   |false=>exact LM Y s Z H x y v u Q I rx ry ⟨c,t,e1,e2,q _ F H (.refl sF) (isB _ F)⟩
  |_=>exact J3 hz
 |_=>exact J3 hz
def HA:OpD X (compareOp .In) (gInS false):=Hz false
def RT:OpD X (compareOp .NotIn) (gInS true):=Hz true
def HB:za1 X (.type "str") (rDA X.K gStr):=za1.weak LU λxs H Q ⟨F,ds,z,sF,id,hz,q⟩=>by
 unfold gStr at hz
 split at hz
 .rename_i i
  split at hz
  .rename_i hl;obtain rfl:=Zqi hz;obtain⟨v1,r1,e1,i1,id⟩:=IsDs.cons_iff.mp id;rw[IsDs.nil_iff] at id;subst id e1;exact⟨i,by rw[IsD.int_iff.mp i1],Vy (Vs.mp hl) (by decide),q _ F H (.refl sF) (IsD.str_iff.mpr rfl)⟩
  .exact J3 hz
 .exact J3 hz
def CF (hm:X.mg x=some (.str v t))(hg:Gl X x)(hd:(x == ("__debug__" : Str))=false:=by decide):QE X E (.Name x pos) (dC (.str v)):=XO (DT (v:=.str v) hg hm ⟨t,rfl⟩ hd) λF=>IsD.str_iff.mpr rfl
structure KTup (K:W.Frag)(mg:Yc)(x:Str)(ws:Yh):Prop where
 ex:∃p,mg x=some (.ref p)/\∀H,SqT K H p (ws.map V.str)
def RU {K:W.Frag}{neg:Bool}{ws:Yh}{p:Addr}{Z: St}{H:Hp}{Q:VK}(hq:∀H,SqT K H p (ws.map V.str))(h:tD K E (dOp (gIn neg) fa (dC (.tup (ws.map .str)))) Z H Q):
 tOp (λx y H Q=>∃(d:D) (ws:Yh) (p:Addr),IsD K H d x/\plN 12 d=true/\(ws.map D.str).all (plN 12)=true/\y=.ref p/\SqT K H p (ws.map V.str) /\
 Q (.bl (if neg then !(ws.map D.str).any (λe=>sameD e d) else(ws.map D.str).any λe=>sameD e d)) H) (tD K E fa) (tC (.ref p)) Z H Q:=by
 obtain⟨B,F,sd,r,n⟩:=h;refine⟨B,F,sd,r,(Res.need_bind n).mono (λx n1 v F1 H1 e1 i1=>?_) λ_ _ q=>q⟩;have n1:(Res.ofO (gIn neg x (.tup (ws.map .str)))).need (OkD K F H Q) (XW K E F H):=n1;obtain⟨z,hz,q⟩:=Res.need_ofO n1;have hz:(if plN 12 x&&(ws.map D.str).all (plN 12) then some (D.bl (if neg then !(ws.map D.str).any (λe=>sameD e x) else(ws.map D.str).any λe=>sameD e x)) else none)=some z:=hz
 split at hz
 .rename_i hp;rw[Uc] at hp;obtain rfl:=Zqi hz;exact⟨x,ws,p,IsD.same e1.fh _ _ i1,hp.1,hp.2,rfl,hq _,q _ F1 H1 e1 (IsD.bl_iff.mpr rfl)⟩
 .exact J3 hz
def RV (hu:X.A.units+64<cLine)(k:KTup X.K X.mg g ws)(hg:Gl X g)(ha:QE X E a fa)(hd:(g == ("__debug__" : Str))=false:=by decide):QT X E (.Compare a [.In] [.Name g p] pos) (J7 (dOp (gIn false) fa (dC (.tup (ws.map .str))))):=by
 obtain⟨q,hm,hs⟩:=k.ex;exact PT.weak (ZO (RP hu false) ha (DT (v:=.ref q) hg hm rfl hd) rfl) λZ H Q h=>RU hs (KO h)
def Xn (ho:OpR X (compareOp op) (rD2 X.K g))(ho':OpR X (compareOp op') (rD2 X.K g'))(ha:QE X E a fa)(hb:QE X E b fb)(hc:QE X E c fc)
 (hm:lastMarks [op,op'] [b,c]=false:=by with_unfolding_all rfl):QT X E (.Compare a [op,op'] [b,c] pos) (J7 (Kl g g' fa fb fc)):=PT.weak (LO ho ho' ha hb hc hm) λ_ _ _ h=>RF (KO h)
end
structure ClsD (K:W.Frag)(mg:Yc)(c:Str)(C:Addr)(fs:Yh):Prop where
 ns:W.nsIn K mainGlobals c=some (some (.ref C))
 mgc:mg c=some (.ref C)
 cls:Cls K C
 no:∀f∈fs,zdU K C f
def fldD (f:Str):Yh->Yy->Yz
 |g::gs,d::ds=>if g=f then some d else fldD f gs ds
 |_,_=>none
theorem HC {K:W.Frag}{H:Hp}{f:Str}:∀{fs:Yh} {ds:Yy} {xs:Yw} {d:D},IsDs K H ds xs->fs.length=xs.length->fldD f fs ds=some d->∃x,(fs.zip xs).lookup f=some x/\IsD K H d x
 | [],ds,xs,d,_,_,h=>by unfold fldD at h;exact J3 h
 |g::gs,[],xs,d,i,l,h=>by
  rw[IsDs.nil_iff] at i;subst i;cases l
 |g::gs,e::ds,xs,d,i,l,h=>by
  obtain⟨x,r,rfl,i1,i2⟩:=IsDs.cons_iff.mp i;unfold fldD at h;rw[U5];by_cases q:g=f
  .rw[Zd q] at h;obtain rfl:=Zqi h;have hb:(f == g)=true:=Yo.mpr q.symm;exact⟨x,by simp only[List.lookup,hb],i1⟩
  .rw[Ze q] at h;obtain⟨y,h1,h2⟩:=HC (fs:=gs) i2 (by simpa using l) h;have hb:(f == g)=false:=beq_eq_false_iff_ne.mpr λz=>q z.symm;exact⟨y,by simp only[List.lookup,hb];exact h1,h2⟩
noncomputable def gFld (c f:Str):D->Yz
 | .ins c' fs ds=>if c'=c then fldD f fs ds else none
 |_=>none
section
variable {X:Cx}{E:XK}{e:Expr}{fe:FE}{pos:Pos}
def Ql {c f:Str}{C:Addr}{fs:Yh}(k:ClsD X.K X.mg c C fs)(hf:f∈fs)(he:QE X E e fe)(hb:attributeBase e f X.env (eval e X.env)=eval e X.env:=by rfl):QE X E (.Attribute e f pos) (dUn (gFld c f) fe):=PE.weak (Md he hb) λZ H Q ⟨B,F,sd,r,n⟩=>by
 refine⟨B,F,sd,r,(Res.need_bind n).mono (λd n1 v F1 H1 e1 i1=>?_) λ_ _ q=>q⟩;obtain⟨z,hz,q⟩:=Res.need_ofO n1;cases d with
 |ins c' gs ds =>
  have hw:(if c'=c then fldD f gs ds else none)=some z:=hz;by_cases hc:c'=c
  .rw[Zd hc] at hw;subst hc;obtain⟨a,C',dx,xs,rfl,hC,hH,hl,hi⟩:=IsD.ins_iff.mp i1;rw[k.ns] at hC;cases hC;obtain⟨x,h1,h2⟩:=HC hi hl hw;exact⟨a,C,dx,_,x,rfl,e1.fh _ _ hH,k.cls,k.no f hf,h1,q _ F1 H1 e1 h2⟩
  .rw[Ze hc] at hw;exact J3 hw
 |_=>exact J3 hz
end
theorem HD (f:Str)(v:V):∀fs:List (Str×V),f∉fs.map (·.1)->putF f v fs=fs++[(f,v)]
 | [],_=>rfl
 | (g,x)::r,h=>by
  rw[Zl,UB,not_or] at h;show(if g=f then(g,v)::r else(g,x)::putF f v r)=_;rw[Ze (λz=>h.1 z.symm),HD f v r h.2];rfl
def tI (K:W.Frag)(c:Str)(names:Yh)(g:FA):TS:=λT Z H=>∃B F sd x C dx fs xs ds0,RS K B F H sd Z /\ (∀(i:Nat) (p:Bool) (d:D),sd[i]? ≠ some (some (SV.own p d))) /\ Z[0]? = some (some (.ref x))/\B.H0 x=none/\F x=none/\W.nsIn K mainGlobals c=some (some (.ref C))/\H x=some (.ins C dx (fs.zip xs))/\fs.length=xs.length/\(fs++names).Nodup/\(fs++names).length<900/\IsDs K F ds0 xs /\
 (g sd).need (λds=>∀F' H' xs',Ext B.F0 B.H0 F' H'->F' x=none->H' x=some (.ins C dx ((fs++names).zip xs'))->(fs++names).length=xs'.length->IsDs K F' (ds0++ds) xs'->T.nx Z H') (XW K E0 B.F0 B.H0)
section
variable {X:Cx}{o e:Expr}{fe:FE}{g:FA}{pos pos':Pos}{ss:List Stmt}{c f:Str}{C:Addr}{fs names:Yh}
def HE:PSs X [] (tI X.K c [] dNil):=PSs.weak DW λT Z H ⟨B,F,sd,x,C,dx,fs,xs,ds0,r,no,h0,h1,h2,hC,hH,hl,hn,hm,hi,n⟩=>by
 have n:∀F' H' xs',Ext B.F0 B.H0 F' H'->F' x=none->H' x=some (.ins C dx ((fs++[]).zip xs'))->(fs++[]).length=xs'.length->IsDs X.K F' (ds0++[]) xs'->T.nx Z H':=n;simp only[ZA] at n;exact n F H xs r.ext h2 hH hl hi
def A6 (k:ClsD X.K X.mg c C fs)(hf:f∈fs)(ho:PE X o (tVar 0))(he:QE X E0 e fe)(hr:PSs X ss (tI X.K c names g))(hs:swapsWith e (some (.Attribute o f pos')) pos.line X.env=pure false:=by rfl):
 PSs X (.Assign [.Attribute o f pos'] e pos::ss) (tI X.K c (f::names) (Jz fe g)):=PSs.weak (DX (Me ho he hs) hr) λT Z H ⟨B,F,sd,x,C',dx,gs,xs,ds0,r,no,h0,h1,h2,hC,hH,hl,hn,hm,hi,n⟩=>by
 refine⟨B,F,sd,r,(Res.need_bind n).mono (λd n1 v F1 H1 e1 i1=>?_) λ_ _ q=>q.ext r.ext⟩;have c1:C'=C:=by
  rw[k.ns] at hC;cases hC;rfl
 subst c1;have hH1:=e1.hh _ _ hH;have hF1:F1 x=none:=e1.new x h2 (by rw[hH];simp);have lz:(gs.zip xs).map (·.1)=gs:=by rw[List.map_fst_zip ()]
 have hfn:f∉gs:=λz=>by
  have:=(Vo.mp hn).2.2 f z f (Zqs ..);exact this rfl
 have ll:(gs.zip xs).length<1000:=by
  rw[List.length_zip];simp at hm;omega
 refine⟨.ref x,h0,x,C',dx,_,rfl,hH1,k.cls,k.no f hf,ll,?_⟩;rw[HD f v _ (by rw[lz];exact hfn)];have ez:gs.zip xs++[(f,v)]=(gs++[f]).zip (xs++[v]):=by rw[List.zip_append hl];rfl
 rw[ez];have r1:=r.step e1;have hi1:IsDs X.K F1 (ds0++[d]) (xs++[v]):=IsDs.snoc (IsDs.same e1.ff _ _ hi) i1;refine⟨B,F1,sd,x,C',dx,gs++[f],xs++[v],ds0++[d],⟨⟨r1.ext.ff,λa o e=>?_,λa o e=>?_,r1.ext.new⟩,r1.len,r1.val,λq=>Zn q (no _ _ _),λ_ q _ _=>Zn q (no _ _ _)⟩,no,h0,h1,hF1,hC,JL,by simp[hl],by simpa using hn,by simpa using hm,hi1,(Res.need_bind n1).mono (λds n2 F2 H2 xs2 e2 f2 q1 q2 q3=>?_) λ_ _ q=>q⟩
 .rw[JC (Kf e hF1)];exact r1.ext.fh _ _ e
 .rw[JC (Kf e h1)];exact r1.ext.hh _ _ e
 .exact n2 F2 H2 xs2 e2 f2 (by simpa using q1) (by simpa using q2) (by simpa using q3)
end
def SpI (K:W.Frag)(c:Str)(names:Yh)(Fn:Yy->Res Yy):Sp:=λvs H Q _=>∃F ds x C dx us,Same F H/\vs=.ref x::us/\IsDs K F ds us/\F x=none/\W.nsIn K mainGlobals c=some (some (.ref C))/\H x=some (.ins C dx []) /\
 (Fn ds).need (λes=>∀F' H' xs,Ext F (delH H x) F' H'->F' x=none->H' x=some (.ins C dx (names.zip xs))->names.length=xs.length->IsDs K F' es xs->Q .non H') (XW K E0 F (delH H x))
def runI (n ar:Nat)(g:FA)(ds:Yy):Res Yy:=if ds.length+1=ar then g (none::Q5 (n-1) ds) else .no
def RS.startI {K:W.Frag}{F H:Hp}{N:Yh}{ds:Yy}{us:Yw}{x:Addr}(s:Same F H)(h:IsDs K F ds us):
 RS K ⟨F,delH H x,λ_=>none⟩ F H (none::Q5 N.length ds) (some (.ref x)::L2.start N us)/\∀(i:Nat) (p:Bool) (d:D),(none::Q5 N.length ds:SD)[i]? ≠ some (some (SV.own p d)):=by
 have r0:=RS.start (N:=N) s h;have no:∀(i:Nat) (p:Bool) (d:D),(none::Q5 N.length ds:SD)[i]? ≠ some (some (SV.own p d)):=λi p d q=>by
  cases i with
  |zero=>cases q
  |succ i =>
   obtain⟨l,_,h2,_,h4,_⟩:=r0.own (i:=i) (p:=p) (d:=d) q;obtain⟨o,ho⟩:=h4.has;have h2:H l=none:=h2;rw[h2] at ho;exact J3 ho
 refine⟨⟨⟨.refl _,s,RG,λ_ e _=>e⟩,by simp[r0.len],λ{i d} q=>?_,λq=>Zn q (no _ _ _),λ_ q _ _=>Zn q (no _ _ _)⟩,no⟩;cases i with
 |zero=>cases q
 |succ i=>exact r0.val (i:=i) q
section
variable {P:Program}{w:World}{K:W.Frag}{mg:Yc}{base:Heap}{x qual:Str}{st:Stmt}{f:Addr}{fd:FuncData}{N ps:Yh}{k:Nat}
def fn_i {c y:Str}{names:Yh}{g:FA}(F:Fun K x qual st f fd)(S:FnScope (y::N) ps (JD st))(hn:names.Nodup)(hm:names.length<900)
 (hb:∀(cdv:Value) (A:Around) (outer:List Env) (s:Shared) (H:Hp) (E:XK),Room k (A.deeper (envOfC qual (JD st) s.heap.objs.size f cdv))->PSs (cxOf CX0 P w K mg base (y::N) qual (JD st) f cdv A outer s H E).nox (V2 st) (tI K c names g)):
 FnOk P w K mg base CX0 (k+1) f fd ps (SpI K c names (runI (y::N).length ps.length g)):=by
 refine F.ok S (λvs H Q E ⟨F,ds,x,C,dx,us,_,e,i,_,_,_,n⟩=>?_) λcdv A outer s H vs Q E hr ⟨F,ds,x,C,dx,us,hs,e,i,hf,hC,hH,n⟩=>⟨_,hb cdv A outer s H E hr,?_⟩
 .unfold runI at n
  split at n
  .rename_i h;rw[e,<- h,Zu,i.length]
  .exact n.elim
 .subst e;unfold runI at n
  split at n
  .have es:L2.start (y::N) (.ref x::us)=some (.ref x)::L2.start N us:=by
    unfold L2.start;simp
   rw[es];obtain⟨r,no⟩:=RS.startI (N:=N) (x:=x) hs i;exact⟨_,F,_,x,C,dx,[],[],[],r,no,rfl,RH,hf,hC,hH,rfl,hn,hm,.nil,n⟩
  .exact n.elim
end
def MkD (P:Program)(w:World)(K:W.Frag)(mg:Yc)(base:Heap)(c:Str)(names:Yh)(k:Nat)(ps:Yh)(Fn:Yy->Res Yy):Prop:=
 ∃C f fd,ClsD K mg c C names/\Mk K C f/\FnOk P w K mg base CX0 k f fd ps (SpI K c names Fn)/\zgd K fd ps []
def A7 (c:Str)(names:Yh)(Fn:Yy->Res Yy)(fa:FA):FE:=λsd=>(fa sd).bind λds=>(Fn ds).bind λes=>.ok (.ins c names es)
section
variable {X:Cx}{pos:Pos}
def HF (M:MkD X.prog X.w X.K X.mg X.base c names k ps Fn)(hr:Room (k+1) X.A)(hg:Gl X c)(ha:QA X E0 (e::es) fa)
 (hdb:(c == ("__debug__" : Str))=false:=by decide) (he:starEach (e::es) X.env=(false,eval e X.env)::starEach es X.env:=by rfl) (hpl:(backTo pos (starEach es X.env)).any (·.1)=false:=by rfl):
 QN X E0 (.Call (.Name c p) (e::es) [] pos) (A7 c names Fn fa):=by
 obtain⟨C,f,fd,kd,mk,F,b⟩:=M;refine PE.weak (Mo mk F hr hg kd.mgc b .nil EA ha hdb he hpl) λZ H Q ⟨B,F,sd,r,n⟩=>?_;refine⟨B,F,sd,r,(Res.need_bind n).mono (λds n1 vs F1 H1 e1 i1 x dx nx ndx ne=>?_) λ_ _ q=>q⟩;have n2:=Res.need_bind n1;have hF1:F1 x=none:=by
  cases q:F1 x with
  |none=>rfl
  |some o=>rw[e1.fh _ _ q] at nx;cases nx
 have hH0:H x=none:=by
  cases q:H x with
  |none=>rfl
  |some o=>rw[e1.hh _ _ q] at nx;cases nx
 have s1:∀{G:Hp},Same G H1->Same G (delH (upd (upd H1 dx (.own x)) x (.ins C dx [])) x):=λ{G} s a o q=>by
  have q1:=s _ _ q;rw[RI (Kf q1 nx),JC (Kf q1 nx),JC (Kf q1 ndx)];exact q1
 have s2:Same F1 (upd (upd H1 dx (.own x)) x (.ins C dx [])):=λa o q=>by
  have q1:=e1.fh _ _ q;rw[JC (Kf q1 nx),JC (Kf q1 ndx)];exact q1
 have ed:Ext F H F1 (delH (upd (upd H1 dx (.own x)) x (.ins C dx [])) x):=⟨e1.ff,s1 e1.fh,s1 e1.hh,e1.new⟩;rw[ZA];refine⟨F1,ds,x,C,dx,vs,s2,rfl,i1,hF1,kd.ns,JL,n2.mono (λes n3 F2 H2 xs e2 f2 h2 l2 i2=>⟨rfl,?_⟩) λ_ _ q=>q.ext ed⟩;exact n3 x F2 H2 (ed.trans e2) hH0 f2 ⟨C,dx,xs,kd.ns,h2,l2,i2⟩
end
def HG (K:W.Frag)(c qual:Str)(fs:Yh)(st:Stmt):Prop:=∃C fI fdI,W.nsIn K mainGlobals c=some (some (.ref C))/\Cls K C/\(∀f∈fs,zdU K C f)/\Mk K C fI/\Fun K "__init__" qual st fI fdI
def YG (F F':Hp):Prop:=∀a xs,F' a=some (.tup xs)->F a=some (.tup xs)
section
variable {K:W.Frag}{B:Bs}{F H F' H':Hp}{sd:SD}{Z: St}
def RS.frz1C (r:RS K B F H sd Z)(hi:sd[i]? = some (some (.own p d))):∃F',Same F F'/\YG F F'/\RS K B F' H (sd.set i (some (.val d))) Z:= by
 obtain⟨l,hl,h0,hf,ho,_⟩:=r.own hi;obtain⟨o,e⟩:=ho.has;have hil:i<sd.length:=(Jb.mp hi).1;have sF:Same F (upd F l o):=Kh hf o;have nt:YG F (upd F l o):=λa xs q=>by
  by_cases z:a=l
  .subst z;rw[JL] at q;obtain rfl:=Zqi q;cases d with
   |lst ds=>obtain⟨_,h,_⟩:=ho;rw[e] at h;cases h
   |dct ks ds=>obtain⟨_,h,_⟩:=ho;rw[e] at h;cases h
   |ins c fs ds=>obtain⟨_,_,_,_,h,_⟩:=ho;rw[e] at h;cases h
   |_=>exact ho.elim
  .rw[JC z] at q;exact q
 refine⟨upd F l o,sF,nt,⟨r.ext.ff.trans sF,λb u q=>?_,r.ext.hh,λa q1 q2=>?_⟩,by rw[UQ,r.len],λ{j x} q=>?_,λ{j p x} q=>?_,λ{j k p1 p2 d1 d2 m} n q1 q2 q3=>?_⟩
 .by_cases z:b=l
  .subst z;rw[JL] at q;cases q;exact e
  .rw[JC z] at q;exact r.ext.fh _ _ q
 .have z:a≠l:=λz=>q2 (by rw[z];exact h0);rw[JC z];exact r.ext.new a q1 q2
 .by_cases z:i=j
  .subst z;obtain⟨e1,_⟩:=QH q;cases e1;exact⟨_,hl,ho.frz e hf⟩
  .rw[Q0 z] at q;obtain⟨v,v1,v2⟩:=r.val q;exact⟨v,v1,IsD.same sF _ _ v2⟩
 .by_cases z:i=j
  .subst z;obtain⟨e1,_⟩:=QH q;cases e1
  .rw[Q0 z] at q;obtain⟨m,m1,m2,m3,m4,m5⟩:=r.own q;have ne:m≠l:=λe=>r.apart z hi q hl (by rw[<- e];exact m1);exact⟨m,m1,m2,by rw[JC ne];exact m3,m4.ext sF λu q'=>q',m5⟩
 .have z1:i≠j:=λz=>by subst z;obtain⟨e1,_⟩:=QH q1;cases e1
  have z2:i≠k:=λz=>by subst z;obtain⟨e1,_⟩:=QH q2;cases e1
  rw[Q0 z1] at q1;rw[Q0 z2] at q2;exact r.apart n q1 q2 q3
theorem RS.frzC:∀(is:Yg) {F:Hp} {sd:SD},RS K B F H sd Z -> ∃F',Same F F'/\YG F F'/\RS K B F' H (frzD is sd) Z
 | [],F,sd,r=>⟨F,.refl _,λ_ _ q=>q,r⟩
 |i::is,F,sd,r=>by
  unfold frzD
  split
  .rename_i p d h;obtain⟨F1,s1,t1,r1⟩:=r.frz1C h;obtain⟨F2,s2,t2,r2⟩:=RS.frzC is r1;exact⟨F2,s1.trans s2,λa xs q=>t1 a xs (t2 a xs q),r2⟩
  .exact RS.frzC is r
def A8:D->Bool
 | .tup ds=>ds.all Qk
 |d=>Qk d
def KY (F H F2:Hp):Hp:=λa=>match H a,F2 a with
 |none,some (.tup xs)=>some (.tup xs)
 |_,_=>F a
theorem IsDs.scals:∀{ds:Yy} {xs:Yw},ds.all Qk=true->IsDs K F ds xs->IsDs K F' ds xs
 | [],xs,_,h=>by rw[IsDs.nil_iff] at h ⊢;exact h
 |d::ds,xs,s,h=>by
  obtain⟨x,r,rfl,h1,h2⟩:=IsDs.cons_iff.mp h;rw[Uz,Uc] at s;exact IsDs.cons_iff.mpr ⟨x,r,rfl,h1.scal s.1,IsDs.scals s.2 h2⟩
def RW (s:Same F H)(s1:Same F F1)(e:Ext F1 H F2 H2):Ext F H (KY F H F2) H2:=by
 refine⟨λa o q=>?_,λa o q=>?_,e.hh,λa q1 q2=>?_⟩
 .unfold KY;rw[s _ _ q];exact q
 .unfold KY at q
  split at q
  .rename_i h1 h2;obtain rfl:=Zqi q;exact e.fh _ _ h2
  .exact e.hh _ _ (s _ _ q)
 .unfold KY;cases h:H a with
  |none=>exact Zn h q2
  |some o=>exact q1
def RX (s:Same F H)(s1:Same F F1)(nt:YG F F1)(e:Ext F1 H F2 H2)(hd:A8 d=true)(i:IsD K F2 d v):IsD K (KY F H F2) d v:=by
 cases d with
 |tup ds =>
  obtain⟨a,xs,rfl,h1,h2⟩:=IsD.tup_iff.mp i;refine IsD.tup_iff.mpr ⟨a,xs,rfl,?_,IsDs.scals hd h2⟩;have h1:F2 a=some (.tup xs):=h1;show KY F H F2 a=some (.tup xs);unfold KY;cases h:H a with
  |none=>rw[h1]
  |some o =>
   show F a=some (.tup xs);cases q:F1 a with
   |none=>rw[e.new a q (by rw[h];simp)] at h1;exact J3 h1
   |some u =>
    have:=e.ff _ _ q;rw[h1] at this;obtain rfl:=Zqi this;exact nt _ _ q
 |_=>exact i.scal hd
theorem HH (s:Same F H)(s1:Same F F1)(nt:YG F F1)(e:Ext F1 H F2 H2):∀{ds:Yy} {xs:Yw},ds.all A8=true->IsDs K F2 ds xs->IsDs K (KY F H F2) ds xs
 | [],xs,_,h=>by rw[IsDs.nil_iff] at h ⊢;exact h
 |d::ds,xs,hd,h=>by
  obtain⟨x,r,rfl,h1,h2⟩:=IsDs.cons_iff.mp h;rw[Uz,Uc] at hd;exact IsDs.cons_iff.mpr ⟨x,r,rfl,RX s s1 nt e hd.1 h1,HH s s1 nt e hd.2 h2⟩
def CG:D->Bool
 | .lst ds=>ds.all A8
 |_=>false
def YH (is:Yg)(f:FE):FE:=λsd=>(f (frzD is sd)).bare.bind λd=>if CG d then .ok d else .no
def tmpN (h:tDN K E0 (YH is fe) Z H Q):tDN K E0 fe Z H Q:=by
 obtain⟨B,F,sd,r,n⟩:=h;obtain⟨F1,s1,nt,r1⟩:=r.frzC is;refine⟨B,F1,_,r1,(Res.need_bare r.ext.fh (Res.need_bind n)).mono (λd n1 l F2 H2 e2 h1 h2 h3=>?_) λc fs q=>q⟩
 split at n1
 .rename_i hs;cases d with
  |lst ds =>
   obtain⟨xs,g1,g2⟩:=h3;refine n1 l (KY F H F2) H2 (RW r.ext.fh s1 e2) h1 ?_ ⟨xs,g1,HH r.ext.fh s1 nt e2 hs g2⟩;unfold KY;rw[h1,h2];cases q:F l with
   |none=>rfl
   |some o=>rw[r.ext.fh _ _ q] at h1;cases h1
  |_=>exact JB hs
 .exact n1.elim
end
section
variable {X:Cx}{m:Option Bool}{tg iter elt c:Expr}{scope:Scope}{pos spos py:Pos}{y:Str}{iy:Nat}{t:Tg}{fi:FA}{fc:FT}{f:FE}
def RY (is:Yg)(N:Yh)(cap:List (Option Nat))(hNN:X.N.Nodup)(hiy:X.N[iy]? = some y)(hyy:Loc X.env.scope y)(hc:X.calm=true)(okB:QQ scope X.env N X.N cap=true)(hi:QI X E0 tg iter fi)
 (hg:∀cl C s H ex,QG (JI X scope N cl C s H ex) tg t) (ht:∀cl C s H ex,QT (JI X scope N cl C s H ex) E0 c fc) (he:∀cl C s H ex,QE (JI X scope N cl C s H ex) E0 elt f) (hsw:swapsWith (.ListComp elt [⟨tg,iter,[c],0⟩] scope pos) (some (.Name y py)) spos.line X.env=pure true:=by rfl)
 (hyf:X.fn y=true\/X.env.scope.names.lookup y=some .local:=by trivial) (hs:∀x,foldedSetIterable iter X.env x=pure x:=by intro _;rfl):
 QS X E0 m (.Assign [.Name y py] (.ListComp elt [⟨tg,iter,[c],0⟩] scope pos) spos) (sOwn iy (YH is (KC cap fi t fc f))):=by
 have hh:=Gi (g:=gT t X.K) (tt:=tDT X.K E0 fc) (te:=tD X.K E0 f) hsw hNN hiy hyy hyf N cap hc okB hi hg ht he hs;exact PS.weak hh λT Z H h=>Gk (λ_ _ _ q=>Ci (tmpN q)) h
end
end L2.DL
namespace L2
open PySem
def JK (a:sc.kind=.function:=by rfl)(b:sc.isCoroutine=false:=by rfl)(c:sc.isGenerator=false:=by rfl)(d:N.Nodup:=by decide +kernel)(e:N.take P.length=P:=by rfl)
 (f:∀x∈P,sc.names.lookup x=some .local\/sc.names.lookup x=some .cell:=by decide +kernel) (g:∀y∈sc.names,y.2 ≠ .free:=by decide +kernel):FnScope N P sc:=⟨a,b,c,d,e,f,g⟩
def Qb (N:Yh)(h:N.Nodup:=by decide +kernel):N.Nodup:=h
def pgn (i:Nat)(hN:X.N.Nodup)(hi:X.N[i]? = some x:=by rfl)(hx:Loc X.env.scope x:=by trivial)(hf:X.fn x=true\/X.env.scope.names.lookup x=some .local:=by trivial):PG X (.Name x pos) (KM i):=JM hN hi hx hf
section
variable {p:Yd->Prop}
def us1 (h:∀a,p [a]):∀us:Yd,us.length=1->p us:=λus e=>by
 obtain⟨a,rfl⟩:=List.length_eq_one_iff.mp e;exact h a
def us2 (h:∀a b,p [a,b]):∀us:Yd,us.length=2->p us:=λus e=>by
 cases us with
 |nil=>exact Zn e (by decide)
 |cons a us=>exact us1 (p:=λus=>p (a::us)) (λb=>h a b) us (U9 e)
def us3 (h:∀a b c,p [a,b,c]):∀us:Yd,us.length=3->p us:=λus e=>by
 cases us with
 |nil=>exact Zn e (by decide)
 |cons a us=>exact us2 (p:=λus=>p (a::us)) (λb c=>h a b c) us (U9 e)
def us4 (h:∀a b c d,p [a,b,c,d]):∀us:Yd,us.length=4->p us:=λus e=>by
 cases us with
 |nil=>exact Zn e (by decide)
 |cons a us=>exact us3 (p:=λus=>p (a::us)) (λb c d=>h a b c d) us (U9 e)
def us5 (h:∀a b c d e,p [a,b,c,d,e]):∀us:Yd,us.length=5->p us:=λus e=>by
 cases us with
 |nil=>exact Zn e (by decide)
 |cons a us=>exact us4 (p:=λus=>p (a::us)) (λb c d e=>h a b c d e) us (U9 e)
end
end L2
namespace L2.DL
section
variable {X:Cx}{E:XK}{o e:Expr}{fo fa:FE}{apos cpos:Pos}
def Xo (fo fk:FE):FE:=λsd=>(fo sd).bind λd=>match d with
 | .dct ks ds=>(fk sd).bind λk=>.ofO ((Qn k).map λq=>(valD ks ds q).getD .non)
 |_=>.no
@[simp]def ev_get1 (fo fk:FE)(sd:SD):Xo fo fk sd=(fo sd).bind λd=>(Aq d).bind λo=>(fk sd).bind λk=>.ofO ((Qn k).map λq=>(valD o.1 o.2 q).getD .non):=by
 unfold Xo;cases fo sd with
 |ok d=>cases d<;>rfl
 |ex c fs=>rfl
 |no=>rfl
def RZ (hu:X.A.units+1<cLine)(ho:QE X E o fo)(he:QE X E e fa)(mm:M1 X o "get" apos e cpos):QE X E (.Call (.Attribute o "get" apos) [e] [] cpos) (Xo fo fa):=PE.weak (MR hu ho he mm) λZ H Q ⟨B,F,sd,r,n⟩=>by
 refine⟨B,F,sd,r,(Res.need_bind n).mono (λd n1 v F1 H1 e1 i1=>?_) λ_ _ q=>q⟩;cases d with
 |dct ks ds =>
  rw[IsD.dct_iff] at i1;obtain⟨p,xs,rfl,h1,h2,h3⟩:=i1;have hp:=e1.fh _ _ h1;refine⟨p,rfl,.inl ⟨_,.inl hp⟩,B,F1,sd,r.step e1,(Res.need_bind n1).mono (λk n2 w F2 H2 e2 i2=>?_) λ_ _ q=>q.ext e1⟩;obtain⟨z,hz,q⟩:=Res.need_ofO n2;obtain⟨k',hk,hz⟩:=Ji.mp hz;subst hz;obtain⟨g1,g2⟩:=Xf k' h2 h3;refine⟨valV (ks.zip xs) k',?_,?_⟩
  .rw[WF hk i2];exact DGet.k (e2.hh _ _ hp)
  .cases hv:valD ks ds k' with
   |none =>
    rw[hv] at q;rw[g2 hv];exact q _ F2 H2 (e1.trans e2) (IsD.non_iff.mpr rfl)
   |some d =>
    rw[hv] at q;obtain⟨y,hy,iy⟩:=g1 d hv;rw[hy];exact q _ F2 H2 (e1.trans e2) (IsD.same e2.ff _ _ iy)
 |_=>exact n1.elim
end
end L2.DL
namespace L2.ST
def inK (k:Key)(D:List Key):Bool:=D.any λx=>decide (x=k)
def ziQ:inK k D=true↔k∈D:=by
 unfold inK;rw[VP];exact⟨λ⟨x,hx,e⟩=>by rw[<- of_decide_eq_true e];exact hx,λh=>⟨k,h,Zp rfl⟩⟩
def KH (D:List Key)(k:Key):List Key:=if inK k D=true then D else D++[k]
def dedL (ks:List Key):List Key:=ks.foldl KH []
def Sa (ks:List Key)(k:Key):dedL (ks++[k])=KH (dedL ks) k:=by
 unfold dedL;rw[US];rfl
def HI (D:List Key)(k:Key):(KH D k).length=if inK k D then D.length else D.length+1:=by
 unfold KH;cases h:inK k D
 .rw[Ze (by simp),Ze (by simp),Ub];rfl
 .rw[Zd rfl,Zd rfl]
def Sb (D:List Key)(k k':Key):inK k' (KH D k)=(inK k' D||decide (k'=k)):=by
 unfold KH;by_cases h:inK k D=true
 .rw[Zd h];by_cases e:k'=k
  .rw[e,h];rfl
  .rw[Zo e,Bool.or_false]
 .rw[Ze h,U4,UU,ziQ,ziQ,decide_eq_true_eq,List.mem_append,Vu]
theorem HJ:∀(ks D:List Key),(ks.foldl KH D).length<=D.length+ks.length
 | [],D=>Zf _
 |k::ks,D=>by
  have h:=HJ ks (KH D k);rw[HI] at h;rw[UE,Zu]
  split at h<;>omega
def HK (ks:List Key):(dedL ks).length<=ks.length:=by
 have:=HJ ks [];rw[ZC,U8] at this;exact this
theorem HL:∀(ks D:List Key),(D++ks).Nodup->ks.foldl KH D=D++ks
 | [],D,_=>(ZA _).symm
 |k::ks,D,h=>by
  have hn:k∉D:=λz=>by
   rw[Vo] at h;exact h.2.2 k z k Zqs rfl
  have e:KH D k=D++[k]:=Ze λz=>hn (ziQ.mp z);rw[UE,e,HL ks (D++[k]) (by rw[UC];exact h),UC];rfl
def dedL_nodup (h:ks.Nodup):dedL ks=ks:=HL ks [] h
def Sc (h:K3 k v=true):v.scannable=true:=by
 rcases Kv h with ⟨i,t,rfl,rfl⟩|⟨x,t,rfl,rfl⟩<;>rfl
abbrev HasK (prog:Program)(w:World)(h:Heap)(S:Addr)(D:List Key):Prop:=h.SetOf (Qg prog w) S (λk=>inK k D) D.length
def HasK.congr (H:h.SetOf (Qg prog w) S T n)(e:∀k,T k=inK k D)(en:n=D.length):HasK prog w h S D:=by
 have:T=λk=>inK k D:=funext e;subst this;subst en;exact H
section
variable {prog:Program}{w:World}{A:Around}{R:Result->Yu}{I:Addr}{fp wr:Yi}{G:Array GenState->Array GenState->Prop}{n:Nat}{P:Nat->Value->Prop}{St:Nat->Yu}
def HasK.keep (H:HasK prog w hp S D)(k:∀o,hp.get? S=some o->hp'.get? S=some o):HasK prog w hp' S D:=by
 obtain⟨o,es,ep,t,ho,r⟩:=H;exact⟨o,es,ep,t,k _ ho,r⟩
def Se (W:WalksS prog w A.in1 I fp wr G ks.length P St)(S:Addr)(hSf:S∉fp)
 (hval:∀i v k,P i v->ks[i]? = some k->K3 k v=true) (hn:ks.length<=999):
 ∀(k i:Nat) (s:Shared),ks.length-i=k->i<=ks.length->St i s->HasK prog w s.heap S (dedL (ks.take i)) ->
  (∀s',Moved (S::wr) G s s'->HasK prog w s'.heap S (dedL ks)->R (.ok (.ret .none)) s') ->
  codeAny (model prog w) A (.builtin "set.update.loop" ⟨[.ref S,.ref I],[]⟩) R s:=by
 have hSw:S∉wr:=λh=>hSf (W.sub _ h);have hsub:∀b∈wr,b∈S::wr:=λb hb=>Zqm _ hb;intro k
 induction k with
 |zero =>
  intro i s hk hi hst H hR;have hin:i=ks.length:=()
  subst hin;rw[UK] at H;refine codeAny_builtin F.entry_set_update_loop ?_;rw[Around.under_plainId F.plain_set_update_loop _];show wpAny _ A.in1 (pyNext (.ref I) >>= _) _ _ s;refine Za (W.done s _ _ hst λs' hm=>?_);show wpAny _ A.in1 (ret Value.none) _ _ s';exact Zb (hR s' (hm.mono hsub) (H.keep λo e=>hm.heap S _ hSw e))
 |succ k ih =>
  intro i s hk hi hst H hR;have hlt:i<ks.length:=()
  have hki:ks[i]? = some ks[i]:=Zqg hlt;refine codeAny_builtin F.entry_set_update_loop ?_;rw[Around.under_plainId F.plain_set_update_loop _];show wpAny _ A.in1 (pyNext (.ref I) >>= _) _ _ s;refine Za (W.item i s _ _ hlt hst λv s' hP hst' hm=>?_);have hv:=hval i v _ hP hki;have H':=H.keep (hp':=s'.heap) λo e=>hm.heap S _ hSw e;show wpAny _ A.in1 (holding [v] (setAdd S v) >>= _) _ _ s';refine Za (wpAny_holding ?_);unfold setAdd;refine wpAny_holding ?_;refine Za ((Qg prog w).pyHash (k:=ks[i]) hv ?_);have hl:=HK (ks.take i);have ht:(ks.take i).length=i:=by rw[Uj];omega
  refine wpAny_setAddHashed_of (knd:=Qg prog w) (s:={ s' with toks:=s'.toks+1 }) hv (Sc hv) H' (by unfold scanBound;omega) λh' hsb H2=>?_;have e1:dedL (ks.take (i+1))=KH (dedL (ks.take i)) ks[i]:=by
   rw[Uy,hki];exact Sa _ _
  have H3:HasK prog w h' S (dedL (ks.take (i+1))):=by
   rw[e1];exact HasK.congr H2 (λk'=>(Sb _ _ _).symm) (HI _ _).symm
  refine Zb ⟨plainId_quiet F.plain_set_update_loop _,ih (i+1) _ () hlt (W.frame _ s' _ _ hst' (Vd _) λb hb o e=>?_) H3 λs'' hm'' H''=>?_⟩
  .rw[hsb.2 b (λh:b=S=>hSf (by rw[<- h];exact hb))];exact e
  .refine hR s'' (Moved.trans W.gtrans ((hm.mono hsub).then_heap (Vd _) λb o hb e=>?_) hm'') H'';rw[hsb.2 b (λh:b=S=>hb (by rw[h];exact Zqs))];exact e
end
section
variable {prog:Program}{w:World}{A:Around}{E:Ya}{s:Shared}
def Sf (ho:hp.get? S=some { cls:=.type "set",dict:=none,data:=.set #[] 0 (.fresh 0 0 led) }):HasK prog w hp S []:=
 ⟨_,#[],0,_,ho,⟨rfl,rfl,rfl⟩,rfl,λe he=>by simp at he,λk=>by simp[inK],(by unfold scanBound;decide),rfl,rfl⟩
set_option maxRecDepth 100000 in
set_option maxHeartbeats 3200000 in
def Sg (hh:A.handled=none)(hl:s.heap.IsList l items)(hsz:items.size=ks.length)
 (hval:∀(i:Nat) (v:Value) (k:Key),items[i]? = some v->ks[i]? = some k->K3 k v=true) (hn:ks.length<=999)
 (h:∀(h':Heap) (tk:Nat),HasK prog w h' s.heap.objs.size (dedL ks)->(∀b o,b<s.heap.objs.size->s.heap.get? b=some o->h'.get? b=some o)->Q (.ref s.heap.objs.size) { s with heap:=h',toks:=tk }):
 YB prog w A (call (.type "set") [.ref l]) Q E s:=by
 have cn:=λA:Around=>GW (prog:=prog) (w:=w) (A:=A) (E:=E) (s:=s) (.ref l) (Q₁:=λobj s₁=>obj=.ref s.heap.objs.size/\s₁={ s with heap:=s.heap.push { cls:=.type "set",dict:=none,data:=.set #[] 0 (.fresh 0 0 (ledW w)) } }) ⟨rfl,rfl⟩;generalize ledW w=led at cn;obtain⟨c,tl,hmro⟩:=F.called_set.mro;have hmade:=F.called_set.made;have hsub:=F.called_set.sub;refine wpAny_call (codeAny_of_tree ?_);show wpAny _ _ (callAny (.type "set") _) _ _ _;refine Zb ⟨Code.quiet_builtin _ (by decide +kernel),codeAny_builtin F.entry_type_call ?_⟩;rw[Around.under_plain (weight_type_call_type "set" [.ref l] []) rfl];have h1:=F.called_set.notType;have h2:=F.called_set.canCreate;have hct:=F.typeCall_set_1 (.ref l)
 repeat (any_goals (first|assumption|wp_step))
 refine codeAny_mono (cn _) λr s₁ hr=>?_;cases r with
 |error e=>exact hr
 |ok fl =>
  cases fl with
  |ret obj =>
   obtain⟨rfl,rfl⟩:=hr;generalize hno:({ cls:=.type "set",dict:=none,data:=.set #[] 0 (.fresh 0 0 led) }:Obj)=no at *;have hS:(s.heap.push no).get? s.heap.objs.size=some no:=Zr _ (by rw[<- hno];rfl);have hT:Shared.TypeIs { s with heap:=s.heap.push no } (.ref s.heap.objs.size) "set" := ⟨_,hS,by rw[<- hno]⟩;have hli:=F.called_set.init.lookup;have hbi:=F.called_set.init.bind (.ref s.heap.objs.size)
   repeat (any_goals (first|assumption|wp_step))
   refine codeAny_mono (codeAny_call_builtin (R:=wants (λr s₂=>r=.none/\∃h' tk,s₂={ s with heap:=h',toks:=tk }/\HasK prog w h' s.heap.objs.size (dedL ks) /\
    (∀b o,b<s.heap.objs.size->s.heap.get? b=some o->h'.get? b=some o)) E) F.called_set.init.plain F.entry_set_init (check_set_init_1 hT ?_)) λr₂ s₂ hr₂=>?_
   .obtain⟨ol,hol,hcl,nl,hdl⟩:=hl;obtain⟨ocls,odict,odata,oslots⟩:=ol;simp only at hcl hdl;subst hcl;subst hdl;have hol':(s.heap.push no).get? l=some { cls:=.type "list",dict:=odict,data:=.seq items nl,slots:=oslots }:=Zq _ hol;have hsls:=F.sub_list_set;have hslf:=F.sub_list_frozenset;have hne:(Value.type "list" == Value.type "dict")=false:=by decide
    have hl1:(s.heap.push no).IsList l items:=⟨_,hol',rfl,nl,rfl⟩;subst hno;unfold Builtin.«set.__init__» noKeywords Builtin.Frozenset.updateFrom;generalize hPI:pyIter=PI
    wp_walk
    subst hPI;refine wpAny_pyIter_list hl1 ?_;refine Za (wpAny_runValue ?_);have hlS:l<s.heap.objs.size:=Zk hol;have hh3:A.in1.in1.in1.handled=none:=by simp[hh]
    generalize hno:({ cls:=.type "set",dict:=none,data:=.set #[] 0 (.fresh 0 0 led) }:Obj)=no at *;have szp:(s.heap.push no).objs.size=s.heap.objs.size+1:=Heap.size_push ..;have hneI:l≠(s.heap.push no).objs.size:=by rw[szp];exact Zi (UD hlS)
    have hSf:s.heap.objs.size ∉ [(s.heap.push no).objs.size,l]:=by
     simp only[UB,UM,or_false,not_or];exact⟨by rw[szp];exact Zi (Vm _),U1 hlS⟩
    have W:=(Walks.list (prog:=prog) (w:=w) hh3 _ l hneI items).toS;rw[hsz] at W;refine Se W s.heap.objs.size hSf (λi v k hv hk=>hval i v k hv hk) hn (ks.length-0) 0 _ rfl (Ue _)
     ⟨⟨_,Zr _ rfl,rfl,rfl⟩,(hl1.push _)⟩ (Sf (by rw[hno];exact Zq _ hS)) λs' hm H'=>?_
    .obtain⟨h',g',d',tk',os'⟩:=s';have eg:g'=s.gens:=hm.gens;have ed:d'=s.drawn:=hm.drawn;have eo:os'=s.os:=hm.os;subst eg;subst ed;subst eo;show wpAny _ _ _ _ _ _;refine Zb ?_;show wpAny _ _ (ret Value.none) _ _ _;refine Zb ⟨rfl,h',tk',rfl,H',λb o hb e=>?_⟩;exact hm.heap b o (by simp only[UB,UM,or_false,not_or];exact⟨Zi hb,by rw[szp];exact Zi (UD hb)⟩) (Zq _ (Zq _ e))
   .cases r₂ with
    |error e=>exact hr₂
    |ok fl₂ =>
     cases fl₂ with
     |ret r =>
      obtain⟨rfl,h',tk,rfl,hS',hk'⟩:=hr₂
      repeat (any_goals (first|assumption|wp_step))
      exact h _ _ hS' hk'
     |_=>exact hr₂.elim
  |_=>exact hr.elim
end
def A9 (X:Cx)(S:Addr)(n:Nat):HO:=.ext λh=>∃T,h.SetOf (Qg X.prog X.w) S T n
def HM (X:Cx):Yw->Hp->VK->Prop:=λxs H Q=>∃a ks,xs=[.ref a]/\Rd H a (.lst (ks.map kV))/\ks.length<=999/\∀S,H S=none->Q (.ref S) (upd H S (A9 X S (dedL ks).length))
def HN (X:Cx):Yw->Hp->VK->Prop:=λxs H Q=>∃S n,xs=[.ref S]/\H S=some (A9 X S n)/\n<=999/\Q (.int n) H
section
variable {X:Cx}
def call_setK (hc:X.calm=true):za1 X (.type "set") (HM X):=by
 intro Y s Z H xs us Q I rv h;obtain⟨a,ks,rfl,ha,hn,q⟩:=h;obtain⟨u,rfl,ru⟩:=Q7 rv;obtain rfl:u=Value.ref a:=ru;obtain⟨its,ri,pl,hz⟩:=I.list (.inl ha);have l2:=ri.length;rw[Zql] at l2;refine Sg (I.ok.hd hc) pl.isList (ks:=ks) (by rw[Zm];omega) (λi v k hv hk=>?_) hn λh' tk H' kk=>?_
 .obtain⟨v',hv',rr⟩:=ri.get (i:=i) (x:=kV k) (by rw[Zv,hk];rfl);rw[List.getElem?_toArray,hv'] at hv;obtain rfl:=Zqi hv;exact Wh (P:=X.prog) (w:=X.w) rr
 .refine⟨.ref s.heap.objs.size,upd H s.heap.objs.size (A9 X s.heap.objs.size (dedL ks).length),I.laid (t':=tk) (λb o e=>kk b o (Zk e) e) (Zf _) ?_,rfl,q _ (I.hok.fresh (Zf _))⟩;obtain⟨o,es,ep,t,ho,r⟩:=id H';refine⟨⟨_,H'⟩,⟨_,ho⟩,λh1 h2 z kp=>?_⟩;obtain⟨T,o,es,ep,t,ho,r⟩:=z;exact⟨T,o,es,ep,t,kp _ ho,r⟩
def call_lenK:za1 X (.builtin "len") (HN X):=by
 intro Y s Z H xs us Q I rv h;obtain⟨S,n,rfl,hS,hn,q⟩:=h;obtain⟨u,rfl,ru⟩:=Q7 rv;obtain rfl:u=Value.ref S:=ru;obtain⟨⟨T,o,es,ep,t,ho,hex,hd,_,_,hb,hf,he⟩,_,_⟩:=(show zbj X.prog X.w H s.heap S (A9 X S n) from I.hok S _ hS);exact call_len_set ho hex hd hf () ⟨.int n,H,I.tok _,⟨_,by rw[he]⟩,q⟩
end
end L2.ST
namespace L2.DL
open PySem PySem.Spec PyProof.Rows L2.ST
def AA:Yy->Yz
 | [.lst ds]=>(Qh Qn ds).bind λks=>if ks.length<=999 then some (.int (dedL ks).length) else none
 |_=>none
theorem HQ {K:W.Frag}{F:Hp}:∀{ds:Yy} {ks:List Key} {vs:Yw},Qh Qn ds=some ks->IsDs K F ds vs->vs=ks.map kV
 | [],ks,vs,h,i=>by
  rw[IsDs.nil_iff] at i;obtain rfl:=Zqi h;exact i
 |d::ds,ks,vs,h,i=>by
  rw[IsDs.cons_iff] at i;obtain⟨x,r,rfl,h2,h3⟩:=i;obtain⟨k,hk,h⟩:=Jg.mp (show(Qn d).bind (λx=>(Qh Qn ds).map λxs=>x::xs)=some ks from h);obtain⟨l,hl,rfl⟩:=Ji.mp h;rw[WF hk h2,HQ hl h3];rfl
section
variable {X:Cx}{E:XK}{fr:FA}{es:Yj}{e:Expr}
def Sh (h:∀{ta:TA},PA X es ta->PE X e (tCB (HN X) (ZQ (tCB (HM X) ta) tNil)))(ha:QA X E es fr):QE X E e (dBlt AA fr):=PE.weak (h ha) λZ H Q ⟨B,F,sd,r,n⟩=>by
 refine⟨B,F,sd,r,(Res.need_bind n).mono (λds n1 vs F1 H1 e1 i1=>?_) λ_ _ q=>q⟩;obtain⟨z,hz,q⟩:=Res.need_ofO n1;unfold AA at hz
 split at hz
 .obtain⟨ks,h1,hz⟩:=Jg.mp hz
  split at hz
  .rename_i hc;obtain rfl:=Zqi hz;obtain⟨v,rfl,h⟩:=Qu i1;rw[IsD.lst_iff] at h;obtain⟨a,ys,rfl,g1,g2⟩:=h;obtain rfl:=HQ h1 g2;have hl:=HK ks;refine⟨a,ks,rfl,g1.same e1.fh,hc,λS hS=>⟨S,_,rfl,JL,(),?_⟩⟩;exact q _ F1 _ (e1.trans (.keep e1.fh hS _)) (IsD.int_iff.mpr rfl)
  .exact J3 hz
 .exact J3 hz
end
end L2.DL
namespace L2
section
variable {X:Cx}{Y:Yb}{Z: St}{H:Hp}{s:Shared}
def Inv.freeze (I:Inv X Y Z H s)(h:H d=some (.dK kvs))(ho:s.heap.get? d=some o):Inv X Y Z (upd H d (.frz o (.dK kvs))) s:=by
 refine I.step (h':=s.heap) (g':=s.gens) (d':=s.drawn) (t':=s.toks) (ch:=[]) (λb hb=>nomatch hb) (λb o _ _ _ e _=>e) (λb o _ _ _ e _=>⟨o.slots,e⟩) (λb o _ _ n=>?_) (λb o _ e=>⟨o,e⟩) (λb xs e=>?_) (λb o u e=>?_) (λb ps e=>⟨#[],?_⟩) (λm hm=>hm) (λb u e=>?_) I.bare
 .rw[JC λz=>by rw[z,h] at n;cases n];exact n
 .rw[JC λz=>by rw[z,h] at e;cases e];exact e
 .rw[JC λz=>by rw[z,h] at e;cases e];exact e
 .rw[JC (λz=>by rw[z,h] at e;cases e),e];simp
 .by_cases nb:b=d
  .subst nb;rw[JL] at e;obtain rfl:=Zqi e;exact⟨ho,(I.hok b _ h).stay (λ_ _ _ q=>q) (λc q=>by rw[JC λz=>by rw[z,h] at q;cases q];exact q) λc xs q=>by rw[JC λz=>by rw[z,h] at q;cases q];exact q⟩
  .rw[JC nb] at e;exact(I.hok b u e).stay (λ_ _ _ q=>q) (λc q=>by rw[JC λz=>by rw[z,h] at q;cases q];exact q) λc xs q=>by rw[JC λz=>by rw[z,h] at q;cases q];exact q
end
def Itd (d:Addr)(o:Obj)(kvs:List (Key×V)):It:=
 ⟨λi H=>H d=some (.frz o (.dK kvs))/\i<kvs.length,
  λi H v H'=>∃T k x,v=.ref T/\H T=none/\H'=upd H T (.tup [kV k,x])/\kvs[i]? = some (k,x),
  λi H=>H d=some (.frz o (.dK kvs))/\kvs.length<=i⟩
def Si (it d:Addr)(n ep i:Nat)(h:Heap):Prop:=∃ok ov,IsItemIter h it d i n ep ok ov
theorem KV.at {κ: Type}:∀{l1:List (κ × V)} {l2:List (κ × Value)} {i:Nat} {a:κ × V},KV l1 l2->l1[i]? = some a->∃v,l2[i]? = some (a.1,v)/\RelV a.2 v:=by
 intro l1 l2 i a hkv;unfold KV at hkv
 induction hkv generalizing i with
 |nil=>intro e;simp at e
 | @cons p q _ _ hh tt ih =>
  cases i with
  |zero =>
   intro e1;simp at e1;subst e1;exact⟨q.2,by rw[hh.1];rfl,hh.2⟩
  |succ i =>
   intro e1;obtain⟨v,h1,h2⟩:=ih (by simpa using e1);exact⟨v,by simpa using h1,h2⟩
def kV_of (h:K3 k v=true):RelV (kV k) v:=by
 rcases Kv h with ⟨i,t,rfl,rfl⟩|⟨x,t,rfl,rfl⟩
 .exact⟨t,rfl⟩
 .exact⟨t,rfl⟩
def HR (hep:∀es ep',o.data=.dict es ep'->ep'=ep)(I:Inv X Y Z H s)(h:H d=some (.frz o (.dK kvs))):
 ∃vs,KV kvs vs/\s.heap.DictAt (Qg X.prog X.w) d vs ep:=by
 obtain⟨ho,_,_,vs,rel,o',es,ep',e1,e2,e3,r⟩:=(show zbj X.prog X.w H s.heap d (.frz o (.dK kvs)) from I.hok d _ h);rw[ho] at e1;obtain rfl:=Zqi e1;have:=hep es ep' e3;subst this;exact⟨vs,rel,o,es,ho,e2,e3,r⟩
def Sj:entryFor table "dict_itemiterator.__iter__" = some Builtin.«dict_keyiterator.__iter__» :=
 entryFor_alias (id':= "dict_keyiterator.__iter__") (by kernel_rfl) (by first|rfl|decide +kernel) (by decide +kernel) (by kernel_rfl)
def Sk {P:Program}{w:World}{K:W.Frag}{elts:Yj}{kx}{pos:Pos}(d it:Addr)(o:Obj)(kvs:List (Key×V))(ep:Nat)(hep:∀es ep',o.data=.dict es ep'->ep'=ep):Turn P w K (.Tuple elts kx pos) (Itd d o kvs) [it] it (Si it d kvs.length ep) where
 mem:=by simp
 obj:=λi h st c hc=>by
  obtain⟨ok,ov,he⟩:=st;rw[Vu.mp hc];exact⟨_,he,λv q=>by cases q⟩
 keep:=λi h h' st kk=>by
  obtain⟨ok,ov,he⟩:=st;exact⟨ok,ov,kk it (by simp) _ he⟩
 item:=by
  intro X hP hw hK hc i Y s Z H E I hf st hg;subst hP hw hK;obtain⟨hd,hi⟩:=hg;obtain⟨vs,rel,hat⟩:=HR hep I hd;obtain⟨ok,ov,he⟩:=st;have hl:kvs.length=vs.length:=rel.length;rw[hl] at he;obtain⟨v,hv,rv⟩:=KV.at rel (Zqg hi);refine wpAny_pyNext_items_item he hat hv λkey h' hkey heo ht hz kk=>?_;refine⟨_,rfl,wpAny_letOwnedTupleGo_items (s:={ s with heap:=h' }) heo λh2 b1 sb=>?_⟩;have sb:Heap.SameBut it h' h2:=sb;have lt:it≠s.heap.objs.size:=Zi (Zk he);have I2:=I.paired (t':=s.toks) (h':=h2) (ch:=[it]) (kV_of hkey) rv hf (λc hc=>by rw[Vu.mp hc];exact lt) (sb.extBut _ _ (Ne.symm lt) ht) (λc o hc q=>by
   have hc:c≠it:=λz=>hc (by simp[z]);exact sb.extBut c o hc (kk c o hc q))
  refine⟨.ref s.heap.objs.size,_,I2,rfl,⟨_,_,_,rfl,I.hok.fresh (Zf _),rfl,Zqg hi⟩,⟨key,v,by rw[hl];exact b1⟩,λc hc=>?_⟩;rw[Vu.mp hc];exact(JC lt).trans (hf it (by simp)).1
 done:=by
  intro X hP hw hK hc i Y s Z H E I hf st hg;subst hP hw hK;obtain⟨hd,hi⟩:=hg;obtain⟨vs,rel,hat⟩:=HR hep I hd;obtain⟨ok,ov,he⟩:=st;have hl:kvs.length=vs.length:=rel.length;rw[hl] at he;refine wpAny_pyNext_items_end (I.ok.hd hc) he hat (UF ()) λh' eb=>⟨rfl,I.turnedL (t':=s.toks) (ch:=[it]) (λc o hc q=>?_) λc hc=>hf c hc⟩;exact eb c o (λz=>hc (by simp[z])) q
 self:=λA i s Q E st h=>by
  obtain⟨ok,ov,he⟩:=st;have hT:s.TypeIs (.ref it) "dict_itemiterator" := ⟨_,he,rfl⟩;refine wpAny_pyIter_slot hT PySem.F.slot_dict_itemiterator_iter (wpAny_call_entry PySem.F.slot_dict_itemiterator_iter hT Sj ?_ (PySem.F.args_dict_itemiterator_iter_1 _));show wpAny _ _ (ret (.ref it)) _ _ s;exact Zb ⟨_,rfl, "dict_itemiterator",_,hT,PySem.F.slot_dict_itemiterator_next.lookup,h⟩
section
variable {X:Cx}
def rView:V->Yw->Hp->VK->Prop:=λx vs H Q=>∃d kvs,x=.ref d/\vs=[]/\H d=some (.dK kvs)/\∀p,H p=none->Q (.ref p) (upd H p (K4 p d))
def Sl (R:It->Hp->Prop):VK:=λx H2=>∃p d kvs,x=.ref p/\H2 p=some (K4 p d)/\H2 d=some (.dK kvs)/\∀o,R (Itd d o kvs) (upd H2 d (.frz o (.dK kvs)))
def Sm (K:W.Frag)(te:TE):TI:=λZ H R=>tBM0 K "dict" rView te Z H (Sl R)
def Sn {e:Expr}{te:TE}{apos cpos:Pos}{elts:Yj}{kx}{tp:Pos}(he:PE X e te)
 (hbase:attributeBase e "items" X.env (eval e X.env)=eval e X.env:=by rfl) (hline:(apos.endLine == cpos.line)=true:=by rfl):
 PI X (.Tuple elts kx tp) (.Call (.Attribute e "items" apos) [] [] cpos) (Sm X.K te):=by
 intro Y s Z H R I h;refine thn (Ev PySem.F.plainAttrs_dict PySem.F.slot_dict_items PySem.F.type_dict_items Fv he hbase hline Y s Z H _ I h) λu s1 ⟨x,H2,I1,r1,p,d,kvs,ex,hp,hd2,q⟩=>?_;subst ex;obtain rfl:u=Value.ref p:=r1;obtain⟨hview,_,_⟩:=(show zbj X.prog X.w _ s1.heap p (K4 p d) from I1.hok p _ hp);obtain⟨_,_,vs,rel,o,es,ep,d1,d2,d3,dr⟩:=ZS I1.hok hd2;have hat:s1.heap.DictAt (Qg X.prog X.w) d vs ep:=⟨o,es,d1,d2,d3,dr⟩;have hl:kvs.length=vs.length:=rel.length;have I2:=I1.freeze hd2 d1;refine wpAny_pyIter_items hview hat ?_;refine⟨s1.heap.objs.size,[s1.heap.objs.size],_,_,_,rfl,I2.kept (t':=s1.toks) (λb o e=>Zq _ e),Sk d s1.heap.objs.size o kvs ep (λes' ep' z=>by rw[d3] at z;cases z;rfl),⟨_,_,by rw[hl];exact Zr _ rfl⟩,λc hc=>?_,q o⟩;rw[Vu.mp hc];exact I2.fpOk (Zf _) (I2.hok.fresh (Zf _))
end
end L2
namespace L2.DL
def keyD:Key->D
 | .inl i=>.int i
 | .inr x=>.str x
def Wz (ks:List Key)(ds:Yy):Yy:=List.zipWith (λk x=>D.tup [keyD k,x]) ks ds
def YI:D->Res Yy
 | .dct ks ds=>.ok (Wz ks ds)
 |_=>.no
def iIt (f:FE):FA:=λsd=>(f sd).bind YI
@[simp]def ev_iIt (f:FE)(sd:SD):iIt f sd=(f sd).bind YI:=rfl
@[simp]def zty (ks:List Key)(ds:Yy):YI (.dct ks ds)=.ok (Wz ks ds):=rfl
def So (K:W.Frag)(F:Hp)(k:Key):IsD K F (keyD k) (kV k):=by
 cases k with
 |inl i=>exact IsD.int_iff.mpr rfl
 |inr x=>exact IsD.str_iff.mpr rfl
def Sq {K:W.Frag}{F1:Hp}{d:Addr}{o:Obj}{ks:List Key}{ds:Yy}{xs:Yw}(h:F1 d=some (.frz o (.dK (ks.zip xs))))(hl:ks.length=xs.length)(i1:IsDs K F1 ds xs):Walk K F1 (Itd d o (ks.zip xs)) (Wz ks ds):=λi F2 H2 s1 s2=>by
 have p1:=s2 _ _ (s1 _ _ h);have l1:=i1.length;have lz:(ks.zip xs).length=ks.length:=by rw[List.length_zip];omega
 have li:(Wz ks ds).length=ks.length:=by unfold Wz;rw[List.length_zipWith];omega
 rw[li];refine⟨λhi=>⟨⟨p1,()⟩,λv H3 yl=>?_⟩,λhi=>⟨p1,()⟩⟩;obtain⟨T,k,x,rfl,hT,rfl,hk⟩:=yl;have hd:i<ds.length:=()
 obtain⟨x',hx,ix⟩:=i1.get (Zqg hd);rw[VJ] at hk;obtain⟨hk,hx2⟩:=hk;have hk:ks[i]? = some k:=hk;have hx2:xs[i]? = some x:=hx2;rw[hx] at hx2;cases  hx2;have ea:=Ext.alloc s2 hT (.tup [kV k,x]);refine⟨.tup [keyD k,ds[i]],_,?_,ea,IsD.tup_iff.mpr ⟨T,_,rfl,.of JL,.mk (So K _ k) (.mk (IsD.same (s1.trans ea.ff) _ _ ix) .nil)⟩⟩;unfold Wz;rw[List.getElem?_zipWith,hk,Zqg hd]
section
variable {X:Cx}{E:XK}{f:FE}{tp apos cpos:Pos}{elts:Yj}{e:Expr}
def Sr {kx}(hn:QN X E e f)(hbase:attributeBase e "items" X.env (eval e X.env)=eval e X.env:=by rfl)(hline:(apos.endLine == cpos.line)=true:=by rfl):
 QI X E (.Tuple elts kx tp) (.Call (.Attribute e "items" apos) [] [] cpos) (iIt f):=PI.weak (Sn hn hbase hline) λZ H R ⟨B,F,sd,r,n⟩=>by
 refine⟨B,F,sd,r,(Res.need_bind n).mono (λz n1 l F1 H1 e1 hl fl ow=>?_) λ_ _ q=>q⟩;unfold YI at n1
 split at n1
 .rename_i ks ds;obtain⟨xs,h1,h2,h3⟩:=ow;refine⟨.inr (.inr (.inl ⟨rfl,.inl ⟨_,h1⟩⟩)),l,ks.zip xs,rfl,rfl,h1,λp hp=>⟨p,l,ks.zip xs,rfl,JL,?_,λo=>?_⟩⟩
  .have hlp:l≠p:=λz=>by rw[z,hp] at h1;exact J3 h1
   exact(JC hlp).trans h1
  .have fp:F1 p=none:=Qv e1.fh hp;have Hp:H p=none:=Qv e1.hh hp;have hlp:l≠p:=λz=>by rw[z,hp] at h1;exact J3 h1
   refine n1 _ (upd F1 l (.frz o (.dK (ks.zip xs)))) _ ⟨e1.ff.trans (Kh fl _),λb u q=>?_,λb u q=>?_,λb q1 q2=>?_⟩ (Sq JL h2 (IsDs.same (Kh fl _) _ _ h3))
   .by_cases z:b=l
    .subst z;rw[JL] at q ⊢;exact q
    .rw[JC z] at q ⊢;have:b≠p:=λy=>by rw[y,fp] at q;exact J3 q
     rw[JC this];exact e1.fh _ _ q
   .have z:b≠l:=λy=>by rw[y,hl] at q;exact J3 q
    have y:b≠p:=λy=>by rw[y,Hp] at q;exact J3 q
    rw[JC z,JC y];exact e1.hh _ _ q
   .have z:b≠l:=λy=>q2 (by rw[y];exact hl);rw[JC z];exact e1.new b q1 q2
 .exact n1.elim
end
def aug1 (i:Nat)(sd:SD):Option (Option SV)->Res D->Res Out
 |some (some (.val (.int a))),r=>r.bind λd=>match d with
  | .int b=>.ok (.next (sd.set i (some (.val (.int (a+b))))))
  |_=>.no
 |_,_=>.no
def sAug (i:Nat)(f:FE):FS:=λsd=>aug1 i sd sd[i]? (f sd)
@[simp]def ev_aug (i:Nat)(f:FE)(sd:SD):sAug i f sd=aug1 i sd sd[i]? (f sd):=rfl
@[simp]def aug1_int (i:Nat)(sd:SD)(a b:Int):aug1 i sd (some (some (.val (.int a)))) (.ok (.int b))=.ok (.next (sd.set i (some (.val (.int (a+b)))))):=rfl
def Ss (hN:X.N.Nodup)(hi:X.N[i]? = some x)(hx:Loc X.env.scope x)(he:QE X E e fe)
 (hf:X.fn x=true\/X.env.scope.names.lookup x=some .local:=by trivial):QS X E m (.AugAssign (.Name x pos') .Add e pos) (sAug i fe):=PS.weak (Lz hN hi hx he L1 hf) λT Z H ⟨B,F,sd,r,n⟩=>by
 unfold sAug at n;generalize hq:sd[i]? = q at n;cases q with
 |none=>exact False.elim n
 |some q=>cases q with
  |none=>exact False.elim n
  |some q=>cases q with
   |own p d=>exact False.elim n
   |val d=>cases d with
    |int a =>
     obtain⟨v,h1,h2⟩:=r.val hq;rw[IsD.int_iff] at h2;subst h2;have n:((fe sd).bind λd=>match d with
      | .int b=>Res.ok (Out.next (sd.set i (some (.val (.int (a+b))))))
      |_=>.no).need _ _:=n
     refine⟨_,h1,B,F,sd,r,(Res.need_bind n).mono (λd n1 v F1 H1 e1 i1=>?_) λ_ _ q=>q.ext r.ext⟩;cases d with
     |int b =>
      rw[IsD.int_iff] at i1;exact⟨_,_,rfl,i1,n1 _ F1 H1 e1.ff ((r.step e1).setVal (IsD.int_iff.mpr rfl))⟩
     |_=>exact False.elim n1
    |_=>exact False.elim n
def dTmp0 (is:Yg)(f:FE):FE:=λsd=>(f (frzD is sd)).strict.bind λd=>if Qk d then .ok d else .no
def Su (is:Yg)(f:FT):FT:=λsd=>(f (frzD is sd)).strict
@[simp]def ev_tmp0 (is:Yg)(f:FE)(sd:SD):dTmp0 is f sd=(f (frzD is sd)).strict.bind λd=>if Qk d then .ok d else .no:=rfl
@[simp]def ev_tmpT0 (is:Yg)(f:FT)(sd:SD):Su is f sd=(f (frzD is sd)).strict:=rfl
section
variable {X:Cx}{E:XK}{m:Option Bool}{pos:Pos}{e:Expr}{fe:FE}
def sOwnM (i:Nat)(f:FE):FS:=λsd=>(f sd).bind λd=>.ok (.next (sd.set i (some (if Qk d then .val d else .own false d))))
def sRetS (f:FE):FS:=λsd=>(f sd).bind λd=>if Qk d then .ok (.ret d) else .no
def Sv (f:FE):FS:=λsd=>(f sd).bind λd=>if Qk d then .no else .ok (.ret d)
end
end L2.DL
namespace L2
end L2
namespace L2.DL
section
variable {X:Cx}{E:XK}{m:Option Bool}{pos:Pos}
def sAsg (f:FE)(tg:Tg):FS:=λsd=>(f sd).bind λd=>(Qa tg d sd).bind λsd'=>.ok (.next sd')
@[simp]def ev_asg (f:FE)(tg:Tg)(sd:SD):sAsg f tg sd=(f sd).bind λd=>(Qa tg d sd).bind λsd'=>.ok (.next sd'):=rfl
end
def CH (n ar j:Nat)(g:FS)(ds:Yy):Res D:=if ds.length=ar then(g (Xl n j ds)).bind λo=>match o with
 | .ret d=>.ok d
 | .next _=>.ok .non
 |_=>.no else .no
def Sw (n ar j:Nat)(g:FS)(ds:Yy)(h:ds.length=ar):CH n ar j g ds=(g (Xl n j ds)).bind outV:=by
 unfold CH;rw[Zd h];cases g (Xl n j ds) with
 |ok o=>cases o<;>rfl
 |ex c fs=>rfl
 |no=>rfl
@[simp]def run_dO3 (n:Nat)(g:FS)(a b c:D):CH n 3 0 g [a,b,c]=(g (some (.own false a)::some (.val b)::some (.val c)::List.replicate (n-3) none)).bind outV:=Sw n 3 0 g [a,b,c] rfl
section
variable {X:Cx}{pos:Pos}
def dHand (i:Nat)(Fn:Yy->Res D)(fr:FA):FE:=λsd=>match sd[i]? with
 |some (some (.own _ d))=>(fr sd).bind λds=>Fn (d::ds)
 |_=>.no
@[simp]def ev_hand (i:Nat)(Fn:Yy->Res D)(fr:FA)(sd:SD):dHand i Fn fr sd=match sd[i]? with
 |some (some (.own _ d))=>(fr sd).bind λds=>Fn (d::ds)
 |_=>.no:=rfl
def dLits (ds:Yy):FA:=λ_=>.ok ds
@[simp]def ev_lits (ds:Yy)(sd:SD):dLits ds sd=.ok ds:=rfl
end
abbrev HP:=List (Addr×D)
def hpAt:HP->Addr->Yz
 | [],_=>none
 |p::r,a=>if a=p.1 then some p.2 else hpAt r a
mutual
def der (hp:HP):D->D
 | .adr a=>match hpAt hp a with
  |some d=>d
  |none=>.adr a
 | .lst ds=>.lst (ders hp ds)
 | .non=>.non
 | .bl b=>.bl b
 | .int i=>.int i
 | .str x=>.str x
 | .ty n=>.ty n
 | .scr ns=>.scr ns
 | .tup ds=>.tup ds
 | .dct ks ds=>.dct ks ds
 | .ins c fs ds=>.ins c fs ds
 | .exc c=>.exc c
 | .ucl c=>.ucl c
 | .dcf ks ds=>.dcf ks ds
 | .pin a d=>.pin a d
def ders (hp:HP):Yy->Yy
 | []=>[]
 |d::ds=>der hp d::ders hp ds
end
section
variable {K:W.Frag}{B:Bs}{F H:Hp}{sd:SD}{hp:HP}{Z: St}
def derI (hp:HP):Yg->SD->SD
 | [],sd=>sd
 |i::is,sd=>derI hp is (match sd[i]? with
  |some (some (.val d))=>sd.set i (some (.val (der hp d)))
  |_=>sd)
def Sx {α: Type}{l:List α}{a:α}(h:l[i]? = some a):l.set i a=l:=by
 apply VE;intro j;by_cases z:i=j
 .subst z;rw[U0 (Jb.mp h).1,h]
 .rw[Zx z]
end
inductive Out2 where
 |next (sd:SD) (hp:HP)|ret (d:D)|brk (sd:SD) (hp:HP)|cont (sd:SD) (hp:HP)
abbrev FS2:=SD->HP->Res Out2
def up2 (hp:HP):Out->Out2
 | .next sd=>.next sd hp
 | .ret d=>.ret d
 | .brk sd=>.brk sd hp
 | .cont sd=>.cont sd hp
section
variable {X:Cx}{E:XK}{m:Option Bool}{st:Stmt}{sts:List Stmt}{g:FS}{g1 g2:FS2}{pos pos':Pos}{o i e:Expr}{fo fi fv:FE}
def s2L (g:FS):FS2:=λsd hp=>(g sd).bind λo=>.ok (up2 hp o)
def s2F (is:Yg)(g:FS):FS2:=λsd hp=>(g (derI hp is sd)).bind λo=>.ok (up2 [] o)
def Sy:FS2:=λsd hp=>.ok (.next sd hp)
def HS (g1 g2:FS2):FS2:=λsd hp=>(g1 sd hp).bind λo=>match o with
 | .next sd' hp'=>g2 sd' hp'
 |o=>.ok o
abbrev FT2:=SD->HP->Res Bool
def t2L (f:FT):FT2:=λsd _=>f sd
def t2R (is:Yg)(f:FT):FT2:=λsd hp=>(f (derI hp is sd)).bare
def s2If (c:FT2)(g1 g2:FS2):FS2:=λsd hp=>(c sd hp).bind λb=>if b then g1 sd hp else g2 sd hp
def for2 (b:D->FS2):Yy->FS2
 | [],sd,hp=>.ok (.next sd hp)
 |x::xs,sd,hp=>(b x sd hp).bind λo=>match o with
  | .next sd' hp'=>for2 b xs sd' hp'
  | .cont sd' hp'=>for2 b xs sd' hp'
  | .brk sd' hp'=>.ok (.next sd' hp')
  | .ret d=>.ok (.ret d)
def CI (tg:Tg)(b:FS2)(x:D):FS2:=λsd hp=>(Qa tg x sd).bind λs=>b s hp
def s2For (it:FA)(tg:Tg)(b:FS2):FS2:=λsd hp=>(it sd).bind λds=>for2 (CI tg b) ds sd hp
end
open Classical in
noncomputable def allA (n:Nat)(g:Yi->Res Out):Res Out:=if h:∃o,∀as:Yi,as.length=n->as.Nodup->g as=.ok o then .ok (Classical.choose h) else .no
section
variable {X:Cx}{E:XK}{m:Option Bool}{pos pos':Pos}
def ret2:Out2->Res Out
 | .ret d=>.ok (.ret d)
 |_=>.no
noncomputable def sAll (i:Nat)(fr:FA)(g:FS2):FS:=λsd=>(fr sd).bind λds=>if ds.length<=1000 then allA ds.length (λas=>(g (sd.set i (some (.val (.lst (as.map .adr))))) (as.zip ds)).bind ret2) else .no
end
@[simp]def up2_next (hp:HP)(sd:SD):up2 hp (.next sd)=.next sd hp:=rfl
@[simp]def up2_ret (hp:HP)(d:D):up2 hp (.ret d)=.ret d:=rfl
@[simp]def up2_brk (hp:HP)(sd:SD):up2 hp (.brk sd)=.brk sd hp:=rfl
@[simp]def up2_cont (hp:HP)(sd:SD):up2 hp (.cont sd)=.cont sd hp:=rfl
@[simp]def ev_s2L (g:FS)(sd:SD)(hp:HP):s2L g sd hp=(g sd).bind λo=>.ok (up2 hp o):=rfl
def seq2 (g:FS2):Out2->Res Out2
 | .next sd hp=>g sd hp
 |o=>.ok o
@[simp]def zxq (g:FS2)(sd:SD)(hp:HP):seq2 g (.next sd hp)=g sd hp:=rfl
@[simp]def seq2_ret (g:FS2)(d:D):seq2 g (.ret d)=.ok (.ret d):=rfl
@[simp]def seq2_brk (g:FS2)(sd:SD)(hp:HP):seq2 g (.brk sd hp)=.ok (.brk sd hp):=rfl
@[simp]def zur (g:FS2)(sd:SD)(hp:HP):seq2 g (.cont sd hp)=.ok (.cont sd hp):=rfl
@[simp]def ev_s2Seq (g1 g2:FS2)(sd:SD)(hp:HP):HS g1 g2 sd hp=(g1 sd hp).bind (seq2 g2):=by
 unfold HS;cases g1 sd hp with
 |ok o=>cases o<;>rfl
 |ex c fs=>rfl
 |no=>rfl
@[simp]def zuD (sd:SD)(hp:HP):Sy sd hp=.ok (.next sd hp):=rfl
@[simp]def ev_s2If (c:FT2)(g1 g2:FS2)(sd:SD)(hp:HP):s2If c g1 g2 sd hp=(c sd hp).bind λb=>if b then g1 sd hp else g2 sd hp:=rfl
@[simp]def ev_t2L (f:FT)(sd:SD)(hp:HP):t2L f sd hp=f sd:=rfl
@[simp]def ev_t2R (is:Yg)(f:FT)(sd:SD)(hp:HP):t2R is f sd hp=(f (derI hp is sd)).bare:=rfl
@[simp]def ev_s2F (is:Yg)(g:FS)(sd:SD)(hp:HP):s2F is g sd hp=(g (derI hp is sd)).bind λo=>.ok (up2 [] o):=rfl
@[simp]def ev_s2For (it:FA)(tg:Tg)(b:FS2)(sd:SD)(hp:HP):s2For it tg b sd hp=(it sd).bind λds=>for2 (CI tg b) ds sd hp:=rfl
def adrOf:D->Res Addr
 | .adr a=>.ok a
 |_=>.no
@[simp]def ztI (a:Addr):adrOf (.adr a)=.ok a:=rfl
def dctAt:Yz->Res (List Key×Yy)
 |some (.dct ks ds)=>.ok (ks,ds)
 |_=>.no
@[simp]def ztK (ks:List Key)(ds:Yy):dctAt (some (.dct ks ds))=.ok (ks,ds):=rfl
@[simp]def derI_nil (hp:HP)(sd:SD):derI hp [] sd=sd:=rfl
def der1 (hp:HP)(i:Nat)(sd:SD):Option (Option SV)->SD
 |some (some (.val d))=>sd.set i (some (.val (der hp d)))
 |_=>sd
@[simp]def der1_val (hp:HP)(i:Nat)(sd:SD)(d:D):der1 hp i sd (some (some (.val d)))=sd.set i (some (.val (der hp d))):=rfl
@[simp]def der1_own (hp:HP)(i:Nat)(sd:SD)(p:Bool)(d:D):der1 hp i sd (some (some (.own p d)))=sd:=rfl
@[simp]def zw1 (hp:HP)(i:Nat)(sd:SD):der1 hp i sd (some none)=sd:=rfl
@[simp]def zxI (hp:HP)(i:Nat)(is:Yg)(sd:SD):derI hp (i::is) sd=derI hp is (der1 hp i sd sd[i]?):=by
 show derI hp is _=derI hp is _
 congr 1
@[simp]def ret2_ret (d:D):ret2 (.ret d)=.ok (.ret d):=rfl
@[simp]def for2_nil (b:D->FS2)(sd:SD)(hp:HP):for2 b [] sd hp=.ok (.next sd hp):=rfl
def forK2 (b:D->FS2)(xs:Yy):Out2->Res Out2
 | .next sd hp=>for2 b xs sd hp
 | .cont sd hp=>for2 b xs sd hp
 | .brk sd hp=>.ok (.next sd hp)
 | .ret d=>.ok (.ret d)
@[simp]def zt4 (b:D->FS2)(xs:Yy)(sd:SD)(hp:HP):forK2 b xs (.next sd hp)=for2 b xs sd hp:=rfl
@[simp]def ev_body2 (tg:Tg)(b:FS2)(x:D)(sd:SD)(hp:HP):CI tg b x sd hp=(Qa tg x sd).bind λs=>b s hp:=rfl
@[simp]def gIx_dcf (ks:List Key)(ds:Yy)(k:Int):gIx (.dcf ks ds) (.int k)=valD ks ds (.inl k):=rfl
@[simp]def gIn_dcf (neg:Bool)(ks:List Key)(ds:Yy)(k:Int):gIn neg (.int k) (.dcf ks ds)=some (.bl (if neg then !(valD ks ds (.inl k)).isSome else(valD ks ds (.inl k)).isSome)):=rfl
@[simp]def ev_sAll (i:Nat)(fr:FA)(g:FS2)(sd:SD):sAll i fr g sd=(fr sd).bind λds=>if ds.length<=1000 then allA ds.length (λas=>(g (sd.set i (some (.val (.lst (as.map .adr))))) (as.zip ds)).bind ret2) else .no:=rfl
abbrev NewD:=(Yi->D)×Yy
abbrev FH:=SD->Res NewD
def Sz (cap:List (Option Nat))(it:FA)(tg:Tg)(f:FE):FH:=λsd=>(it sd).bind λds=>if KB (capD cap sd) tg=true/\ds.length<sizeLine then
 (mapE tg f (capD cap sd) ds).bind λys=>.ok (λas=>.lst (as.map .adr),ys) else .no
section
variable {X:Cx}{E:XK}{m:Option Bool}{pos pos':Pos}
def mkL:List NewD->List Addr->Yy
 | [],_=>[]
 |x::xs,as=>x.1 (as.take x.2.length)::mkL xs (as.drop x.2.length)
def osL:List NewD->Yy
 | []=>[]
 |x::xs=>x.2++osL xs
abbrev FHs:=SD->Res (List NewD)
def hNil:FHs:=λ_=>.ok []
def hCons (f:FH)(fr:FHs):FHs:=λsd=>(f sd).bind λx=>(fr sd).bind λxs=>.ok (x::xs)
def hLst (fr:FHs):FH:=λsd=>(fr sd).bind λxs=>if xs.length<=1000 then .ok (λas=>.lst (mkL xs as),osL xs) else .no
def hCall (Fn:Yy->Res NewD)(fr:FA):FH:=λsd=>(fr sd).bind Fn
def CJ (g:FH):Out->Res NewD
 | .next sd=>g sd
 |_=>.no
def sSeqH (g1:FS)(g:FH):FH:=λsd=>(g1 sd).bind (CJ g)
end
@[simp]def ev_hNil (sd:SD):hNil sd=.ok []:=rfl
@[simp]def ev_hCons (f:FH)(fr:FHs)(sd:SD):hCons f fr sd=(f sd).bind λx=>(fr sd).bind λxs=>.ok (x::xs):=rfl
@[simp]def ev_hLst (fr:FHs)(sd:SD):hLst fr sd=(fr sd).bind λxs=>if xs.length<=1000 then .ok (λas=>.lst (mkL xs as),osL xs) else .no:=rfl
@[simp]def ev_compN (cap:List (Option Nat))(it:FA)(tg:Tg)(f:FE)(sd:SD):Sz cap it tg f sd=(it sd).bind λds=>if KB (capD cap sd) tg=true/\ds.length<sizeLine then(mapE tg f (capD cap sd) ds).bind λys=>.ok (λas=>.lst (as.map .adr),ys) else .no:=rfl
@[simp]def ev_hCall (Fn:Yy->Res NewD)(fr:FA)(sd:SD):hCall Fn fr sd=(fr sd).bind Fn:=rfl
@[simp]def ev_newD (sd:SD):WG sd=.ok (.dct [] []):=rfl
@[simp]def zt2 (g:FH)(sd:SD):CJ g (.next sd)=g sd:=rfl
@[simp]def ev_seqH (g1:FS)(g:FH)(sd:SD):sSeqH g1 g sd=(g1 sd).bind (CJ g):=rfl
@[simp]def ev_retS (f:FE)(sd:SD):sRetS f sd=(f sd).bind λd=>if Qk d then .ok (.ret d) else .no:=rfl
@[simp]def ev_retNM (f:FE)(sd:SD):Sv f sd=(f sd).bind λd=>if Qk d then .no else .ok (.ret d):=rfl
@[simp]def ev_ownM (i:Nat)(f:FE)(sd:SD):sOwnM i f sd=(f sd).bind λd=>.ok (.next (sd.set i (some (if Qk d then .val d else .own false d)))):=rfl
@[simp]def scal_lst (ds:Yy):Qk (.lst ds)=false:=rfl
end L2.DL
namespace L2
end L2
namespace L2.DL
def CK:D->Yy->Yz
 | .int i,[.int n]=>some (.bl (!decide (0<=i/\i<n)))
 |_,_=>none
def S0 (fa:FE)(fr:FA):FE:=λsd=>(fa sd).bind λx=>(fr sd).bind λns=>.ofO (CK x ns)
@[simp]def zvI (fa:FE)(fr:FA)(sd:SD):S0 fa fr sd=(fa sd).bind λx=>(fr sd).bind λns=>.ofO (CK x ns):=rfl
@[simp]def zt7 (i n:Int):CK (.int i) [.int n]=some (.bl (!decide (0<=i/\i<n))):=rfl
open PySem PySem.Spec PyProof.Rows L2
def gIsNB:D->D->Yz
 | .bl a,.bl b=>some (.bl (a != b))
 |_,_=>none
@[simp]def gIsNB_bl (a b:Bool):gIsNB (.bl a) (.bl b)=some (.bl (a != b)):=rfl
section
variable {X:Cx}{E:XK}{e:Expr}{pos:Pos}
def S3 (i:Nat):FS:=λsd=>match sd[i]? with
 |some (some (.own _ d))=>if Qk d then .no else .ok (.ret d)
 |some (some (.val d))=>if Qk d then .ok (.ret d) else .no
 |_=>.no
@[simp]def ev_retVM (i:Nat)(sd:SD):S3 i sd=match sd[i]? with
 |some (some (.own _ d))=>if Qk d then .no else .ok (.ret d)
 |some (some (.val d))=>if Qk d then .ok (.ret d) else .no
 |_=>.no:=rfl
end
@[simp]def run_nO31 (n:Nat)(g:FS)(a b c:D):Xm n 3 1 g [a,b,c]=(g (some (.val a)::some (.own false b)::some (.val c)::List.replicate (n-3) none)).bind outN:=A4 n 3 1 g [a,b,c] rfl
def S4 (i:Nat)(Fn:Yy->Res D)(fa:FE)(fr:FA):FS:=λsd=>match sd[i]? with
 |some (some (.own false d))=>(fa sd).bind λa=>(fr sd).bind λxs=>(Fn (a::d::xs)).bind λz=>.ok (.next (sd.set i (some (.own false z))))
 |_=>.no
@[simp]def ev_handN (i:Nat)(Fn:Yy->Res D)(fa:FE)(fr:FA)(sd:SD):S4 i Fn fa fr sd=match sd[i]? with
 |some (some (.own false d))=>(fa sd).bind λa=>(fr sd).bind λxs=>(Fn (a::d::xs)).bind λz=>.ok (.next (sd.set i (some (.own false z))))
 |_=>.no:=rfl
abbrev FX2:=SD->HP->Res (D×HP)
abbrev FXA2:=SD->HP->Res (Yy×HP)
abbrev FXT2:=SD->HP->Res (Bool×HP)
section
variable {X:Cx}{E:XK}{m:Option Bool}{a b e o i:Expr}{es:Yj}{fa fb fe fo fi:FE}{f2 g2:FX2}{fr:FXA2}{pos pos':Pos}
def x2L (fe:FE):FX2:=λsd hp=>(fe sd).bind λd=>.ok (d,hp)
def x2Op (g:D->D->Yz)(fa fb:FX2):FX2:=λsd hp=>(fa sd hp).bind λp=>(fb sd p.2).bind λq=>(Res.ofO (g p.1 q.1)).bind λz=>.ok (z,q.2)
def S5 (fa:FX2):FXT2:=λsd hp=>(fa sd hp).bind λp=>match p.1 with
 | .bl b=>.ok (b,p.2)
 |_=>.no
def x2Nil:FXA2:=λ_ hp=>.ok ([],hp)
def S6 (f:FX2)(g:FXA2):FXA2:=λsd hp=>(f sd hp).bind λp=>(g sd p.2).bind λq=>.ok (p.1::q.1,q.2)
def x2Tup (fr:FXA2):FX2:=λsd hp=>(fr sd hp).bind λp=>if p.1.length<=1000 then .ok (.tup p.1,p.2) else .no
def S7 (i:Nat)(f:FX2):FS2:=λsd hp=>(f sd hp).bind λp=>.ok (.next (sd.set i (some (.val p.1))) p.2)
end
section
variable {X:Cx}{E:XK}{m:Option Bool}{e:Expr}{f2 g2 ga:FX2}{g1:FS2}{fc:FXT2}{pos:Pos}{st:Stmt}{sts a:List Stmt}{c:Expr}
def eSeq (g1:FS2)(g2:FX2):FX2:=λsd hp=>(g1 sd hp).bind λo=>match o with
 | .next sd' hp'=>g2 sd' hp'
 |_=>.no
def eIf (fc:FXT2)(ga g2:FX2):FX2:=λsd hp=>(fc sd hp).bind λp=>if p.1 then ga sd p.2 else g2 sd p.2
end
section
variable {X:Cx}{pos:Pos}
def S8 (Fn:Yy->HP->Res (D×HP))(fr:FA):FX2:=λsd hp=>(fr sd).bind λds=>Fn ds hp
end
abbrev FX:=SD->Res (D×SD)
section
variable {X:Cx}{E:XK}{m:Option Bool}{e o:Expr}{f:FX}{pos pos':Pos}
def sSetX (i:Nat)(f:FX):FS:=λsd=>(f sd).bind λp=>.ok (.next (p.2.set i (some (.val p.1))))
@[simp]def ev_setX (i:Nat)(f:FX)(sd:SD):sSetX i f sd=(f sd).bind λp=>.ok (.next (p.2.set i (some (.val p.1)))):=rfl
end
def sNo:FS:=λ_=>.no
def Kc {X:Cx}{E:XK}{m:Option Bool}{st:Stmt}:QS X E m st sNo:=λY s Z H T I ⟨B,F,sd,r,n⟩=>n.elim
section
variable {X:Cx}{E:XK}{e:Expr}{g:FX2}{fe:FE}{sts:List Stmt}
def eFrz (i:Nat)(g:FX2):FX2:=λsd hp=>g (frzD [i] sd) hp
def x2Rd (is:Yg)(f:FE):FX2:=λsd hp=>(f (derI hp is sd)).strict.bind λd=>if Qk d then .ok (d,hp) else .no
end
def unp0:D->D
 | .pin _ d=>d
 |d=>d
def unpL:D->D
 | .lst ds=>.lst (ds.map unp0)
 | .pin _ d=>d
 |d=>d
def unpI:D->D
 | .ins c fs ds=>.ins c fs (ds.map unpL)
 |d=>unpL d
section
variable {X:Cx}{E:XK}{m:Option Bool}{e:Expr}{fe:FE}{sts:List Stmt}{g:FS}
def dUnp (f:FE):FE:=λsd=>(f sd).bind λd=>.ok (unpI d)
@[simp]def ev_unp (f:FE)(sd:SD):dUnp f sd=(f sd).bind λd=>.ok (unpI d):=rfl
end
def capO (cap:List (Option Nat))(k:Nat)(sd:SD):SD:=match (cap[k]?).join with
 |some j=>match sd[j]? with
  |some (some (.own false d))=>(capD cap sd).set k (some (.own false d))
  |_=>capD cap sd
 |none=>capD cap sd
def S9 {cap:List (Option Nat)}{sd:SD}{i:Nat}{x:SV}(q:(capD cap sd)[i]? = some (some x)):∃d,x=.val d:=by
 unfold capD at q;rw[Zv] at q;cases hc:cap[i]? with
 |none=>rw[hc] at q;exact J3 q
 |some o =>
  rw[hc] at q;cases o with
  |none=>cases q
  |some j =>
   have q:(match sd[j]? with
    |some (some (.val d))=>some (SV.val d)
    |_=>none)=some x:=Zqi q
   split at q
   .exact⟨_,(Zqi q).symm⟩
   .exact J3 q
theorem RS.capO {K:W.Frag}{B:Bs}{F H:Hp}{sd:SD}{Z: St}(cap:List (Option Nat))(k:Nat)(r:RS K B F H sd Z):RS K B F H (capO cap k sd) (KN cap Z):=by
 unfold L2.DL.capO
 split
 .rename_i j hj
  split
  .rename_i d hd;obtain⟨l,h1,h2,h3,h4,_⟩:=r.own hd;have hk:(KN cap Z)[k]? = some (some (.ref l)):=by
    unfold KN;rw[Zv];cases hc:cap[k]? with
    |none=>rw[hc] at hj;exact J3 hj
    |some o =>
     rw[hc] at hj;have hj:o=some j:=hj;subst hj;show some (Option.bind (some j) λj=>(Z[j]?).join)=_;rw[Option.bind_some,h1];rfl
   have r2:=(r.cap cap).setOwn (i:=k) (d:=d) (l:=l) h2 h3 h4 λi p e q=>by
    obtain⟨d',z⟩:=S9 q;cases z
   rw[Sx hk] at r2;exact r2
  .exact r.cap cap
 .exact r.cap cap
def YJ (cap:List (Option Nat))(k:Nat)(it:FA)(tg:Tg)(f:FE):FE:=λsd=>(it sd).bind λds=>if KB (capO cap k sd) tg=true/\ds.length<sizeLine then(mapD (λx=>(Qa tg x (capO cap k sd)).bind f) ds).bind λys=>.ok (.lst ys) else .no
def SA {K:W.Frag}{E:XK}{t:Tg}{fi:FA}{f:FE}{cap:List (Option Nat)}{c:Nat}{Z: St}{H:Hp}{Q:VK}(hh:tDN K E (YJ cap c fi t f) Z H Q):WV cap (tDI K E fi) (gT t K) (tD K E f) Z H Q:=by
 obtain⟨B,F,sd,r,n⟩:=hh;refine⟨B,F,sd,r,(Res.need_bind n).mono (λds n1 J F1 H1 e1 wk=>?_) λ_ _ q=>q⟩
 split at n1
 .rename_i hh;obtain⟨hn,hz⟩:=hh;refine⟨λi k ys Z H2=>k=ds.length-i/\i<=ds.length/\∃F2 es,Ext F1 H1 F2 H2/\RS K B F2 H2 (capO cap c sd) Z /\ IsDs K F2 es ys/\es.length=i /\
   (mapD (λx=>(Qa t x (capO cap c sd)).bind f) (ds.drop i)).need (λrs=>OkN K F2 H2 Q (.lst (es++rs))) (XW K E F2 H2),⟨ds.length,rfl,Ue _,F1,[],.refl e1.fh,(r.step e1).capO cap c,.nil,rfl,?_⟩,?_⟩
  .exact(Res.need_bind n1).mono (λrs q=>(show OkN K F H Q (.lst rs) from q).ext e1) λ_ _ q=>q.ext e1
  rintro i k ys Z2 H2 ⟨rfl,hi,F2,es,e2,r2,i2,hl,n2⟩;have ly:=i2.length;refine⟨(),?_⟩;obtain⟨w1,w2⟩:=wk i F2 H2 e2.ff e2.fh;by_cases hlt:i<ds.length
  .obtain⟨go,yl⟩:=w1 hlt;refine .inr ⟨go,λx H3 y=>?_⟩;obtain⟨d,F3,hd,e3,i3⟩:=yl x H3 y;have n3:=FB hd n2;have r3:=r2.step e3;refine Ad (K:=K) r3 i3 (Res.need_bind n3) λsd' Z' n4 hb r4=>?_;obtain⟨b1,b2⟩:=BW hn hb;refine⟨B,F3,sd',r4,n4.mono (λy n5 v F4 H4 e4 i4=>?_) λ_ _ q=>q.ext e3⟩;refine⟨ds.length-(i+1),(),rfl,hlt,F4,es++[y],(e2.trans e3).trans e4,(r4.step e4).forget b1 b2,(IsDs.same (e3.ff.trans e4.ff) _ _ i2).snoc i4,by rw[Ub,hl];rfl,?_⟩;refine n5.mono (λrs q=>?_) λ_ _ q=>q.ext (e3.trans e4);rw[UC];exact q.ext (e3.trans e4)
  .have he:i=ds.length:=()
   subst he;refine .inl ⟨w2 (Zf _),λD hD=>?_⟩;rw[Vr] at n2;have q:OkN K F2 H2 Q (.lst (es++[])):=n2;rw[ZA] at q;exact q D F2 _ (.keep r2.ext.fh hD _) hD (Qv r2.ext.fh hD) ⟨ys,JL,i2⟩
 .exact n1.elim
section
variable {X:Cx}{E:XK}{m:Option Bool}{tg iter elt c:Expr}{scope:Scope}{pos spos py:Pos}{y:Str}{iy:Nat}{t:Tg}{fi:FA}{f:FE}
def SC (N:Yh)(cap:List (Option Nat))(c:Nat)(hNN:X.N.Nodup)(hiy:X.N[iy]? = some y)(hyy:Loc X.env.scope y)(hc:X.calm=true)(okB:QQ scope X.env N X.N cap=true)(hi:QI X E tg iter fi)
 (hg:∀cl C s H ex,QG (JI X scope N cl C s H ex) tg t) (he:∀cl C s H ex,QE (JI X scope N cl C s H ex) E elt f) (hsw:swapsWith (.ListComp elt [⟨tg,iter,[],0⟩] scope pos) (some (.Name y py)) spos.line X.env=pure true:=by rfl)
 (hyf:X.fn y=true\/X.env.scope.names.lookup y=some .local:=by trivial) (hs:∀x,foldedSetIterable iter X.env x=pure x:=by intro _;rfl):
 QS X E m (.Assign [.Name y py] (.ListComp elt [⟨tg,iter,[],0⟩] scope pos) spos) (sSet iy (YJ cap c fi t f)):=
 PS.weak (Gh (g:=gT t X.K) (te:=tD X.K E f) hsw hNN hiy hyy hyf N cap hc okB hi hg he hs) λT Z H h=>Gj (λ_ _ _ q=>SA q) h
end
@[simp]def ev_compO (cap:List (Option Nat))(k:Nat)(it:FA)(tg:Tg)(f:FE)(sd:SD):YJ cap k it tg f sd=(it sd).bind λds=>if KB (capO cap k sd) tg=true/\ds.length<sizeLine then(mapE tg f (capO cap k sd) ds).bind λys=>.ok (.lst ys) else .no:=rfl
end L2.DL
set_option maxHeartbeats 4000000
namespace My
open PySem L2 L2.DL
@[simp high] def gt1 {α: Type}(a0 a1:α)(l:List α):(a0::a1::l)[1]? = some a1:=rfl
@[simp high] def se1 {α: Type}(a0 a1 v:α)(l:List α):(a0::a1::l).set 1 v=a0::v::l:=rfl
@[simp high] def gt2 {α: Type}(a0 a1 a2:α)(l:List α):(a0::a1::a2::l)[2]? = some a2:=rfl
@[simp high] def se2 {α: Type}(a0 a1 a2 v:α)(l:List α):(a0::a1::a2::l).set 2 v=a0::a1::v::l:=rfl
@[simp high] def gt3 {α: Type}(a0 a1 a2 a3:α)(l:List α):(a0::a1::a2::a3::l)[3]? = some a3:=rfl
@[simp high] def se3 {α: Type}(a0 a1 a2 a3 v:α)(l:List α):(a0::a1::a2::a3::l).set 3 v=a0::a1::a2::v::l:=rfl
@[simp high] def gt4 {α: Type}(a0 a1 a2 a3 a4:α)(l:List α):(a0::a1::a2::a3::a4::l)[4]? = some a4:=rfl
@[simp high] def se4 {α: Type}(a0 a1 a2 a3 a4 v:α)(l:List α):(a0::a1::a2::a3::a4::l).set 4 v=a0::a1::a2::a3::v::l:=rfl
@[simp high] def gt5 {α: Type}(a0 a1 a2 a3 a4 a5:α)(l:List α):(a0::a1::a2::a3::a4::a5::l)[5]? = some a5:=rfl
@[simp high] def se5 {α: Type}(a0 a1 a2 a3 a4 a5 v:α)(l:List α):(a0::a1::a2::a3::a4::a5::l).set 5 v=a0::a1::a2::a3::a4::v::l:=rfl
@[simp high] def gt6 {α: Type}(a0 a1 a2 a3 a4 a5 a6:α)(l:List α):(a0::a1::a2::a3::a4::a5::a6::l)[6]? = some a6:=rfl
@[simp high] def se6 {α: Type}(a0 a1 a2 a3 a4 a5 a6 v:α)(l:List α):(a0::a1::a2::a3::a4::a5::a6::l).set 6 v=a0::a1::a2::a3::a4::a5::v::l:=rfl
@[simp high] def gt7 {α: Type}(a0 a1 a2 a3 a4 a5 a6 a7:α)(l:List α):(a0::a1::a2::a3::a4::a5::a6::a7::l)[7]? = some a7:=rfl
@[simp high] def se7 {α: Type}(a0 a1 a2 a3 a4 a5 a6 a7 v:α)(l:List α):(a0::a1::a2::a3::a4::a5::a6::a7::l).set 7 v=a0::a1::a2::a3::a4::a5::a6::v::l:=rfl
@[simp high] def gt8 {α: Type}(a0 a1 a2 a3 a4 a5 a6 a7 a8:α)(l:List α):(a0::a1::a2::a3::a4::a5::a6::a7::a8::l)[8]? = some a8:=rfl
@[simp high] def se8 {α: Type}(a0 a1 a2 a3 a4 a5 a6 a7 a8 v:α)(l:List α):(a0::a1::a2::a3::a4::a5::a6::a7::a8::l).set 8 v=a0::a1::a2::a3::a4::a5::a6::a7::v::l:=rfl
@[simp high] def gt9 {α: Type}(a0 a1 a2 a3 a4 a5 a6 a7 a8 a9:α)(l:List α):(a0::a1::a2::a3::a4::a5::a6::a7::a8::a9::l)[9]? = some a9:=rfl
@[simp high] def se9 {α: Type}(a0 a1 a2 a3 a4 a5 a6 a7 a8 a9 v:α)(l:List α):(a0::a1::a2::a3::a4::a5::a6::a7::a8::a9::l).set 9 v=a0::a1::a2::a3::a4::a5::a6::a7::a8::v::l:=rfl
@[simp high] def gt10 {α: Type}(a0 a1 a2 a3 a4 a5 a6 a7 a8 a9 a10:α)(l:List α):(a0::a1::a2::a3::a4::a5::a6::a7::a8::a9::a10::l)[10]? = some a10:=rfl
@[simp high] def se10 {α: Type}(a0 a1 a2 a3 a4 a5 a6 a7 a8 a9 a10 v:α)(l:List α):(a0::a1::a2::a3::a4::a5::a6::a7::a8::a9::a10::l).set 10 v=a0::a1::a2::a3::a4::a5::a6::a7::a8::a9::v::l:=rfl
def mixF (cell salt:Int):Int:=((cell % 2147483647+salt)*48271 % 2147483647)*((cell % 2147483647+salt)*48271 % 2147483647) % 2147483629
def Km (ns:Ye)(k:Int):Int:=ns.getD k.toNat 0
def nthI (hs:Ye)(t:Int):Int:=hs.getD t.toNat 0
def QC (r:Jx)(hs:Ye):Int:=maxI (r.map λp=>nthI hs p.1+p.2)
def AB (r:Jx):plN 12 (rwD r)=true:=by
 show(r.map prD).all (plN 11)=true;rw[UZ,Uo];exact λp _=>rfl
def KI:plN 12 (.lst [])=true:=rfl
def HU (r:Jx):plN 12 (.lst (r.map prD))=true:=by
 show(r.map prD).all (plN 11)=true;rw[UZ,Uo];exact λp _=>rfl
def CL (r:Jy):plN 12 (.lst (r.map rwD))=true:=by
 show(r.map rwD).all (plN 11)=true;rw[UZ,Uo];intro x _;show(x.map prD).all (plN 10)=true;rw[UZ,Uo];exact λp _=>rfl
def Xp {α: Type}(f:α -> D)(l:List α):sameD (.lst (l.map f)) (.lst [])=l.isEmpty:=by
 cases l with
 |nil=>exact Kr _
 |cons x r=>exact zcl.mpr λh=>by injection h with h;cases h
def SE {r s:Jx}(h:rwD r=rwD s):r=s:=by
 have:=Zt Kj h;rw[Ae,Ae] at this;exact Zqi this
def HV (r s:Jx):sameD (rwD r) (rwD s)=decide (r=s):=by
 by_cases h:r=s
 .rw[h,Kr,Zp rfl]
 .rw[Zo h];exact zcl.mpr λz=>h (SE z)
def Xq {α: Type}{l:List α}{k:Nat}(h:k<l.length):atI l (k:Int)=l[k]?:= by
 unfold atI ixN;rw[Zd (),Zd (),Vc];rfl
def SF {l:Ye}(h:l ≠ [])(x:Int):maxI (l++[x])=if maxI l<x then x else maxI l:=by
 obtain⟨h1,h2⟩:=EJ h;refine(EK ?_ λy hy=>?_).symm
 .split
  .exact Ul _ Zqs
  .exact UP _ h1
 .rcases Jc.mp hy with q|q
  .have:=h2 y q
   split<;>omega
  .rw[Vu.mp q]
   split<;>omega
def SG (x:Int):maxI [x]=x:=rfl
def AC {hs:Ye}{t:Int}(h0:0<=t)(h1:t<(hs.length:Int)):atI (hs.map D.int) t=some (.int (nthI hs t)):=by
 have e:ixN hs.length t=some t.toNat:=by unfold ixN;rw[Zd h0,Zd h1]
 have hl:t.toNat<hs.length:=()
 unfold atI nthI;rw[Zql,e];show(hs.map D.int)[t.toNat]? = _;rw[Zv,Zqg hl,Ua,Zqg hl];rfl
def Qx {α: Type}{f:α -> D}{l:List α}{i:Nat}{x:D}(h:(l.map f)[i]? = some x):∃p,l[i]? = some p/\x=f p:=by
 rw[Zv] at h;cases q:l[i]? with
 |none=>rw[q] at h;cases h
 |some p=>rw[q] at h;exact⟨p,rfl,(Zqi h).symm⟩
def Xr (m:Int):Nat->Int
 | 0=>m
 |i+1=>Xr m i / 2
def preG (m:Int)(w:Nat->Int):Nat->Jx
 | 0=>[]
 |i+1=>if Xr m i % 2=1 then preG m w i++[((i:Int),w i)] else preG m w i
theorem YK (m:Int)(w:Nat->Int):∀(i:Nat) (p:Int×Int),p∈preG m w i->0<=p.1/\p.1<(i:Int)
 | 0,p,h=>by cases h
 |i+1,p,h=>by
  unfold preG at h
  split at h
  .rcases Jc.mp h with q|q
   .have z:=YK m w i p q;omega
   .have e:=Vu.mp q;subst e;show(0:Int)<=(i:Int)/\(i:Int)<((i+1:Nat):Int);omega
  .have z:=YK m w i p h;omega
theorem CM (m:Int)(w:Nat->Int):∀i:Nat,(preG m w i).length<=i
 | 0=>Zf _
 |i+1=>by
  have z:=CM m w i;unfold preG
  split
  .rw[Ub,Uq];omega
  .omega
theorem HW (m:Int)(w:Nat->Int):∀i:Nat,Once (preG m w i)
 | 0=>Vh
 |i+1=>by
  have ih:=HW m w i;unfold preG
  split
  .exact EW ih λp hp=>(YK m w i p hp).2
  .exact ih
structure RowOk (n:Int)(r:Jx):Prop where
 ne:r ≠ []
 once:Once r
 mem:∀p∈r,0<=p.1/\p.1<n
 len:r.length<=12
def rowG (m:Int)(w:Nat->Int)(c wl n:Int):Jx:=if preG m w n.toNat=[] then[(c % n,wl)] else preG m w n.toNat
def SH {m:Int}{w:Nat->Int}{c wl n:Int}(h1:1<=n)(h2:n<=12):RowOk n (rowG m w c wl n):=by
 unfold rowG
 split
 .refine⟨by simp,by unfold Once;simp,λp h=>?_,Nat.le_of_ble_eq_true rfl⟩;have e:=Vu.mp h;subst e;exact⟨UX _ (),UW _ ()⟩
 .rename_i h;have hl:=CM m w n.toNat;refine⟨h,HW m w _,λp hp=>?_,()⟩;have:=YK m w _ p hp;omega
def Ku (r:Jx)(f:Nat->Option Int->Option Int)(i:Nat):Jx:=match f i (JA r i) with
 |some w=>[((i:Int),w)]
 |none=>[]
def Q3 (r:Jx)(f:Nat->Option Int->Option Int):Nat->Jx
 | 0=>[]
 |i+1=>Q3 r f i++Ku r f i
def KZ (r:Jx)(f:Nat->Option Int->Option Int)(n:Int):Jx:=if Q3 r f n.toNat=[] then r else Q3 r f n.toNat
def AD (r:Jx)(f:Nat->Option Int->Option Int)(i:Nat):Ku r f i=[]\/∃w,Ku r f i=[((i:Int),w)]:=by
 unfold Ku;cases f i (JA r i) with
 |some w=>exact .inr ⟨_,rfl⟩
 |none=>exact .inl rfl
theorem AE (r:Jx)(f:Nat->Option Int->Option Int):∀(i:Nat) (p:Int×Int),p∈Q3 r f i->0<=p.1/\p.1<(i:Int)
 | 0,p,h=>by cases h
 |i+1,p,h=>by
  unfold Q3 at h;rcases Jc.mp h with q|q
  .have z:=AE r f i p q;omega
  .rcases AD r f i with e|⟨w,e⟩
   .rw[e] at q;cases q
   .rw[e] at q;have e:=Vu.mp q;subst e;show(0:Int)<=(i:Int)/\(i:Int)<((i+1:Nat):Int);omega
theorem HX (r:Jx)(f:Nat->Option Int->Option Int):∀i:Nat,Once (Q3 r f i)
 | 0=>Vh
 |i+1=>by
  have ih:=HX r f i;unfold Q3;rcases AD r f i with e|⟨w,e⟩
  .rw[e,ZA];exact ih
  .rw[e];exact EW ih λp hp=>(AE r f i p hp).2
theorem CN (r:Jx)(f:Nat->Option Int->Option Int):∀i:Nat,(Q3 r f i).length<=i
 | 0=>Zf _
 |i+1=>by
  have ih:=CN r f i;unfold Q3;rw[Ub];rcases AD r f i with e|⟨w,e⟩<;>rw[e]<;>simp<;>omega
def SJ {r:Jx}{f:Nat->Option Int->Option Int}{n:Int}(h:RowOk n r)(h1:0<=n)(h2:n<=12):RowOk n (KZ r f n):=by
 unfold KZ
 split
 .exact h
 .rename_i q;have hl:=CN r f n.toNat;refine⟨q,HX r f _,λp hp=>?_,()⟩;have:=AE r f _ p hp;omega
def SK (neg:Bool)(r:Jx)(ls:Jy):gIn neg (rwD r) (.lst (ls.map rwD))=some (.bl (if neg then !decide (r∈ls) else decide (r∈ls))):=by
 have ha:(ls.map rwD).all (plN 12)=true:=by
  rw[UZ,Uo];exact λx _=>AB x
 have e:(ls.map rwD).any (λe=>sameD e (rwD r))=decide (r∈ls):=by
  rw[Vp];by_cases h:r∈ls
  .rw[Zp h];exact VP.mpr ⟨r,h,by show sameD (rwD r) (rwD r)=true;exact Kr _⟩
  .rw[Zo h];refine Vl.mpr λx hx=>?_;show ¬sameD (rwD x) (rwD r)=true;rw[HV,decide_eq_true_iff];exact λz=>h (z ▸ hx)
 show(if plN 12 (rwD r)&&(ls.map rwD).all (plN 12) then some (D.bl (if neg then !(ls.map rwD).any (λe=>sameD e (rwD r)) else(ls.map rwD).any λe=>sameD e (rwD r))) else none)=_;rw[AB,ha,e];rfl
def CO {ls:Jy}(h:∀r∈ls,r ≠ [])(hl:ls.length<64):Wx [.lst (ls.map rwD)]=some (.lst ((JO rltB ls).map rwD)):=by
 show(Qh Kj (ls.map rwD)).bind _=_;rw[XX];exact Zd ⟨h,hl⟩
def frD (f:Jy):D:=.lst (f.map rwD)
def SL {f g:Jy}(h:frD f=frD g):f=g:=by
 unfold frD at h;injection h with h
 have:=Zt (Qh Kj) h;rw[XX,XX] at this;exact Zqi this
def SM (f g:Jy):sameD (frD f) (frD g)=decide (f=g):=by
 by_cases h:f=g
 .rw[h,Kr,Zp rfl]
 .rw[Zo h];exact zcl.mpr λz=>h (SL z)
def lowQ (all:Jy)(row:Jx):Bool:=(all.filter λone => !decide (one=row)&&JG one row).isEmpty
def W0 (all least:Jy)(row:Jx):Jy:=if lowQ all row=true/\row∉least then least++[row] else least
def QF (all rs:Jy):Jy:=rs.foldl (W0 all) []
def Qo (rs:Jy):Jy:=JO rltB (QF rs rs)
theorem Wc (all:Jy):∀(rs least:Jy),(rs.foldl (W0 all) least).length<=least.length+rs.length/\(∀r,r∈rs.foldl (W0 all) least↔r∈least\/(r∈rs/\lowQ all r=true))/\(least.Nodup->(rs.foldl (W0 all) least).Nodup)
 | [],least=>⟨Zf _,λr=>by simp,id⟩
 |row::rs,least=>by
  rw[UE];obtain⟨h1,h2,h3⟩:=Wc all rs (W0 all least row);unfold W0 at h1 h2 h3 ⊢;by_cases c:lowQ all row=true/\row∉least
  .rw[Zd c] at h1 h2 h3 ⊢;refine⟨by rw[Ub] at h1;simp only[Zu,ZC] at h1 ⊢;omega,λr=>?_,λhn=>h3 ?_⟩
   .rw[h2,List.mem_append,Vu,UB];constructor
    .rintro((h|h)|⟨h,hq⟩)
     .exact .inl h
     .exact .inr ⟨.inl h,h ▸ c.1⟩
     .exact .inr ⟨.inr h,hq⟩
    .rintro(h|⟨h|h,hq⟩)
     .exact .inl (.inl h)
     .exact .inl (.inr h)
     .exact .inr ⟨h,hq⟩
   .rw[Vo];exact⟨hn,by simp,λa ha b hb=>by rw[Vu] at hb;subst hb;exact λz=>c.2 (z ▸ ha)⟩
  .rw[Ze c] at h1 h2 h3 ⊢;refine⟨by rw[Zu];omega,λr=>?_,h3⟩;rw[h2,UB];constructor
   .rintro(h|⟨h,hq⟩)
    .exact .inl h
    .exact .inr ⟨.inr h,hq⟩
   .rintro(h|⟨h|h,hq⟩)
    .exact .inl h
    .by_cases hm:row∈least
     .exact .inl (h ▸ hm)
     .exact Zn ⟨h ▸ hq,hm⟩ c
    .exact .inr ⟨h,hq⟩
def zaD {rs:Jy}{r:Jx}:r∈Qo rs↔r∈rs/\lowQ rs r=true:=by
 unfold Qo QF;rw[(Qz (ltb:=rltB) _).mem_iff,(Wc rs rs []).2.1];simp
def CP (rs:Jy):(Qo rs).length<=rs.length:=by
 unfold Qo QF;rw[(Qz (ltb:=rltB) _).length_eq];have:=(Wc rs rs []).1;simpa using this
def Xs (f:Jy)(hs:Ye):Int:=minI (f.map λr=>QC r hs)
def SN {α: Type}(l:List α)(x y:α):(l++[x]).set l.length y=l++[y]:=by
 induction l with
 |nil=>rfl
 |cons a l ih=>show a::(l++[x]).set l.length y=_;rw[ih];rfl
def SO {α: Type}(l:List α)(x:α):atI (l++[x]) (l.length:Int)=some x:=by
 rw[Xq (by simp)];simp
def SQ {α: Type}(l:List α)(x:α):ixN (l++[x]).length (l.length:Int)=some l.length:=by
 unfold ixN;rw[Zd (),Zd (by rw[Ub,Uq];omega),Vc]
def YL (n:Int)(k:Nat)(t:Jy):Jy:=if t=[] then[[((k:Int) % n,0)]] else t
def K1 (n many:Int)(rs:Jy)(i:Nat):List Jy:=(List.range i).map λk=>YL n k (Qo (JS rs (some (k:Int)) none (some many)))
@[simp]def gList_fr (f:Jy):Ka [frD f]=some (frD f):=rfl
@[simp]def walkS_fr (f:Jy):Wu (frD f)=some (f.map rwD):=rfl
@[simp]def walkS_rw (r:Jx):Wu (rwD r)=some (r.map prD):=rfl
@[simp]def gLen_fr (f:Jy):gLen [frD f]=some (.int f.length):=by show some (D.int (f.map rwD).length)=_;rw[Zql]
@[simp]def zrD (f:Jy):gIsi [frD f,.ty "list"]=some (.bl true):=rfl
@[simp]def zq0 (f:Jx):gIsi [rwD f,.ty "tuple"]=some (.bl true):=rfl
@[simp]def zq5 (p:Int×Int):gIsi [prD p,.ty "tuple"]=some (.bl true):=rfl
@[simp]def gLen_pr (p:Int×Int):gLen [prD p]=some (.int 2):=rfl
@[simp]def gIx_pr0 (p:Int×Int):gIx (prD p) (.int 0)=some (.int p.1):=rfl
@[simp]def gIx_pr1 (p:Int×Int):gIx (prD p) (.int 1)=some (.int p.2):=rfl
def HY (n:Nat)(r:Jx):plN (n+3) (rwD r)=true:=by
 show(r.map prD).all (plN (n+2))=true;rw[UZ,Uo];exact λp _=>rfl
def HZ (n:Nat)(f:Jy):plN (n+4) (frD f)=true:=by
 show(f.map rwD).all (plN (n+3))=true;rw[UZ,Uo];exact λr _=>HY n r
def SR (f g:Jy):gNe (frD f) (frD g)=some (.bl (!decide (f=g))):=by rw[Wr (HZ 8 f) (HZ 8 g),SM]
structure FormOk (n:Int)(f:Jy):Prop where
 ne:f ≠ []
 rows:∀r∈f,RowOk n r
 len:f.length<=100
def Rise (r:Jx):Prop:=(r.map (·.1)).Pairwise (· < ·)
def CQ:Rise []:=List.Pairwise.nil
def CS (p:Int×Int):Rise [p]:=VC _ _
def Ia {r:Jx}{t w:Int}(h:Rise r)(hm:∀p∈r,p.1<t):Rise (r++[(t,w)]):=by
 unfold Rise at *;rw[Ug,List.pairwise_append];refine⟨h,VC _ _,λa ha b hb=>?_⟩;obtain⟨p,hp,rfl⟩:=Ja.mp ha;have:b=t:=by simpa using hb
 rw[this];exact hm p hp
theorem Ib (m:Int)(w:Nat->Int):∀i:Nat,Rise (preG m w i)
 | 0=>CQ
 |i+1=>by
  have ih:=Ib m w i;unfold preG
  split
  .exact Ia ih λp hp=>(YK m w i p hp).2
  .exact ih
def SS (m:Int)(w:Nat->Int)(c wl n:Int):Rise (rowG m w c wl n):=by
 unfold rowG
 split
 .exact CS _
 .exact Ib m w _
theorem Ic (r:Jx)(f:Nat->Option Int->Option Int):∀i:Nat,Rise (Q3 r f i)
 | 0=>CQ
 |i+1=>by
  have ih:=Ic r f i;unfold Q3;rcases AD r f i with e|⟨w,e⟩
  .rw[e,ZA];exact ih
  .rw[e];exact Ia ih λp hp=>(AE r f i p hp).2
def SU {r:Jx}{f:Nat->Option Int->Option Int}{n:Int}(h:Rise r):Rise (KZ r f n):=by
 unfold KZ
 split
 .exact h
 .exact Ic r f _
def CT {r:Jx}(h:Rise r):r.Pairwise λx y=>pltB x y=true:=by
 unfold Rise at h;rw[Vk] at h;refine h.imp λ{a b} z=>?_;unfold pltB;simp;omega
def zch {r o:Jx}:JG r o=true↔∀p∈r,∃w,JA o p.1=some w/\p.2<=w:=by
 unfold JG;rw[Uo];refine forall_congr' λp=>forall_congr' λ_=>?_;unfold okAt;cases JA o p.1 with
 |none=>simp
 |some w=>simp
def CU {a b c:Jx}(h1:JG a b=true)(h2:JG b c=true):JG a c=true:=by
 rw[zch] at *;intro p hp;obtain⟨w,h3,h4⟩:=h1 p hp;obtain⟨v,h5,h6⟩:=h2 _ (V3 h3);exact⟨v,h5,Int.le_trans h4 h6⟩
def Ie {a b:Jx}(oa:Once a)(h1:JG a b=true)(h2:JG b a=true):∀p∈a,p∈b:=by
 rw[zch] at *;intro p hp;obtain⟨w,h3,h4⟩:=h1 p hp;have hb:=V3 h3;obtain⟨v,h5,h6⟩:=h2 _ hb;have h5:JA a p.1=some v:=h5;rw[oa.look (t:=p.1) (w:=p.2) hp] at h5;cases h5;have h6:w<=p.2:=h6;have:w=p.2:=()
 rw[this] at hb;exact hb
def SW {a b:Jx}(oa:Once a)(ob:Once b)(ra:Rise a)(rb:Rise b)(h1:JG a b=true)(h2:JG b a=true):a=b:=
 Ab zbX (CT ra) (CT rb) λp=>⟨Ie oa h1 h2 p,Ie ob h2 h1 p⟩
theorem AF:∀{rs:Jy},rs ≠ []->(∀r∈rs,Once r/\Rise r)->∃m∈rs,∀o∈rs,JG o m=true->o=m
 | [],h,_=>Zn rfl h
 |x::rs,_,ok=>by
  by_cases q:rs=[]
  .subst q;exact⟨x,Zqs,λo ho _=>Vu.mp ho⟩
  .obtain⟨m,hm,hl⟩:=AF q λr hr=>ok r (Zqm _ hr);have okm:=ok m (Zqm _ hm);have okx:=ok x Zqs;by_cases c:JG x m=true
   .refine⟨x,Zqs,λo ho hu=>?_⟩;rcases UB.mp ho with e|e
    .exact e
    .have e2:=hl o e (CU hu c);subst e2;exact SW okm.1 okx.1 okm.2 okx.2 hu c
   .refine⟨m,Zqm _ hm,λo ho hu=>?_⟩;rcases UB.mp ho with e|e
    .exact Zn (e ▸ hu) c
    .exact hl o e hu
def zcA {rs:Jy}{m:Jx}:lowQ rs m=true↔∀o∈rs,JG o m=true->o=m:=by
 unfold lowQ;rw[List.isEmpty_iff,List.filter_eq_nil_iff];refine forall_congr' λo=>forall_congr' λ_=>?_;by_cases h:o=m
 .simp[h]
 .simp[h]
structure Good (n:Int)(f:Jy):Prop where
 ne:f ≠ []
 rows:∀r∈f,RowOk n r
 rise:∀r∈f,Rise r
 len:f.length<=40
 anti:∀r∈f,∀s∈f,JG r s=true->r=s
 srt:f.Pairwise λa b=>rltB a b=true
def Ig {n:Int}{rs:Jy}(ok:∀r∈rs,RowOk n r)(ri:∀r∈rs,Rise r)(hl:rs.length<=40)(hn:rs ≠ []):Good n (Qo rs):=by
 refine⟨λz=>?_,λr hr=>ok r (zaD.mp hr).1,λr hr=>ri r (zaD.mp hr).1,Zh (CP rs) hl,λr hr s hs hu=>?_,?_⟩
 .obtain⟨m,hm,h⟩:=AF hn λr hr=>⟨(ok r hr).once,ri r hr⟩;have:m∈Qo rs:=zaD.mpr ⟨hm,zcA.mpr h⟩;rw[z] at this;cases this
 .exact zcA.mp (zaD.mp hs).2 r (zaD.mp hr).1 hu
 .have hp:=Qz (ltb:=rltB) (QF rs rs);have nd:(JO rltB (QF rs rs)).Nodup:=hp.nodup_iff.mpr ((Wc rs rs []).2.2 Vh);have sd:=Wl zaP (QF rs rs);have both:(JO rltB (QF rs rs)).Pairwise λx y=>rltB y x=false/\x≠y:=List.Pairwise.and sd nd;refine both.imp λ{x y} z=>?_;cases q:rltB x y with
  |true=>rfl
  |false=>exact Zn (zaP.tot _ _ q z.1) z.2
def Ih {n:Int}{r:Jx}(ok:RowOk n r)(ri:Rise r):Good n [r]:=
 ⟨by simp,λs hs=>by rw[Vu.mp hs];exact ok,λs hs=>by rw[Vu.mp hs];exact ri,by simp,λs hs t ht _=>by rw[Vu.mp hs,Vu.mp ht],VC _ _⟩
def SX {n:Int}{f g:Jy}(h:Good n f)(s:g.Sublist f)(hn:g ≠ []):Good n g:=
 ⟨hn,λr hr=>h.rows r (s.subset hr),λr hr=>h.rise r (s.subset hr),Zh s.length_le h.len,λr hr t ht=>h.anti r (s.subset hr) t (s.subset ht),h.srt.sublist s⟩
def Ii (j n:Nat):min (j:Int) (n:Int)=((min j n:Nat):Int):=by
 rcases Nat.le_total j n with h|h
 .rw[Nat.min_eq_left h,Int.min_eq_left (Int.ofNat_le.mpr h)]
 .rw[Nat.min_eq_right h,Int.min_eq_right (Int.ofNat_le.mpr h)]
def SY {α: Type}(l:List α){k:Int}(h0:0<=k):JS l none (some k) none=l.take k.toNat:=by
 have e:sliceBounds none (some k) none l.length=(((0:Nat):Int),((min k.toNat l.length:Nat):Int),1):=by
  obtain⟨j,rfl⟩:=Int.eq_ofNat_of_zero_le h0;unfold sliceBounds;simp only[Option.getD_none];simp;rw[Ze (Int.not_lt.mpr h0),Ii];exact Int.max_eq_right (Int.natCast_nonneg _)
 unfold JS;rw[e];show(sliceRange _ _ 1).filterMap _=_;have p:=pick_run l.toArray 0 (min k.toNat l.length-0);rw[sliceRange_one];have ep:(λx:Nat=>l[x]?)=λx:Nat=>l.toArray[x]?:= by funext x;simp
 rw[ep,p];simp
def Ij {α: Type}(l:List α){k:Int}(h0:0<=k):JS l (some k) none none=l.drop k.toNat:=by
 have e:sliceBounds (some k) none none l.length=(((min k.toNat l.length:Nat):Int),(l.length:Int),1):=by
  obtain⟨j,rfl⟩:=Int.eq_ofNat_of_zero_le h0;unfold sliceBounds;simp only[Option.getD_none];simp;rw[Ze (Int.not_lt.mpr h0),Ii];exact Int.max_eq_right (Int.natCast_nonneg _)
 unfold JS;rw[e];show(sliceRange _ _ 1).filterMap _=_;have p:=pick_run l.toArray (min k.toNat l.length) (l.length-min k.toNat l.length);rw[sliceRange_one];have ep:(λx:Nat=>l[x]?)=λx:Nat=>l.toArray[x]?:= by funext x;simp
 rw[ep,p];simp;by_cases c:k.toNat<=l.length
 .rw[Nat.min_eq_left c,Vb (by simp)]
 .rw[Nat.min_eq_right (),VW (Zf _),VW ()];exact List.take_nil
def SZ {α: Type}{f:α -> Bool}{l:List α}{i:Nat}{p:α}(h:∀q∈l.take i,f q=false)(hp:l[i]? = some p)(hf:f p=true):l.find? f=some p:=by
 have hi:=(Jb.mp hp).1;have e:l=l.take i++(p::l.drop (i+1)):=by
  have e1:l.drop i=p::l.drop (i+1):=by
   rw[U6 hi]
   congr 1
   exact(Jb.mp hp).2
  rw[<- e1,VV]
 rw[e,List.find?_append,Js.mpr λq hq=>by rw[h q hq];simp];simp[hf]
structure ThingsOk (ts:Ye):Prop where
 ne:ts ≠ []
 len:ts.length<=4
 rng:∀t∈ts,0<=t/\t<12
 up:ts.Pairwise (· < ·)
def W1 {r:Jx}(h:Rise r):Once r:=by
 unfold Rise at h;unfold Once List.Nodup;exact h.imp λh e=>()
def Ta {r:Jx}(h:Once r){p q:Int×Int}(hp:p∈r)(hq:q∈r)(e:p.1=q.1):p=q:=by
 induction r with
 |nil=>cases hp
 |cons a r ih =>
  unfold Once at h;rw[Zl,List.nodup_cons] at h;rcases UB.mp hp with z|z
  .rcases UB.mp hq with y|y
   .rw[z,y]
   .exact Zn (Ja.mpr ⟨q,y,by rw[<- e,z]⟩) h.1
  .rcases UB.mp hq with y|y
   .exact Zn (Ja.mpr ⟨p,z,by rw[e,y]⟩) h.1
   .exact ih h.2 z y
structure Over (f:Jy)(hs:Ye):Prop where
 ne:f ≠ []
 rne:∀r∈f,r ≠ []
 once:∀r∈f,Once r
 bnd:∀r∈f,∀p∈r,0<=p.1/\p.1<(hs.length:Int)
def AG {r:Jx}{t:Int}(h:(JA r t).isSome=true):∃w,JA r t=some w/\(t,w)∈r:=by
 cases q:JA r t with
 |none=>rw[q] at h;cases h
 |some w=>exact⟨w,rfl,V3 q⟩
structure RoundOk (n:Int)(fs:List Jy):Prop where
 len:(fs.length:Int)=n
 low:1<=n
 most:n<=12
 forms:∀f∈fs,FormOk n f
def RoundOk.over {n:Int}{fs:List Jy}(R:RoundOk n fs){hs:Ye}(h:hs.length=fs.length):∀f∈fs,Over f hs:=λf hf=>⟨(R.forms f hf).ne,λr hr=>((R.forms f hf).rows r hr).ne,λr hr=>((R.forms f hf).rows r hr).once,λr hr p hp=>by
 have:=((R.forms f hf).rows r hr).mem p hp;have:=R.len;omega⟩
def rdD (fs:List Jy):D:=.lst (fs.map frD)
@[simp]def walkS_rd (fs:List Jy):Wu (rdD fs)=some (fs.map frD):=rfl
open L2.ST
theorem CV:∀{ys xs:Ye},xs.Pairwise (· < ·)->ys.Pairwise (· < ·)->(∀x∈xs,x∈ys)->xs.length<=ys.length/\(xs.length=ys.length->xs=ys)
 | [],xs,_,_,h=>by
  cases xs with
  |nil=>exact⟨Zf _,λ_=>rfl⟩
  |cons x xs=>cases h x Zqs
 |y::ys,[],_,_,_=>⟨Ue _,λe=>by simp at e⟩
 |y::ys,x::xs,hx,hy,h=>by
  rw[List.pairwise_cons] at hx hy;rcases UB.mp (h x Zqs) with q|q
  .subst q;obtain⟨h1,h2⟩:=CV (ys:=ys) hx.2 hy.2 λz hz=>by
    rcases UB.mp (h z (Zqm _ hz)) with w|w
    .have:=hx.1 z hz;omega
    .exact w
   refine⟨by rw[Zu,Zu];omega,λe=>?_⟩;rw[Zu,Zu] at e;rw[h2 ()]
  .have hyx:=hy.1 x q;obtain⟨h1,_⟩:=CV (ys:=ys) (xs:=x::xs) (Jj.mpr hx) hy.2 λz hz=>by
    rcases UB.mp (h z hz) with w|w
    .rcases UB.mp hz with v|v
     .omega
     .have:=hx.1 z v;omega
    .exact w
   refine⟨by rw[Zu (as:=ys)];omega,λe=>?_⟩;rw[Zu (as:=ys)] at e;omega
theorem Ik:∀{a b:Jx},a.map (·.1)=b.map (·.1)->(∀(i:Nat) p q,a[i]? = some p->b[i]? = some q->p.2<=q.2)->a≠b->rltB a b=true
 | [],[],_,_,h=>Zn rfl h
 | [],_::_,e,_,_=>by simp at e
 |_::_,[],e,_,_=>by simp at e
 |p::a,q::b,e,hw,hn=>by
  rw[Zl,Zl] at e;have e1:p.1=q.1:=(List.cons.inj e).1;have e2:=(List.cons.inj e).2;have w0:=hw 0 p q rfl rfl;rw[W8];by_cases z:p=q
  .rw[Zd z];refine Ik e2 (λi p q hp hq=>hw (i+1) p q hp hq) λy=>hn (by rw[z,y])
  .rw[Ze z,Wj];refine .inr ⟨e1,?_⟩;rcases Int.lt_or_eq_of_le w0 with y|y
   .exact y
   .exact Zn (Prod.ext e1 y) z
def Tb {a b:Jx}(ra:Rise a)(rb:Rise b)(h:JG a b=true)(hn:a≠b):llB a b=true:=by
 have u:=zch.mp h;have ob:=W1 rb;obtain⟨h1,h2⟩:=CV ra rb λx hx=>by
  obtain⟨p,hp,rfl⟩:=Ja.mp hx;obtain⟨w,hw,_⟩:=u p hp;exact Ja.mpr ⟨(p.1,w),V3 hw,rfl⟩
 rw[Zql,Zql] at h1 h2;rw[WL];rcases Nat.lt_or_eq_of_le h1 with q|q
 .exact .inl q
 .have e:=h2 q;refine .inr ⟨q,Ik e (λi p r hp hr=>?_) hn⟩;obtain⟨w,hw,hle⟩:=u p (Ud hp);have e1:p.1=r.1:=by
   have a1:(a.map (·.1))[i]? = some p.1:=by rw[Zv,hp];rfl
   have a2:(b.map (·.1))[i]? = some r.1:=by rw[Zv,hr];rfl
   rw[e,a2] at a1;exact(Zqi a1).symm
  have:=Ta ob (Ud hr) (V3 hw) e1.symm;rw[this];exact hle
def YM {α: Type}{ltb:α -> α -> Bool}(T:Tot ltb){l:List α}(hn:l.Nodup):(JO ltb l).Pairwise λa b=>ltb a b=true:=by
 have hn':(JO ltb l).Nodup:=(Qz (ltb:=ltb) l).nodup_iff.mpr hn;have hs:=Wl T l;generalize JO ltb l=s at hn' hs;unfold Sd at hs;unfold List.Nodup at hn';refine List.Pairwise.imp ?_ (hs.and hn');rintro a b ⟨h1,h2⟩;cases q:ltb a b with
 |true=>rfl
 |false=>exact Zn (T.tot _ _ q h1) h2
def ordL (rs:Jy):Jy:=JO llB (JO rltB (dedR rs))
def zep {rs:Jy}{r:Jx}:r∈ordL rs↔r∈rs:=by
 unfold ordL;rw[(Qz (ltb:=llB) _).mem_iff,(Qz (ltb:=rltB) _).mem_iff,zgz]
def Il (rs:Jy):(ordL rs).Pairwise λa b=>llB a b=true:=YM zfI ((Qz (ltb:=rltB) _).nodup_iff.mpr (Ho rs))
def Im (rs:Jy):(ordL rs).length<=rs.length:=by
 unfold ordL;rw[(Qz (ltb:=llB) _).length_eq,(Qz (ltb:=rltB) _).length_eq];exact Hq rs
def lowS (kept:Jy)(r:Jx):Jy:=if kept.any (λo=>JG o r)=true then kept else kept++[r]
def lowL (rs:Jy):Jy:=(ordL rs).filter (lowQ rs)
theorem Io {rs:Jy}(hr:∀r∈rs,Rise r):∀i,i<=(ordL rs).length->((ordL rs).take i).foldl lowS []=((ordL rs).take i).filter (lowQ rs)
 | 0,_=>by simp
 |i+1,hi=>by
  have ih:=Io hr i ();have st:=Il rs;have hm:∀r,r∈ordL rs↔r∈rs:=λr=>zep;generalize ordL rs=L at hi ih st hm;have hlt:i<L.length:=()
  rw[V4 (Zqg hlt),US,List.filter_append,ih];have bef:∀o∈L.take i,llB o L[i]=true:=λo ho=>by
   obtain⟨j,hj,rfl⟩:=UA ho;rw[Uj] at hj;rw[List.getElem_take];exact Jl.mp st j i () hlt ()
  have hin:=(hm L[i]).mp (UG hlt);show lowS ((L.take i).filter (lowQ rs)) L[i]=_;unfold lowS;cases q:lowQ rs L[i] with
  |true =>
   have low:=zcA.mp q;rw[Ze,List.filter_cons_of_pos q,List.filter_nil];intro z;obtain⟨o,ho,hu⟩:=VP.mp z;have ho:=(Je.mp ho).1;have e:=low o ((hm o).mp (Vv ho)) hu;have b:=bef o ho;rw[e] at b;have:=zfI.asy _ _ b;rw[b] at this;cases this
  |false =>
   have nl:¬ ∀o∈rs,JG o L[i]=true->o=L[i]:=λz=>by rw[zcA.mpr z] at q;cases q
   obtain⟨o,ho,hu,hne⟩:∃o∈rs,JG o L[i]=true/\o≠L[i]:=by
    apply VS;intro z;exact nl λo ho hu=>VS λy=>z ⟨o,ho,hu,y⟩
   obtain⟨mn,hm1,hm2⟩:=AF (rs:=rs.filter λo=>JG o L[i]) (λz=>by
    have:o∈rs.filter λo=>JG o L[i]:=Je.mpr ⟨ho,hu⟩;rw[z] at this;cases this) λr h=>⟨W1 (hr r (Je.mp h).1),hr r (Je.mp h).1⟩
   obtain⟨mr,mu⟩:=Je.mp hm1;have mlow:lowQ rs mn=true:=zcA.mpr λx hx hxu=>hm2 x (Je.mpr ⟨hx,CU hxu mu⟩) hxu;have mne:mn≠L[i]:=λz=>hne (by
    have:=hm2 o (Je.mpr ⟨ho,hu⟩) (by rw[z];exact hu);rw[this,z])
   have mll:=Tb (hr mn mr) (hr _ hin) mu mne;have mtake:mn∈L.take i:=by
    obtain⟨j,hj,ej⟩:=UA ((hm mn).mpr mr);rcases UN j i with w|w|w
    .rw[<- ej,List.mem_take_iff_getElem];exact⟨j,(),rfl⟩
    .subst w;exact Zn ej.symm mne
    .have b:=Jl.mp st i j hlt hj w;rw[ej] at b;have:=zfI.asy _ _ b;rw[mll] at this;cases this
   rw[Zd (VP.mpr ⟨mn,Je.mpr ⟨mtake,mlow⟩,mu⟩),List.filter_cons_of_neg (by rw[q];simp),List.filter_nil,ZA]
def Tc (rs:Jy):JO rltB (lowL rs)=Qo rs:=by
 have n1:(lowL rs).Nodup:=by
  have:(ordL rs).Nodup:=by
   unfold List.Nodup;refine(Il rs).imp λ{a b} h e=>?_;subst e;have:=zfI.asy _ _ h;rw[h] at this;cases this
  exact List.Pairwise.sublist (List.filter_sublist) this
 have n2:(QF rs rs).Nodup:=(Wc rs rs []).2.2 Vh;refine Ab zaP (YM zaP n1) (YM zaP n2) λr=>?_;rw[(Qz (ltb:=rltB) _).mem_iff];show r∈lowL rs↔r∈Qo rs;rw[zaD];unfold lowL;rw[List.mem_filter,zep]
structure PairsOk (ts:Ye)(r:Jx):Prop where
 ne:r ≠ []
 len:r.length<=4
 mem:∀p∈r,p.1∈ts
 up:r.Pairwise λp q=>p.1<q.1
def Td {r:Jx}(h:r.Pairwise λp q=>p.1<q.1):Once r:=by
 unfold Once List.Nodup;rw[Vk];exact h.imp λh e=>()
def PairsOk.row {ts:Ye}{r:Jx}(T:ThingsOk ts)(P:PairsOk ts r):RowOk 12 r:=⟨P.ne,Td P.up,λp hp=>T.rng _ (P.mem p hp),Zh P.len ()⟩
def Te {rs:Jy}(ok:∀r∈rs,Once r/\Rise r){r:Jx}(hr:r∈rs):∃s∈Qo rs,JG s r=true:=by
 have rr:JG r r=true:=zch.mpr λp hp=>⟨p.2,(ok r hr).1.look (t:=p.1) (w:=p.2) hp,Int.le_refl _⟩;have ne:rs.filter (λo=>JG o r) ≠ []:=λz=>by
  have:r∈rs.filter λo=>JG o r:=Je.mpr ⟨hr,rr⟩;rw[z] at this;cases this
 obtain⟨m,hm,h⟩:=AF ne λo ho=>ok o (Je.mp ho).1;obtain⟨hm1,hm2⟩:=Je.mp hm;exact⟨m,zaD.mpr ⟨hm1,zcA.mpr λo ho hu=>h o (Je.mpr ⟨ho,CU hu hm2⟩) hu⟩,hm2⟩
def Tf {f g:Jy}(h:f.length+g.length<=1000):gAdd (frD f) (frD g)=some (frD (f++g)):=by
 show(if(f.map rwD).length+(g.map rwD).length<=sizeLine then _ else _)=_;rw[Zql,Zql,Zd (QL h)];unfold frD;rw[Ug]
def CW (rs:Jy):(Qo rs).Pairwise λa b=>rltB a b=true:=YM zaP ((Wc rs rs []).2.2 Vh)
def Th (rs:Jy):(Qo rs).Nodup:=(CW rs).imp λ{a b} h e=>by
 subst e;have:=zaP.asy _ _ h;rw[h] at this;cases this
structure JRow (r:Jx):Prop where
 ne:r ≠ []
 rise:Rise r
 bnd:∀p∈r,0<=p.1/\p.1<12
def JRow.once {r:Jx}(h:JRow r):Once r:=W1 h.rise
def JRow.len {r:Jx}(h:JRow r):r.length<=12:=by
 have up:(r.map (·.1)).Pairwise (· < ·):=h.rise;have key:∀(l:Ye) (a:Int),l.Pairwise (· < ·)->(∀x∈l,a<=x/\x<12)->(l.length:Int)<=max 0 (12-a):=by
  intro l
  induction l with
  |nil=>intro a _ _;simp;omega
  |cons x l ih =>
   intro a hp hb;rw[List.pairwise_cons] at hp;have h1:=hb x Zqs;have:=ih (x+1) hp.2 λy hy=>⟨by have:=hp.1 y hy;omega,(hb y (Zqm _ hy)).2⟩;rw[Zu];omega
 have:=key _ 0 up λx hx=>by
  obtain⟨p,hp,rfl⟩:=Ja.mp hx;exact h.bnd p hp
 rw[Zql] at this;omega
def asc (x:Str):Prop:=x.cps.all (· < 128)=true
def ziw {x:Str}:asc x↔∀c∈x.cps.toList,c<128:=by
 unfold asc;rw[<- Array.all_toList,Uo];exact⟨λh c hc=>of_decide_eq_true (h c hc),λh c hc=>Zp (h c hc)⟩
def Ti (a b:Str):(a++b).cps.toList=a.cps.toList++b.cps.toList:=Array.toList_append
structure TxtOk (n:Nat)(x:Str):Prop where
 len:x.length<=n
 asc:asc x
def TxtOk.mono {m n:Nat}{a:Str}(ha:TxtOk m a)(h:m<=n):TxtOk n a:=⟨Zh ha.len h,ha.asc⟩
def Xt {n:Nat}{x:Str}(h:(decide (x.length<=n)&&x.cps.all (· < 128))=true):TxtOk n x:=by
 rw[Uc] at h;exact⟨of_decide_eq_true h.1,h.2⟩
def Ip {m n:Nat}{a b:Str}(ha:TxtOk m a)(hb:TxtOk n b)(h:m+n<=1000):gAdd (.str a) (.str b)=some (.str (a++b)):=Zd (QL (by have:=ha.len;have:=hb.len;omega))
def Tj {n:Nat}{a:Str}(ha:TxtOk n a)(h:n<=1000):gLen [.str a]=some (.int a.length):=Zd (QL (by have:=ha.len;omega))
def Tk {n:Nat}{a:Str}{k:Int}(ha:TxtOk n a)(h:n<=1000)(k0:0<=k)(k1:k<(a.length:Int)):∃c,gIx (.str a) (.int k)=some (.str ⟨#[c]⟩)/\a.cps.toList[k.toNat]? = some c/\c<128:=by
 have hl:k.toNat<a.cps.toList.length:=by
  rw[Ui];have:a.length=a.cps.size:=rfl;omega
 refine⟨a.cps.toList[k.toNat],?_,Zqg hl,ziw.mp ha.asc _ (UG hl)⟩;show(if a.length<=sizeLine then(atI a.cps.toList k).map λc=>D.str ⟨#[c]⟩ else none)=_;rw[Zd (QL (by have:=ha.len;omega))];have e:atI a.cps.toList k=some a.cps.toList[k.toNat]:=by
  unfold atI ixN;rw[Zd k0,Zd (by rw[Ui];exact k1)];exact Zqg hl
 rw[e];rfl
def Tl:∀k:Fin 64,(Nat.ble (k.val:Int).natAbs.log2 1900=true)/\(decide ((toString (k.val:Int):Str).length<=2)&&(toString (k.val:Int):Str).cps.all (· < 128))=true:=by decide +kernel
def digF (k:Nat):Str:=(toString (k:Int):Str)
def Tn:∀k:Fin 26,(("abcdefghijklmnopqrstuvwxyz" : Str).cps.toList)[k.val]? = some (97+k.val):=by decide +kernel
def Iq {k:Nat}(h:k<64):gStr [.int (k:Int)]=some (.str (digF k))/\TxtOk 2 (digF k):=by
 obtain⟨h1,h2⟩:=Tl ⟨k,h⟩;exact⟨Zd h1,Xt h2⟩
def low (x:Str):Prop:=∀c∈x.cps.toList,97<=c/\c<123
@[simp]def run_d5 (n:Nat)(g:FS)(a b c d e:D):runD n 5 g [a,b,c,d,e]=(g (some (.val a)::some (.val b)::some (.val c)::some (.val d)::some (.val e)::List.replicate (n-5) none)).bind outV:=Xk n 5 g [a,b,c,d,e] rfl
structure Pl where
 name:Str
 givens:Yh
 rows:List (Str×Str×Jx)
def rowD (r:Str×Str×Jx):D:=.tup [.str r.1,.str r.2.1,rwD r.2.2]
def CY (p:Pl):D:=.tup [.str p.name,.lst (p.givens.map .str),.lst (p.rows.map rowD)]
def JH (p:Pl):D:=.ins "Plan" ["name", "givens", "rows"] [.str p.name,.lst (p.givens.map .str),.lst (p.rows.map rowD)]
def JJ (ps:List Pl):D:=.ins "Book" ["plans"] [.lst (ps.map JH)]
def prtD (p:Str×Int):D:=.tup [.str p.1,.int p.2]
structure ItOk (ahead:Int)(its:Jx):Prop where
 rng:∀p∈its,0<=p.1/\p.1<ahead
 far:∀p∈its,-1000000000000000000000000000000<p.2/\p.2<1000000000000000000000000000000
@[simp]def gIx_row0 (r:Str×Str×Jx):gIx (rowD r) (.int 0)=some (.str r.1):=rfl
@[simp]def gIx_row1 (r:Str×Str×Jx):gIx (rowD r) (.int 1)=some (.str r.2.1):=rfl
@[simp]def gIx_row2 (r:Str×Str×Jx):gIx (rowD r) (.int 2)=some (rwD r.2.2):=rfl
@[simp]def zvM (p:Pl):gIx (CY p) (.int 0)=some (.str p.name):=rfl
@[simp]def zwW (p:Pl):gIx (CY p) (.int 1)=some (.lst (p.givens.map .str)):=rfl
@[simp]def zxh (p:Pl):gIx (CY p) (.int 2)=some (.lst (p.rows.map rowD)):=rfl
@[simp]def gIx_prt0 (p:Str×Int):gIx (prtD p) (.int 0)=some (.str p.1):=rfl
@[simp]def gIx_prt1 (p:Str×Int):gIx (prtD p) (.int 1)=some (.int p.2):=rfl
@[simp]def zu4 (ps:List Pl):gFld "Book" "plans" (JJ ps)=some (.lst (ps.map JH)):=rfl
@[simp]def fld_name (p:Pl):gFld "Plan" "name" (JH p)=some (.str p.name):=rfl
@[simp]def ztx (p:Pl):gFld "Plan" "givens" (JH p)=some (.lst (p.givens.map .str)):=rfl
@[simp]def fld_rows (p:Pl):gFld "Plan" "rows" (JH p)=some (.lst (p.rows.map rowD)):=rfl
def KJ (ps:List Pl):List (Str×Int):=ps.map λp=>(p.name,(p.givens.length:Int))
def HowOk (parts:List (Str×Int))(how:Str)(n:Nat):Prop:=how = "all" \/ how = "first" \/ (how,(n:Int))∈parts
def W2 {n:Nat}{x:Str}(h:asc x):plN (n+1) (.str x)=true:=by
 show PyData.strOk x=true;unfold PyData.strOk;rw[<- Array.all_toList,Uo];exact λc hc=>Zp (UL (ziw.mp h c hc) ())
def Tp {x y:Str}(h:x.cps.toList=y.cps.toList):x=y:=by
 cases x;cases y;exact Zt Str.mk (Array.ext' h)
def signs (l:Yg):Bool:=l[0]? == some 120||l[0]? == some 121||l[0]? == some 113||l[2]? == some 113
structure WB (ps:List Pl):Prop where
 l1:1<=ps.length
 l2:ps.length<=20
 nd:(ps.map (·.name)).Nodup
 ok:∀p∈ps,TxtOk 12 p.name/\1<=p.name.length/\p.name ≠ "all" /\ p.name ≠ "first"
 how:∀(i:Nat) (p:Pl),ps[i]? = some p->∀r∈p.rows,r.2.1 = "all" \/ r.2.1 = "first" \/ r.2.1∈(ps.take i).map (·.name)
 sz:∀p∈ps,p.rows.length<=40/\p.givens.length<=12
@[simp]def ev_tmpN (is:Yg)(f:FE)(sd:SD):YH is f sd=(f (frzD is sd)).bare.bind λd=>if CG d then .ok d else .no:=rfl
@[simp]def ev_make (c:Str)(names:Yh)(Fn:Yy->Res Yy)(fa:FA)(sd:SD):A7 c names Fn fa sd=(fa sd).bind λds=>(Fn ds).bind λes=>.ok (.ins c names es):=rfl
@[simp]def Ir (i j k:Nat)(r:Str×Str×Jx)(sd:SD):Qa (.tup [i,j,k]) (rowD r) sd=.ok (((sd.set i (some (.val (.str r.1)))).set j (some (.val (.str r.2.1)))).set k (some (.val (rwD r.2.2)))):=rfl
@[simp]def zwH (x:Str):Qn (.str x)=some (.inr x):=rfl
def dT (t:List (Str×Int)):D:=.dct (t.map λp=>.inr p.1) (t.map λp=>.int p.2)
def lkT (t:List (Str×Int))(x:Str):Option Int:=(t.find? λp=>decide (p.1=x)).map (·.2)
def zit {a b:Str}:((UH a:Key)=.inr b)↔a=b:=⟨λz=>by injection z,λz=>by rw[z]⟩
theorem AH:∀(t:List (Str×Int)) (x:Str),valD (t.map λp=>.inr p.1) (t.map λp=>.int p.2) (.inr x)=(lkT t x).map .int
 | [],_=>rfl
 |p::t,x=>by
  rw[Zl,Zl];unfold valD lkT;rw[UT];by_cases h:p.1=x
  .rw[Zd (zit.mpr h),Zp h];rfl
  .rw[Ze (λz=>h (zit.mp z)),Zo h];exact AH t x
@[simp]def gIx_T (t:List (Str×Int))(x:Str):gIx (dT t) (.str x)=(lkT t x).map .int:=AH t x
@[simp]def gIn_T (neg:Bool)(t:List (Str×Int))(x:Str):gIn neg (.str x) (dT t)=some (.bl (if neg then !(lkT t x).isSome else(lkT t x).isSome)):=by
 show some (D.bl (if neg then !(valD (t.map λp=>.inr p.1) (t.map λp=>.int p.2) (.inr x)).isSome else(valD (t.map λp=>.inr p.1) (t.map λp=>.int p.2) (.inr x)).isSome))=_;rw[AH,VI]
def Tq (t:List (Str×Int))(x:Str):hasK (.inr x) (t.map λp=>.inr p.1)=t.any λp=>decide (p.1=x):=by
 unfold hasK;rw[Vp]
 congr 1
 funext p
 exact decide_eq_decide.mpr zit
def Iu {t:List (Str×Int)}{x:Str}(h:x∉t.map (·.1))(v:Int):D.dct (VY (t.map λp=>.inr p.1) (.inr x)) (Ws (t.map λp=>.inr p.1) (t.map λp=>.int p.2) (.inr x) (.int v))=dT (t++[(x,v)]):=by
 have hk:hasK (.inr x) (t.map λp=>.inr p.1)=false:=by
  rw[Tq,Vl];intro p hp z;exact h (Ja.mpr ⟨p,hp,of_decide_eq_true z⟩)
 unfold VY Ws dT;rw[hk,Ze (by simp),Ze (by simp),Ug,Ug];rfl
def ziO {t:List (Str×Int)}{x:Str}:lkT t x=none↔x∉t.map (·.1):=by
 unfold lkT;rw[Option.map_eq_none_iff,List.find?_eq_none];constructor
 .intro h z;obtain⟨p,hp,e⟩:=Ja.mp z;exact h p hp (Zp e)
 .intro h p hp z;exact h (Ja.mpr ⟨p,hp,of_decide_eq_true z⟩)
def Tr {a b:List (Str×Int)}{x:Str}(h:x∉a.map (·.1)):lkT (a++b) x=lkT b x:=by
 unfold lkT;rw[List.find?_append,show a.find? (λp=>decide (p.1=x))=none from Option.map_eq_none_iff.mp (ziO.mpr h)];rfl
def lk_at (x:Str)(v:Int)(b:List (Str×Int)):lkT ((x,v)::b) x=some v:=by
 unfold lkT;rw[UT,Zp rfl];rfl
def isP (how:Str):Bool:=!(decide (how = "all")||decide (how = "first"))
def wt1 (t:List (Str×Int))(p:Pl):Int:=p.rows.length+((p.rows.filter λr=>isP r.2.1).map λr=>(lkT t r.2.1).getD 0).sum
def wtS (t:List (Str×Int))(p:Pl):List (Str×Int):=t++[(p.name,wt1 t p)]
def wtF (ps:List Pl):List (Str×Int):=ps.foldl wtS []
def CZ (ps:List Pl)(p:Pl):wtF (ps++[p])=wtF ps++[(p.name,wt1 (wtF ps) p)]:=by
 unfold wtF;rw[US];rfl
theorem Iv:∀(l:List Pl) (t:List (Str×Int)),∃u,l.foldl wtS t=t++u
 | [],t=>⟨[],by simp⟩
 |p::l,t=>by
  obtain⟨u,e⟩:=Iv l (wtS t p);exact⟨(p.name,wt1 t p)::u,by rw[UE,e];unfold wtS;simp⟩
theorem Iw:∀(l:List Pl) (t:List (Str×Int)),(l.foldl wtS t).map (·.1)=t.map (·.1)++l.map (·.name)
 | [],t=>by simp
 |p::l,t=>by
  rw[UE,Iw l];unfold wtS;simp
def YN (l:List Pl):(wtF l).map (·.1)=l.map (·.name):=by
 unfold wtF;rw[Iw];rfl
def WB.fresh {ps:List Pl}(W:WB ps){i:Nat}{p:Pl}(hi:ps[i]? = some p):p.name∉(wtF (ps.take i)).map (·.1):=by
 rw[YN];intro z;have hlt:i<ps.length:=(Jb.mp hi).1;obtain⟨y,hy,e⟩:=Ja.mp z;obtain⟨j,hj,ej⟩:=UA hy;rw[Uj] at hj;have nd:=Jl.mp (Vk.mp W.nd) j i () hlt ();rw[List.getElem_take] at ej;apply nd;rw[ej,e,(Jb.mp hi).2]
def WB.at {ps:List Pl}(W:WB ps){i:Nat}{p:Pl}(hi:ps[i]? = some p):lkT (wtF ps) p.name=some (wt1 (wtF (ps.take i)) p):=by
 have hlt:i<ps.length:=(Jb.mp hi).1;have e:wtF ps=(ps.drop (i+1)).foldl wtS (wtF (ps.take i)++[(p.name,wt1 (wtF (ps.take i)) p)]):=by
  rw[<- CZ];unfold wtF;rw[<- US]
  congr 1
  have tk:ps.take (i+1)=ps.take i++[p]:=by rw[Uy,hi];rfl
  rw[<- tk,VV]
 obtain⟨u,hu⟩:=Iv (ps.drop (i+1)) (wtF (ps.take i)++[(p.name,wt1 (wtF (ps.take i)) p)]);rw[e,hu,UC,Tr (W.fresh hi)];exact lk_at _ _ _
def WB.part {ps:List Pl}(W:WB ps){i:Nat}{p:Pl}(hi:ps[i]? = some p){r:Str×Str×Jx}(hr:r∈p.rows):(lkT (wtF (ps.take i)) r.2.1).isSome=isP r.2.1:=by
 have out:∀w:Str,(∀y∈ps,y.name≠w)->lkT (wtF (ps.take i)) w=none:=λw hw=>ziO.mpr (by
  rw[YN];intro z;obtain⟨y,hy,e⟩:=Ja.mp z;exact hw y (Vv hy) e)
 rcases W.how i p hi r hr with z|z|z
 .rw[z,out "all" λy hy=>(W.ok y hy).2.2.1]
  decide +kernel
 .rw[z,out "first" λy hy=>(W.ok y hy).2.2.2]
  decide +kernel
 .have h1:(lkT (wtF (ps.take i)) r.2.1).isSome=true:=by
   cases h:lkT (wtF (ps.take i)) r.2.1 with
   |some v=>rfl
   |none=>exact Zn (by rw[YN];exact z) (ziO.mp h)
  rw[h1];obtain⟨y,hy,e⟩:=Ja.mp z;have ok:=W.ok y (Vv hy);unfold isP;rw[<- e,Zo ok.2.2.1,Zo ok.2.2.2];rfl
def WB.hasc {ps:List Pl}(W:WB ps){i:Nat}{p:Pl}(hi:ps[i]? = some p){r:Str×Str×Jx}(hr:r∈p.rows):asc r.2.1:=by
 rcases W.how i p hi r hr with z|z|z
 .rw[z];exact(Xt (n:=3) (by decide +kernel)).asc
 .rw[z];exact(Xt (n:=5) (by decide +kernel)).asc
 .obtain⟨y,hy,e⟩:=Ja.mp z;rw[<- e];exact(W.ok y (Vv hy)).1.asc
def Ts {α: Type}(f:α -> Int)(l:List α):CG (.lst (l.map λr=>D.int (f r)))=true:=by
 show(l.map λr=>D.int (f r)).all A8=true;rw[Uo];intro x hx;obtain⟨y,_,rfl⟩:=Ja.mp hx;rfl
def Tt {α: Type}(f:α -> Int)(l:List α):gSum [.lst (l.map λr=>D.int (f r))]=some (.int (l.map f).sum):=by
 rw[<- OP,Zw];rfl
def Tu {ps:List Pl}(W:WB ps)(i:Nat):(wtF (ps.take i)).length<=20:=by
 have e:(wtF (ps.take i)).length=((wtF (ps.take i)).map (·.1)).length:=by rw[Zql]
 rw[e,YN,Zql,Uj];have:=W.l2;omega
def isL (c:Nat):Bool:=decide (97<=c)&&decide (c<123)
def isG (c:Nat):Bool:=decide (48<=c)&&decide (c<58)
def kept:Yh:=["plan", "given", "all", "first", "part"]
def YO (x:Str):Bool:=decide (1<=x.length)&&(decide (x.length<=12)&&((kept.all λw => !decide (w=x))&&(isL (x.cps.toList.headD 0)&&x.cps.toList.all λc=>isL c||isG c)))
def nmOk (x:Str):Prop:=TxtOk 12 x/\YO x=true
def chkC (x:Str):Bool:=decide (x.length<=12)&&x.cps.all (· < 128)&&YO x
def WM {x:Str}(h:chkC x=true):nmOk x:=by
 unfold chkC at h;rw[Uc] at h;exact⟨Xt h.1,h.2⟩
def Da {l:Yh}(h:l.all chkC=true):∀x∈l,nmOk x:=λx hx=>WM (Uo.mp h x hx)
def nmOk.ne {x:Str}(h:nmOk x):1<=x.length/\x ≠ "all" /\ x ≠ "first" := by
 have h:=h.2;unfold YO at h;rw[Uc,Uc,Uc,decide_eq_true_eq] at h;have k:=Uo.mp h.2.2.1;have ka:=k "all" (by decide +kernel);have kf:=k "first" (by decide +kernel);exact⟨h.1,λz=>by rw[z] at ka;simp at ka,λz=>by rw[z] at kf;simp at kf⟩
structure PL (ahead:List Pl)(p:Pl):Prop where
 nm:nmOk p.name
 fresh:∀q∈ahead,q.name≠p.name
 tn:∀x∈p.givens++p.rows.map (·.1),nmOk x
 td:(p.givens++p.rows.map (·.1)).Nodup
 g1:1<=p.givens.length
 g2:p.givens.length<=12
 r1:1<=p.rows.length
 r2:p.rows.length<=40
 its:∀(k:Nat) (r:Str×Str×Jx),p.rows[k]? = some r->ItOk ((p.givens.length:Int)+k) r.2.2/\1<=r.2.2.length/\r.2.2.length<=40
 how:∀r∈p.rows,HowOk (KJ ahead) r.2.1 r.2.2.length
 wt:wt1 (wtF ahead) p<=2000
def LB (ps:List Pl):Prop:=∀(i:Nat) (p:Pl),ps[i]? = some p->PL (ps.take i) p
def LB.mem {ps:List Pl}(h:LB ps){p:Pl}(hp:p∈ps):∃i,PL (ps.take i) p:=by
 obtain⟨i,hi⟩:=List.getElem?_of_mem hp;exact⟨i,h i p hi⟩
def LB.wb {ps:List Pl}(h:LB ps)(l1:1<=ps.length)(l2:ps.length<=20):WB ps:=by
 refine⟨l1,l2,?_,λp hp=>?_,λi p hi r hr=>?_,λp hp=>?_⟩
 .rw[List.nodup_iff_pairwise_ne,Vk,List.pairwise_iff_getElem];intro i j hi hj hij;refine(h j ps[j] (Zqg hj)).fresh ps[i] ?_;exact Ud (i:=i) (by rw[List.getElem?_take,Zd hij];exact Zqg hi)
 .obtain⟨i,P⟩:=h.mem hp;obtain⟨a,b,c⟩:=P.nm.ne;exact⟨P.nm.1,a,b,c⟩
 .rcases(h i p hi).how r hr with z|z|z
  .exact .inl z
  .exact .inr (.inl z)
  .obtain⟨y,hy,ey⟩:=Ja.mp z;exact .inr (.inr (Ja.mpr ⟨y,hy,Zt Prod.fst ey⟩))
 .obtain⟨i,P⟩:=h.mem hp;exact⟨P.r2,P.g2⟩
theorem Db {ps:List Pl}:∀n,∀q∈wtF (ps.take n),∃i p,ps[i]? = some p/\q=(p.name,wt1 (wtF (ps.take i)) p)
 | 0,q,h=>by rw[List.take_zero] at h;cases h
 |n+1,q,h=>by
  cases hp:ps[n]? with
  |none =>
   have l:=Jn.mp hp;rw[Vb (show ps.length<=n+1 from ())] at h;have e:ps.take n=ps:=Vb l;exact Db n q (by rw[e];exact h)
  |some p =>
   have tk:ps.take (n+1)=ps.take n++[p]:=by rw[Uy,hp];rfl
   rw[tk,CZ] at h;rcases Jc.mp h with z|z
   .exact Db n q z
   .exact⟨n,p,hp,Vu.mp z⟩
def LB.wts {ps:List Pl}(h:LB ps):∀q∈wtF ps,q.2<=2000:=λq hq=>by
 obtain⟨i,p,hi,e⟩:=Db ps.length q (by rw[UK];exact hq);rw[e];exact(h i p hi).wt
theorem Ix {α: Type}{f:α -> Int}{M:Int}:∀l:List α,(∀x∈l,0<=f x/\f x<=M)->0<=(l.map f).sum/\(l.map f).sum<=l.length*M
 | [],_=>by simp
 |x::l,h=>by
  obtain⟨a,b⟩:=Ix l λy hy=>h y (Zqm _ hy);obtain⟨c,d⟩:=h x Zqs;rw[Zl,List.sum_cons,Zu,Int.natCast_succ,Int.add_mul,Int.one_mul];omega
def lk_le {t:List (Str×Int)}{M:Int}(h0:0<=M)(h:∀q∈t,0<=q.2/\q.2<=M)(x:Str):0<=(lkT t x).getD 0/\(lkT t x).getD 0<=M:=by
 unfold lkT;cases e:t.find? λp=>decide (p.1=x) with
 |none=>exact⟨Int.le_refl _,h0⟩
 |some q=>exact h q (List.mem_of_find?_eq_some e)
def Tv {t:List (Str×Int)}{M:Int}(h0:0<=M)(h:∀q∈t,0<=q.2/\q.2<=M)(p:Pl):0<=wt1 t p/\wt1 t p<=p.rows.length+p.rows.length*M:=by
 obtain⟨a,b⟩:=Ix (f:=λr:Str×Str×Jx=>(lkT t r.2.1).getD 0) (M:=M) (p.rows.filter λr=>isP r.2.1) λr _=>lk_le h0 h r.2.1;have l:(((p.rows.filter λr=>isP r.2.1).length:Nat):Int)<=(p.rows.length:Int):=by
  have:=List.length_filter_le (λr:Str×Str×Jx=>isP r.2.1) p.rows;omega
 have m:=Int.mul_le_mul_of_nonneg_right l h0;unfold wt1;omega
def bnd:Nat->Int
 | 0=>0
 |n+1=>6+6*bnd n
theorem AI {α: Type}:∀{l m:List α},l.Nodup->(∀x∈l,x∈m)->l.length<=m.length
 | [],m,_,_=>Ue _
 |x::l,m,h,s=>by
  obtain⟨a,b,rfl⟩:=List.append_of_mem (s x Zqs);obtain⟨h1,h2⟩:=Jh.mp h;have ih:=AI (l:=l) (m:=a++b) h2 λy hy=>by
   rcases Jc.mp (s y (Zqm _ hy)) with z|z
   .exact UP _ z
   .rcases UB.mp z with z|z
    .rw[z] at hy;exact Zn hy h1
    .exact Ul _ z
  rw[Ub] at ih;rw[Ub,Zu,Zu];omega
def stF (t g:Jy):Jy:=Qo (t++g)
structure Fm (n:Int)(U:Jy)(f:Jy):Prop where
 good:Good n f
 sub:∀r∈f,r∈U
def Iy {n:Int}{f:Jy}(G:Good n f):f.Nodup:=G.srt.imp λ{a b} h e=>by
 subst e;have:=zaP.asy _ _ h;rw[h] at this;cases this
def Iz {n:Int}{f:Jy}(G:Good n f):Qo f=f:=Ab zaP (CW f) G.srt λr =>
 ⟨λh=>(zaD.mp h).1,λh=>zaD.mpr ⟨h,zcA.mpr λo ho hu=>G.anti o ho r h hu⟩⟩
def Fm.len {n:Int}{U f:Jy}(F:Fm n U f)(h:U.length<=28):f.length<=28:=Zh (AI (Iy F.good) F.sub) h
def Fm.step {n:Int}{U t g:Jy}(T:Fm n U t)(G:Fm n U g)(h:U.length<=28):Fm n U (stF t g):=by
 have rows:∀r∈t++g,RowOk n r/\Rise r/\r∈U:=λr hr=>by
  rcases Jc.mp hr with z|z
  .exact⟨T.good.rows r z,T.good.rise r z,T.sub r z⟩
  .exact⟨G.good.rows r z,G.good.rise r z,G.sub r z⟩
 have sub:∀r∈stF t g,r∈U:=λr hr=>(rows r (zaD.mp hr).1).2.2;refine⟨⟨λz=>?_,λr hr=>(rows r (zaD.mp hr).1).1,λr hr=>(rows r (zaD.mp hr).1).2.1,?_,λr hr s hs hu=>zcA.mp (zaD.mp hs).2 r (zaD.mp hr).1 hu,CW _⟩,sub⟩
 .obtain⟨r,hr⟩:=List.exists_mem_of_ne_nil _ T.good.ne;obtain⟨s,hs,_⟩:=Te (rs:=t++g) (λr hr=>⟨(rows r hr).1.once,(rows r hr).2.1⟩) (UP _ hr);have hs:s∈stF t g:=hs;rw[z] at hs;cases hs
 .have:=AI (Th (t++g)) sub;show(Qo (t++g)).length<=40;omega
@[simp]def ev_x2L (fe:FE)(sd:SD)(hp:HP):x2L fe sd hp=(fe sd).bind λd=>.ok (d,hp):=rfl
@[simp]def ev_x2Op (g:D->D->Yz)(fa fb:FX2)(sd:SD)(hp:HP):x2Op g fa fb sd hp=(fa sd hp).bind λp=>(fb sd p.2).bind λq=>(Res.ofO (g p.1 q.1)).bind λz=>.ok (z,q.2):=rfl
@[simp]def zw2 (Fn:Yy->HP->Res (D×HP))(fr:FA)(sd:SD)(hp:HP):S8 Fn fr sd hp=(fr sd).bind λds=>Fn ds hp:=rfl
@[simp]def ev_x2Nil (sd:SD)(hp:HP):x2Nil sd hp=.ok ([],hp):=rfl
@[simp]def zw5 (f:FX2)(g:FXA2)(sd:SD)(hp:HP):S6 f g sd hp=(f sd hp).bind λp=>(g sd p.2).bind λq=>.ok (p.1::q.1,q.2):=rfl
@[simp]def ev_x2Tup (fr:FXA2)(sd:SD)(hp:HP):x2Tup fr sd hp=(fr sd hp).bind λp=>if p.1.length<=1000 then .ok (.tup p.1,p.2) else .no:=rfl
@[simp]def zwJ (i:Nat)(f:FX2)(sd:SD)(hp:HP):S7 i f sd hp=(f sd hp).bind λp=>.ok (.next (sd.set i (some (.val p.1))) p.2):=rfl
@[simp]def ev_eFrz (i:Nat)(g:FX2)(sd:SD)(hp:HP):eFrz i g sd hp=g (frzD [i] sd) hp:=rfl
@[simp]def ev_x2Rd (is:Yg)(f:FE)(sd:SD)(hp:HP):x2Rd is f sd hp=(f (derI hp is sd)).strict.bind λd=>if Qk d then .ok (d,hp) else .no:=rfl
def eK (g:FX2):Out2->Res (D×HP)
 | .next sd hp=>g sd hp
 |_=>.no
@[simp]def eK_next (g:FX2)(sd:SD)(hp:HP):eK g (.next sd hp)=g sd hp:=rfl
@[simp]def ev_eSeq (g1:FS2)(g:FX2)(sd:SD)(hp:HP):eSeq g1 g sd hp=(g1 sd hp).bind (eK g):=by
 unfold eSeq;cases g1 sd hp with
 |ok o=>cases o<;>rfl
 |ex c es=>rfl
 |no=>rfl
@[simp]def ev_eIf (fc:FXT2)(ga g:FX2)(sd:SD)(hp:HP):eIf fc ga g sd hp=(fc sd hp).bind λp=>if p.1 then ga sd p.2 else g sd p.2:=rfl
def tK (p:D×HP):Res (Bool×HP):=match p.1 with
 | .bl b=>.ok (b,p.2)
 |_=>.no
@[simp]def tK_bl (b:Bool)(hp:HP):tK (.bl b,hp)=.ok (b,hp):=rfl
@[simp]def zvl (f:FX2)(sd:SD)(hp:HP):S5 f sd hp=(f sd hp).bind tK:=rfl
def sqN {a b:FS}{sd sd':SD}{r:Res Out}(h:a sd=.ok (.next sd'))(h2:b sd'=r):sSeq a b sd=r:=by
 rw[O2,h];exact h2
def AJ {x y:Str}(hx:asc x)(hy:asc y):gEq (.str x) (.str y)=some (.bl (decide (x=y))):=by
 rw[Wq (W2 hx) (W2 hy)];unfold sameD
 congr 2
 exact decide_eq_decide.mpr ⟨λz=>by injection z,λz=>by rw[z]⟩
def AK:asc "all" := by unfold asc;decide +kernel
def AL:asc "first" := by unfold asc;decide +kernel
def IA:gEq (.str "all") (.str "all")=some (.bl true):=by rw[AJ AK AK];congr 2
def IB:gEq (.str "first") (.str "all")=some (.bl false):=by rw[AJ AL AK];congr 2
def IC:gEq (.str "first") (.str "first")=some (.bl true):=by rw[AJ AL AL];congr 2
def tmsF (found:Ye)(its:Jx):Ye:=its.map λp=>nthI found p.1+p.2
def valF (found:Ye)(r:Str×Str×Jx):Int:=if r.2.1 = "all" then maxI (tmsF found r.2.2) else minI (tmsF found r.2.2)
def runF (rows:List (Str×Str×Jx))(hs:Ye):Ye:=rows.foldl (λf r=>f++[valF f r]) hs
structure RowsOk (n:Nat)(rows:List (Str×Str×Jx)):Prop where
 len:rows.length<=60
 pos:1<=rows.length
 how:∀r∈rows,r.2.1 = "all" \/ r.2.1 = "first"
 ne:∀r∈rows,r.2.2 ≠ []
 sh:∀r∈rows,r.2.2.length<=60
 rng:∀(k:Nat) r,rows[k]? = some r->∀p∈r.2.2,0<=p.1/\p.1<(n:Int)+k
def Dc {rows:List (Str×Str×Jx)}{hs:Ye}{i:Nat}{r:Str×Str×Jx}(h:rows[i]? = some r):runF (rows.take (i+1)) hs=runF (rows.take i) hs++[valF (runF (rows.take i) hs) r]:=by
 unfold runF;rw[Uy,h,US];rfl
theorem Ax:∀(rows:List (Str×Str×Jx)) (hs:Ye),(runF rows hs).length=hs.length+rows.length
 | [],hs=>rfl
 |r::rows,hs=>by
  show(runF rows (hs++[valF hs r])).length=_;rw[Ax rows,Ub,Uq,Zu];omega
def Tw {found:Ye}{its:Jx}(h:its ≠ []):tmsF found its ≠ []:=λz=>h (List.map_eq_nil_iff.mp z)
def Tx (found:Ye)(its:Jx):(tmsF found its).length=its.length:=by unfold tmsF;rw[Zql]
def Tz {found:Ye}{its:Jx}(h:∀p∈its,0<=p.1/\p.1<(found.length:Int)):mapE (.tup [0,1]) (dOp gAdd (dOp gIx (dVar 2) (dVar 0)) (dVar 1)) [none,none,some (.val (.lst (found.map .int)))] (its.map prD)=.ok ((tmsF found its).map .int):=by
 unfold tmsF;rw[Zw];exact KD λp hp=>by
  have:=AC (h p hp).1 (h p hp).2;simp[this]
def RowsOk.at {n:Nat}{rows:List (Str×Str×Jx)}(ok:RowsOk n rows){hs:Ye}(hn:hs.length=n){i:Nat}{r:Str×Str×Jx}(h:rows[i]? = some r):(∀p∈r.2.2,0<=p.1/\p.1<((runF (rows.take i) hs).length:Int))/\(runF (rows.take i) hs).length=n+i/\i<rows.length/\r∈rows:=by
 have hi:=(Jb.mp h).1;have e:(runF (rows.take i) hs).length=n+i:=by rw[Ax,Uj];omega
 refine⟨λp hp=>?_,e,hi,Ud h⟩;have:=ok.rng i r h p hp;rw[e];omega
def ID {α: Type}{f:α -> D}(ys:List α)(x:α):gIx (.lst ((ys++[x]).map f)) (.int (-1))=some (f x):=by
 show atI ((ys++[x]).map f) (-1)=_;unfold atI ixN;rw[Ze (),Zd (by rw[Zql,Ub,Uq];omega)];have e:((-1:Int)+(((ys++[x]).map f).length:Int)).toNat=ys.length:=by
  rw[Zql,Ub,Uq];omega
 show((ys++[x]).map f)[_]? = _;rw[e,Zv,Ve (Zf _),Nat.sub_self];rfl
def T2 (x:Str):Str.empty++x=x:=Tp (by rw[Ti];rfl)
def IE (x:Str){k:Nat}(h:k<64):gFmt x (.int (k:Int))=some (.str (x++digF k)):=by
 have e:gFmt x (.int (k:Int))=some (.str (Str.empty++x++digF k)):=Zd (Vs.mpr ());rw[e,T2]
def rowN (k:Nat)(x:Jx):Str×Str×Jx:=("r" ++ digF k, "all",x)
def rowE (many n:Nat):Str×Str×Jx:=("end", "first",(List.range n).map λk:Nat=>((many:Int)+k,0))
def pln (nm:Str)(many:Nat)(f:Jy):Pl:=⟨nm,(List.range many).map λk => "g" ++ digF k,((List.range f.length).map λk:Nat=>rowN k (f.getD k []))++[rowE many f.length]⟩
def IF (f:Jy):KW (f.map rwD)=(List.range f.length).map λk:Nat=>D.tup [.int k,rwD (f.getD k [])]:=by
 apply VE;intro i;rw[Gz,Zv,Zv];rcases VF i f.length with z|z
 .rw[Zqg z,Va z];show some (D.tup [.int i,rwD f[i]])=some (D.tup [.int i,rwD (f.getD i [])]);rw[Ua,Zqg z];rfl
 .rw[UF z,UF (by rw[ZB];exact z)];rfl
def WN (nm:Str)(many:Nat)(f:Jy):(pln nm many f).rows.length=f.length+1:=by
 unfold pln;rw[Ub,Zql,ZB];rfl
def Wd {nm:Str}{many:Nat}{f:Jy}{i:Nat}{r:Str×Str×Jx}(h:(pln nm many f).rows[i]? = some r):(∃x,f[i]? = some x/\r=rowN i x)\/(i=f.length/\r=rowE many f.length):=by
 have h:(((List.range f.length).map λk:Nat=>rowN k (f.getD k []))++[rowE many f.length])[i]? = some r:=h;rcases VF i f.length with z|z
 .rw[Vf (by rw[Zql,ZB];exact z),Zv,Va z] at h;left;refine⟨f[i],Zqg z,?_⟩;have e:f.getD i []=f[i]:=by rw[Ua,Zqg z];rfl
  injection h with h
  rw[<- h];show rowN i (f.getD i [])=_;rw[e]
 .rw[Ve (by rw[Zql,ZB];exact z),Zql,ZB] at h;right;rcases VQ (i-f.length) with y|y
  .rw[y] at h;injection h with h
   exact⟨(),h.symm⟩
  .rw[UF (by rw[Uq];omega)] at h;cases h
def Dd {nm:Str}{many:Nat}{f:Jy}{n:Int}(G:Good n f)(l:f.length<=39)(hn:n<=(many:Int))(hm:many<=12)(h1:0<n):RowsOk many (pln nm many f).rows:=by
 have fl:0<f.length:=Jk.mpr G.ne;have at_:∀r∈(pln nm many f).rows,∃i,(pln nm many f).rows[i]? = some r:=λr hr=>List.mem_iff_getElem?.mp hr;refine⟨by rw[WN];omega,by rw[WN];omega,λr hr=>?_,λr hr=>?_,λr hr=>?_,λk r hk p hp=>?_⟩
 .obtain⟨i,hi⟩:=at_ r hr;rcases Wd hi with ⟨x,_,rfl⟩|⟨_,rfl⟩
  .exact .inl rfl
  .exact .inr rfl
 .obtain⟨i,hi⟩:=at_ r hr;rcases Wd hi with ⟨x,hx,rfl⟩|⟨_,rfl⟩
  .exact(G.rows x (Ud hx)).ne
  .intro z;have z:((List.range f.length).map λk:Nat=>((many:Int)+k,(0:Int)))=[]:=z;have:=Zt List.length z;rw[Zql,ZB] at this;have:f.length=0:=this;omega
 .obtain⟨i,hi⟩:=at_ r hr;rcases Wd hi with ⟨x,hx,rfl⟩|⟨_,rfl⟩
  .have:=(G.rows x (Ud hx)).len;show x.length<=60;omega
  .show((List.range f.length).map λk:Nat=>((many:Int)+k,(0:Int))).length<=60;rw[Zql,ZB];omega
 .rcases Wd hk with ⟨x,hx,rfl⟩|⟨rfl,rfl⟩
  .have:=(G.rows x (Ud hx)).mem p hp;omega
  .have hp:p∈(List.range f.length).map λk:Nat=>((many:Int)+k,(0:Int)):=hp;obtain⟨j,hj,rfl⟩:=Ja.mp hp;have hj:=Jd.mp hj;exact⟨by show(0:Int)<=many+j;omega,by show(many:Int)+j<many+f.length;omega⟩
def T3 {hs ys:Ye}{t:Int}(h0:0<=t)(h1:t<(hs.length:Int)):nthI (hs++ys) t=nthI hs t:=by
 unfold nthI;rw[Ua,Ua,Vf ()]
def T4 {nm:Str}{many:Nat}{f:Jy}{n:Int}{hs:Ye}(G:Good n f)(hn:n<=(many:Int))(hl:hs.length=many):∃ys,runF (pln nm many f).rows hs=ys++[Xs f hs]:=by
 have mid:∀k,k<=f.length->runF ((pln nm many f).rows.take k) hs=hs++(f.take k).map λr=>QC r hs:=by
  intro k
  induction k with
  |zero=>intro _;rw[List.take_zero,List.take_zero,Uu,ZA];rfl
  |succ k ih =>
   intro hk;obtain⟨r,hr⟩:∃r,(pln nm many f).rows[k]? = some r:=⟨_,Zqg (by rw[WN];omega)⟩;rw[Dc hr,ih ()];rcases Wd hr with ⟨x,hx,rfl⟩|⟨z,_⟩
   .rw[Uy,hx,Ug,UC]
    congr 2
    have R:=G.rows x (Ud hx);show[valF _ (rowN k x)]=[QC x hs]
    congr 1
    unfold valF;rw[Zd (show(rowN k x).2.1 = "all" from rfl)];show maxI (tmsF _ x)=_;unfold tmsF QC
    congr 1
    refine Vq λp hp=>?_;have:=R.mem p hp;rw[T3 this.1 ()]
   .omega
 obtain⟨r,hr⟩:∃r,(pln nm many f).rows[f.length]? = some r:=⟨_,Zqg (by rw[WN];omega)⟩;have e:=Dc (hs:=hs) hr;rw[Vb (by rw[WN];omega),mid f.length (Zf _),UK] at e;rcases Wd hr with ⟨x,hx,_⟩|⟨_,rfl⟩
 .have:=(Jb.mp hx).1;omega
 .refine⟨hs++f.map (λr=>QC r hs),e.trans ?_⟩
  congr 2
  unfold valF;rw[Ze (show ¬(rowE many f.length).2.1 = "all" from (show ¬("first" : Str) = "all" by decide +kernel))];show minI (tmsF _ ((List.range f.length).map λk:Nat=>((many:Int)+k,(0:Int))))=_;unfold Xs tmsF
  congr 1
  rw[Zw];apply VE;intro i;rw[Zv,Zv];rcases VF i f.length with z|z
  .rw[Va z,Zqg z];show some (nthI (hs++f.map λr=>QC r hs) ((many:Int)+i)+0)=some (QC f[i] hs);rw[Int.add_zero];unfold nthI;rw[Ua,Ve (),show((many:Int)+i).toNat-hs.length=i by omega,Zv,Zqg z];rfl
  .rw[UF (by rw[ZB];exact z),UF z];rfl
noncomputable def I_Book:Yy->Res Yy:=runI 2 2 (Jz (dBlt Ka (Jz (dVar 1) dNil)) dNil)
noncomputable def I_Plan:Yy->Res Yy:=runI 4 4 (Jz (dVar 1) (Jz (dBlt Ka (Jz (dVar 2) dNil)) (Jz (dBlt Ka (Jz (dVar 3) dNil)) dNil)))
noncomputable def YQ:FS:=(sSeq (sIf (J7 (dOp gLt (dVar 1) (dBlt gLen (Jz (dVar 0) dNil)))) (sRet (dOp gIx (dVar 0) (dVar 1))) JF) (sRet (dC (.int 0))))
noncomputable def Kd:Yy->Res D:=runD 2 2 YQ
def De (ns:Ye)(k:Nat):Kd [.scr ns,.int k]=.ok (.int (Km ns k)):=by
 unfold Km;rw[Vc];by_cases h:k<ns.length
 .have e:atI ns (k:Int)=some ns[k]:=by rw[Xq h];exact Zqg h
  have e2:ns.getD k 0=ns[k]:=by rw[Ua,Zqg h];rfl
  rw[e2];simp[Kd,YQ,h,e]
 .have e2:ns.getD k 0=0:=by rw[Ua,UF ()];rfl
  rw[e2];simp[Kd,YQ,h]
noncomputable def AM:FS:=(sSeq (sSet 2 (dC .non)) (sSeq (sFor (iS (dVar 0)) (.tup [3,4]) (sIf (dOrT (J7 (dUn (gIsN false) (dVar 2))) (J7 (dOp gGt (dOp gAdd (dOp gIx (dVar 1) (dVar 3)) (dVar 4)) (dVar 2)))) (sSet 2 (dOp gAdd (dOp gIx (dVar 1) (dVar 3)) (dVar 4))) JF)) (sRet (dVar 2))))
noncomputable def Xu:Yy->Res D:=runD 5 2 AM
def f_z43 {r:Jx}{hs:Ye}(hne:r ≠ [])(hb:∀p∈r,0<=p.1/\p.1<(hs.length:Int)):Xu [rwD r,.lst (hs.map .int)]=.ok (.int (QC r hs)):=by
 simp[Xu,AM,rwD];generalize hB:sIf _ _ JF=b;obtain⟨sd',e,u,v,hsd⟩:=Qw (tg:=.tup [3,4]) (b:=b) (ds:=r.map prD) (sd:=[some (.val (.tup (r.map prD))),some (.val (.lst (hs.map .int))),some (.val .non),none,none])
  (P:=λi sd=>∃u v,sd=[some (.val (.tup (r.map prD))),some (.val (.lst (hs.map .int))),some (.val (if i=0 then .non else .int (QC (r.take i) hs))),u,v]) ⟨none,none,rfl⟩ (by
   rintro i x sd hx ⟨u,v,rfl⟩;obtain⟨p,hp,rfl⟩:=Qx hx;obtain⟨b1,b2⟩:=hb p (Ud hp);have ha:=AC b1 b2;have et:r.take (i+1)=r.take i++[p]:=V4 hp;subst hB;by_cases q:i=0
   .subst q;simp[ha,et,QC,SG]
   .have hl:(r.take i).map (λp=>nthI hs p.1+p.2) ≠ []:=by
     intro z;have:=Zt List.length z;rw[Zql,Uj] at this;have hi:=(Jb.mp hp).1;simp only[ZC] at this;omega
    have hm:QC (r.take (i+1)) hs=if QC (r.take i) hs<nthI hs p.1+p.2 then nthI hs p.1+p.2 else QC (r.take i) hs:=by
     rw[et];unfold QC;rw[Ug];exact SF hl _
    by_cases c:QC (r.take i) hs<nthI hs p.1+p.2
    .rw[Zd c] at hm;simp[q,ha,c,hm]
    .rw[Ze c] at hm;simp[q,ha,c,hm])
 rw[e];subst hsd;have hn:¬r.length=0:=λz=>hne (Jf.mp z);simp[hne]
noncomputable def AN:FS:=(sRet (dBlt Xg (Jz (Qq [none,some 1] (iS (dVar 0)) (.one 0) (J8 Xu (Jz (dVar 0) (Jz (dVar 1) dNil)))) dNil)))
noncomputable def WO:Yy->Res D:=runD 2 2 AN
def f_z44 {f:Jy}{hs:Ye}(hf:f ≠ [])(hl:f.length<=1000)(hne:∀r∈f,r ≠ [])(hb:∀r∈f,∀p∈r,0<=p.1/\p.1<(hs.length:Int)):WO [frD f,.lst (hs.map .int)]=.ok (.int (Xs f hs)):=by
 have key:mapE (.one 0) (J8 Xu (Jz (dVar 0) (Jz (dVar 1) dNil))) [none,some (.val (.lst (hs.map .int)))] (f.map rwD)=.ok (f.map λr=>.int (QC r hs)):=KD λr hr=>by
  simp[f_z43 (hne r hr) (hb r hr)]
 have e:f.map (λr=>D.int (QC r hs))=(f.map λr=>QC r hs).map .int:=by rw[Zw];rfl
 have hm:=Gp (ns:=f.map λr=>QC r hs) (λz=>hf (List.map_eq_nil_iff.mp z));rw[<- e] at hm;simp[WO,AN,frD,key,JV hl,hm,Xs]
noncomputable def AO:FS:=(sSeq (sSet 2 (dOp gMod (dOp gMul (dOp gAdd (dOp gMod (dVar 0) (dC (.int 2147483647))) (dVar 1)) (dC (.int 48271))) (dC (.int 2147483647)))) (sRet (dOp gMod (dOp gMul (dVar 2) (dVar 2)) (dC (.int 2147483629)))))
noncomputable def We:Yy->Res D:=runD 3 2 AO
@[simp]def f_z34 (c s:Int):We [.int c,.int s]=.ok (.int (mixF c s)):=by
 have h1:Kp (c % 2147483647+s) 48271=true:=Cn () ();have h2:Kp ((c % 2147483647+s)*48271 % 2147483647) ((c % 2147483647+s)*48271 % 2147483647)=true:=Cn () ();simp[We,AO,Y3 h1,Y3 h2,mixF]
noncomputable def Xv:FS:=(sSeq (sSet 2 (J8 We (Jz (dVar 0) (Jz (dVar 1) dNil)))) (sSeq (sIf (J7 (dOp gGt (dOp gMod (dVar 2) (dC (.int 4))) (dC (.int 0)))) (sRet (dOp gSub (dOp gMod (dOp Kq (dVar 2) (dC (.int 4))) (dC (.int 7))) (dC (.int 3)))) JF) (sSeq (sSet 3 (dOp gMod (dOp gMul (dOp Kq (dVar 0) (dC (.int 5))) (dOp gAdd (dVar 1) (dC (.int 3)))) (dOp gSub (dOp gPow (dC (.int 10)) (dC (.int 30))) (dC (.int 20))))) (sSeq (sIf (J7 (dOp gEq (dOp gMod (dOp Kq (dVar 2) (dC (.int 28))) (dC (.int 2))) (dC (.int 0)))) (sRet (dVar 3)) JF) (sRet (dUn gNeg (dVar 3)))))))
noncomputable def QP:Yy->Res D:=runD 4 2 Xv
def numF (c s:Int):Int:=
 if 0<mixF c s % 4 then mixF c s / 4 % 7-3
 else if mixF c s / 28 % 2=0 then c / 5*(s+3) % 999999999999999999999999999980 else -(c / 5*(s+3) % 999999999999999999999999999980)
def Df (c s:Int): -999999999999999999999999999980<numF c s/\numF c s<999999999999999999999999999980:=by
 unfold numF;have a:=UX (c / 5*(s+3)) (show(999999999999999999999999999980:Int)≠0 by omega);have b:=UW (c / 5*(s+3)) (show(0:Int)<999999999999999999999999999980 by omega);generalize c / 5*(s+3) % 999999999999999999999999999980=z at a b
 split
 .omega
 .split<;>omega
def YR {c s:Int}(h1: -1000000<=s)(h2:s<=1000000):QP [.int c,.int s]=.ok (.int (numF c s)):=by
 have h3:Kp (c / 5) (s+3)=true:=Cn () ();have h4:gPow (.int 10) (.int 30)=some (.int 1000000000000000000000000000000):=by
  show some (D.int (10 ^ 30))=_
  congr 2
 unfold numF;by_cases c1:0<mixF c s % 4
 .simp[QP,Xv,c1]
 .by_cases c2:mixF c s / 28 % 2=0
  .simp[QP,Xv,c1,c2,Y3 h3,h4]
  .simp[QP,Xv,c1,c2,Y3 h3,h4]
noncomputable def AQ:FS:=(sSeq (sSet 2 (J8 We (Jz (dVar 0) (Jz (dC (.int 7)) dNil)))) (sSeq (sOwn 3 (dLst dNil)) (sSeq (sFor (iR1 (Jz (dVar 1) dNil)) (.one 4) (sSeq (sIf (J7 (dOp gEq (dOp gMod (dVar 2) (dC (.int 2))) (dC (.int 1)))) (Qt 3 (dTup (Jz (dVar 4) (Jz (J8 QP (Jz (dVar 0) (Jz (dOp gAdd (dC (.int 13)) (dVar 4)) dNil))) dNil)))) JF) (sSet 2 (dOp Kq (dVar 2) (dC (.int 2)))))) (sSeq (sIf (WA [3] (J7 (dOp gEq (dVar 3) (dLst dNil)))) (Qt 3 (dTup (Jz (dOp gMod (dVar 0) (dVar 1)) (Jz (J8 QP (Jz (dVar 0) (Jz (dC (.int 31)) dNil))) dNil)))) JF) (λsd=>(sRet (dBlt KR (Jz (dVar 3) dNil))) (frzD [3] sd))))))
noncomputable def YS:Yy->Res D:=runD 5 2 AQ
def rowB (c n:Int):Jx:=rowG (mixF c 7) (λi=>numF c (13+i)) c (numF c 31) n
def f_z37 {c n:Int}(h1:1<=n)(h2:n<=12):YS [.int c,.int n]=.ok (rwD (rowB c n)):=by
 have r1:QR [.int n]=.ok (JQ 0 n.toNat):=Ky () ();simp[YS,AQ,r1];generalize hb:sSeq (sIf _ _ _) (sSet 2 _)=b;obtain⟨sd',e,u,rfl⟩:=Qw (tg:=.one 4) (b:=b) (ds:=JQ 0 n.toNat) (sd:=[some (.val (.int c)),some (.val (.int n)),some (.val (.int (mixF c 7))),some (.own false (.lst [])),none])
  (P:=λi sd=>∃u,sd=[some (.val (.int c)),some (.val (.int n)),some (.val (.int (Xr (mixF c 7) i))),some (.own false (.lst ((preG (mixF c 7) (λi=>numF c (13+i)) i).map prD))),u]) ⟨none,rfl⟩ (by
   rintro i x sd hx ⟨u,rfl⟩;obtain⟨rfl,hi⟩:=Y5 hx;have hw:=YR (c:=c) (s:=13+i) () ();have hl:=CM (mixF c 7) (λi=>numF c (13+i)) i;subst hb;by_cases q:Xr (mixF c 7) i % 2=1
   .simp[q,hw,JV (show(preG (mixF c 7) (λi=>numF c (13+i)) i).length<=1000 by omega),preG,Xr,prD]
   .simp[q,preG,Xr])
 rw[e];have hp:=Wq (HU (preG (mixF c 7) (λi=>numF c (13+i)) n.toNat)) KI;have hw:=YR (c:=c) (s:=31) () ();rw[Kz];unfold rowB rowG;by_cases q:preG (mixF c 7) (λi=>numF c (13+i)) n.toNat=[]
 .simp[q,hw,Wq KI KI,Kr,show 0<n by omega,JV (show 0<=1000 from ()),rwD,prD]
 .simp[q,hp,Xp,rwD]
noncomputable def AR:FS:=(sSeq (sSet 3 (dBlt KS (Jz (dVar 0) dNil))) (sSeq (sOwn 4 (dLst dNil)) (sSeq (sFor (iR1 (Jz (dVar 2) dNil)) (.one 5) (sSeq (sSet 6 (J8 We (Jz (dVar 1) (Jz (dOp gAdd (dC (.int 43)) (dVar 5)) dNil)))) (sSeq (sIf (K8 (J7 (dOp (gIn false) (dVar 5) (dVar 3))) (J7 (dOp gGt (dOp gMod (dVar 6) (dC (.int 6))) (dC (.int 0))))) (Qt 4 (dTup (Jz (dVar 5) (Jz (dOp gAdd (dOp gIx (dVar 3) (dVar 5)) (dOp gIx (dLst (Jz (dC (.int 0)) (Jz (dC (.int 0)) (Jz (dC (.int 1)) (Jz (dUn gNeg (dC (.int 1))) dNil))))) (dOp gMod (dOp Kq (dVar 6) (dC (.int 6))) (dC (.int 4))))) dNil)))) JF) (sIf (K8 (J7 (dOp (gIn true) (dVar 5) (dVar 3))) (J7 (dOp gEq (dOp gMod (dVar 6) (dC (.int 5))) (dC (.int 0))))) (Qt 4 (dTup (Jz (dVar 5) (Jz (J8 QP (Jz (dVar 1) (Jz (dOp gAdd (dC (.int 67)) (dVar 5)) dNil))) dNil)))) JF)))) (sSeq (sIf (WA [4] (J7 (dOp gEq (dVar 4) (dLst dNil)))) (sRet (dVar 0)) JF) (λsd=>(sRet (dBlt KR (Jz (dVar 4) dNil))) (frzD [4] sd))))))
noncomputable def YT:Yy->Res D:=runD 7 3 AR
def W3:Ye:=[0,0,1,-1]
def varB (c:Int)(i:Nat):Option Int->Option Int
 |some w=>if 0<mixF c (43+i) % 6 then some (w+nthI W3 (mixF c (43+i) / 6 % 4)) else none
 |none=>if mixF c (43+i) % 5=0 then some (numF c (67+i)) else none
def f_z38 {r:Jx}{c n:Int}(o:Once r)(hl:r.length<=100)(h1:0<=n)(h2:n<=12):YT [rwD r,.int c,.int n]=.ok (rwD (KZ r (varB c) n)):=by
 have r1:QR [.int n]=.ok (JQ 0 n.toNat):=Ky () ();have hd:=Ap hl o;simp[YT,AR,r1,hd];generalize hB:sSeq (sSet 6 _) _=b;obtain⟨sd',e,u,v,hsd⟩:=Qw (tg:=.one 5) (b:=b) (ds:=JQ 0 n.toNat) (sd:=[some (.val (rwD r)),some (.val (.int c)),some (.val (.int n)),some (.val (dcR r)),some (.own false (.lst [])),none,none])
  (P:=λi sd=>∃u v,sd=[some (.val (rwD r)),some (.val (.int c)),some (.val (.int n)),some (.val (dcR r)),some (.own false (.lst ((Q3 r (varB c) i).map prD))),u,v]) ⟨none,none,rfl⟩ (by
   rintro i x sd hx ⟨u,v,rfl⟩;obtain⟨rfl,hi⟩:=Y5 hx;have hw:=YR (c:=c) (s:=67+i) () ();have hl:=CN r (varB c) i;have hz:=JV (show(Q3 r (varB c) i).length<=1000 by omega);have hv:=Y4 o (i:Int);have hm:atI [D.int 0,D.int 0,D.int 1,D.int (-1)] (mixF c (43+i) / 6 % 4)=some (.int (nthI W3 (mixF c (43+i) / 6 % 4))):=AC (hs:=W3) () (by show _<(4:Int);omega);subst hB;cases q:JA r i with
   |some w =>
    rw[q] at hv;by_cases c1:0<mixF c (43+i) % 6
    .have es:Ku r (varB c) i=[((i:Int),w+nthI W3 (mixF c (43+i) / 6 % 4))]:=by unfold Ku varB;rw[q];simp[c1]
     simp[dcR,hv,c1,hm,hz,Q3,es,prD]
    .have es:Ku r (varB c) i=[]:=by unfold Ku varB;rw[q];simp[c1]
     simp[dcR,hv,c1,hz,Q3,es,prD]
   |none =>
    rw[q] at hv;by_cases c1:mixF c (43+i) % 5=0
    .have es:Ku r (varB c) i=[((i:Int),numF c (67+i))]:=by unfold Ku varB;rw[q];simp[c1]
     simp[dcR,hv,c1,hw,hz,Q3,es,prD]
    .have es:Ku r (varB c) i=[]:=by unfold Ku varB;rw[q];simp[c1]
     simp[dcR,hv,c1,hz,Q3,es,prD])
 rw[e];subst hsd;have hp:=Wq (HU (Q3 r (varB c) n.toNat)) KI;rw[Kz];unfold KZ;by_cases q:Q3 r (varB c) n.toNat=[]
 .simp[q,Wq KI KI,Kr]
 .simp[q,hp,Xp,rwD]
noncomputable def AS:FS:=(sSeq (sOwn 2 (dLst dNil)) (sSeq (sFor (iS (dVar 0)) (.one 3) (sIf (K8 (WA [2] (J7 (dOp gNe (dVar 2) (dLst dNil)))) (J7 (dOp gGt (dOp gMod (dVar 3) (dC (.int 3))) (dC (.int 0))))) (Qt 2 (J8 YT (Jz (Wa 2 (dOp gMod (dOp Kq (dVar 3) (dC (.int 3))) (dTmp [2] (dBlt gLen (Jz (dVar 2) dNil))))) (Jz (dVar 3) (Jz (dVar 1) dNil))))) (Qt 2 (J8 YS (Jz (dVar 3) (Jz (dVar 1) dNil)))))) (Ko 2)))
noncomputable def YU:Yy->Res D:=runN 4 2 AS
def QU (n:Int)(rs:Jy)(c:Int):Jy:=if rs ≠ []/\0<c % 3 then rs++[KZ (rs.getD (c / 3 % (rs.length:Int)).toNat []) (varB c) n] else rs++[rowB c n]
def QK (n:Int)(cs:Ye):Jy:=cs.foldl (QU n) []
def T5 (n:Int)(rs:Jy)(c:Int):(QU n rs c).length=rs.length+1:=by
 unfold QU
 split<;>simp
theorem IG (n:Int):∀(cs:Ye) (rs:Jy),(cs.foldl (QU n) rs).length=rs.length+cs.length
 | [],rs=>rfl
 |c::cs,rs=>by rw[UE,IG n cs,T5,Zu];omega
def Dg (n:Int)(cs:Ye):(QK n cs).length=cs.length:=by
 have:=IG n cs [];unfold QK;rw[this];exact U8 _
def T6 {n:Int}{rs:Jy}{c:Int}(h1:1<=n)(h2:n<=12)(h:∀r∈rs,RowOk n r):∀r∈QU n rs c,RowOk n r:=by
 intro r hr;unfold QU at hr
 split at hr
 .rename_i q;rcases Jc.mp hr with z|z
  .exact h r z
  .rw[Vu.mp z];have hp:0<rs.length:=Jk.mpr q.1;have hi:(c / 3 % (rs.length:Int)).toNat<rs.length:=by
    have a:=UX (c / 3) (show(rs.length:Int)≠0 by omega);have b:=UW (c / 3) (show(0:Int)<rs.length by omega);omega
   have e:rs.getD (c / 3 % (rs.length:Int)).toNat []=rs[(c / 3 % (rs.length:Int)).toNat]:=by rw[Ua,Zqg hi];rfl
   rw[e];exact SJ (h _ (UG hi)) () h2
 .rcases Jc.mp hr with z|z
  .exact h r z
  .rw[Vu.mp z];exact SH h1 h2
theorem IH {n:Int}(h1:1<=n)(h2:n<=12):∀(cs:Ye) (rs:Jy),(∀r∈rs,RowOk n r)->∀r∈cs.foldl (QU n) rs,RowOk n r
 | [],rs,h=>h
 |c::cs,rs,h=>by rw[UE];exact IH h1 h2 cs _ (T6 h1 h2 h)
def Dh {n:Int}(h1:1<=n)(h2:n<=12)(cs:Ye):∀r∈QK n cs,RowOk n r:=IH h1 h2 cs [] λ_ h=>nomatch h
def f_z39 {cs:Ye}{n:Int}(h1:1<=n)(h2:n<=12)(hl:cs.length<=100):YU [.lst (cs.map .int),.int n]=.ok (.lst ((QK n cs).map rwD)):=by
 simp[YU,AS];generalize hB:sIf _ _ _=b;obtain⟨sd',e,u,hsd⟩:=Qw (tg:=.one 3) (b:=b) (ds:=cs.map .int) (sd:=[some (.val (.lst (cs.map .int))),some (.val (.int n)),some (.own false (.lst [])),none])
  (P:=λi sd=>∃u,sd=[some (.val (.lst (cs.map .int))),some (.val (.int n)),some (.own false (.lst ((QK n (cs.take i)).map rwD))),u]) ⟨none,rfl⟩ (by
   rintro i x sd hx ⟨u,rfl⟩;obtain⟨c,hc,rfl⟩:=Qx hx;have hi:=(Jb.mp hc).1;have et:QK n (cs.take (i+1))=QU n (QK n (cs.take i)) c:=by
    unfold QK;rw[V4 hc,US];rfl
   have hlen:=Dg n (cs.take i);rw[Uj] at hlen;have ok:=Dh h1 h2 (cs.take i);generalize QK n (cs.take i)=rs at et hlen ok;have hz:=JV (show rs.length<=1000 from ());rw[et];have hr:=f_z37 (c:=c) h1 h2;subst hB;by_cases q:rs=[]
   .have es:QU n rs c=rs++[rowB c n]:=Ze λz=>z.1 q;rw[es];simp[q,Wr KI KI,Kr,hr,JV (show 0<=1000 from ())]
   .have hn:=Wr (CL rs) KI;by_cases c3:0<c % 3
    .have es:QU n rs c=rs++[KZ (rs.getD (c / 3 % (rs.length:Int)).toNat []) (varB c) n]:=Zd ⟨q,c3⟩;have hp:0<rs.length:=Jk.mpr q;have a:=UX (c / 3) (show(rs.length:Int)≠0 by omega);have b:=UW (c / 3) (show(0:Int)<rs.length by omega);have hj:(c / 3 % (rs.length:Int)).toNat<rs.length:=()
     have eg:rs.getD (c / 3 % (rs.length:Int)).toNat []=rs[(c / 3 % (rs.length:Int)).toNat]:=by rw[Ua,Zqg hj];rfl
     have ea:atI (rs.map rwD) (c / 3 % (rs.length:Int))=some (rwD rs[(c / 3 % (rs.length:Int)).toNat]):=by
      have e1:ixN rs.length (c / 3 % (rs.length:Int))=some (c / 3 % (rs.length:Int)).toNat:=by unfold ixN;rw[Zd a,Zd b]
      unfold atI;rw[Zql,e1];show(rs.map rwD)[_]? = _;rw[Zv,Zqg hj];rfl
     rw[es,eg];have okr:RowOk n rs[(c / 3 % (rs.length:Int)).toNat]:=ok _ (UG hj);generalize rs[(c / 3 % (rs.length:Int)).toNat]=r0 at ea okr;have hv:=f_z38 (c:=c) okr.once (show r0.length<=100 by have:=okr.len;omega) (show 0<=n from ()) h2;have hmod:=Co (i:=c / 3) (show(0:Int)<rs.length by omega);simp[q,hn,Xp,c3,hmod,ea,hv,hz]
    .have es:QU n rs c=rs++[rowB c n]:=Ze λz=>c3 z.2;rw[es];simp[q,hn,Xp,c3,hr,hz])
 rw[e];subst hsd;simp
noncomputable def AT:FS:=(sSeq (sSet 2 (dBlt KS (Jz (dVar 1) dNil))) (sSeq (sFor (iS (dVar 0)) (.one 3) (sIf (dOrT (J7 (dOp (gIn true) (dOp gIx (dVar 3) (dC (.int 0))) (dVar 2))) (J7 (dOp gGt (dOp gIx (dVar 3) (dC (.int 1))) (dOp gIx (dVar 2) (dOp gIx (dVar 3) (dC (.int 0))))))) (sRet (dC (.bl false))) JF)) (sRet (dC (.bl true)))))
noncomputable def Xw:Yy->Res D:=runD 4 2 AT
def f_z40 {r o:Jx}(ho:Once o)(hl:o.length<=100):Xw [rwD r,rwD o]=.ok (.bl (JG r o)):=by
 have hd:KS [.tup (o.map prD)]=some (dcR o):=Ap hl ho;simp[Xw,AT,hd,rwD];refine Y6 (R:=λz=>(z.bind (seqK (sRet (dC (.bl true))))).bind outV=.ok (.bl (JG r o))) (P:=λi sd=>(∃u,sd=[some (.val (.tup (r.map prD))),some (.val (.tup (o.map prD))),some (.val (dcR o)),u])/\JG (r.take i) o=true) ⟨⟨none,rfl⟩,rfl⟩ ?_ ?_
 .rintro sd ⟨⟨u,rfl⟩,hu⟩;rw[Zql,UK] at hu;simp[hu]
 .rintro i x sd hx ⟨⟨u,rfl⟩,hu⟩;obtain⟨p,hp,rfl⟩:=Qx hx;have hv:=Y4 ho p.1;have a0:atI [D.int p.1,D.int p.2] 0=some (.int p.1):=rfl;have a1:atI [D.int p.1,D.int p.2] 1=some (.int p.2):=rfl;cases q:JA o p.1 with
  |none =>
   rw[q] at hv;have z:okAt o p=false:=by unfold okAt;rw[q]
   rw[ZW hp z];exact .inr (.inr ⟨.bl false,by simp[prD,dcR,a0,hv],by simp⟩)
  |some w =>
   rw[q] at hv;by_cases c:w<p.2
   .have z:okAt o p=false:=by unfold okAt;rw[q];exact Zo ()
    rw[ZW hp z];exact .inr (.inr ⟨.bl false,by simp[prD,dcR,a0,a1,hv,c],by simp⟩)
   .have z:okAt o p=true:=by unfold okAt;rw[q];exact Zp ()
    exact .inl ⟨[some (.val (.tup (r.map prD))),some (.val (.tup (o.map prD))),some (.val (dcR o)),some (.val (prD p))],.inl (by simp[prD,dcR,a0,a1,hv,c]),⟨_,rfl⟩,EX hp hu z⟩
noncomputable def AU:FS:=(sSeq (sOwn 1 (dLst dNil)) (sSeq (sFor (iS (dVar 0)) (.one 2) (sSeq (sSet 3 (KC [none,some 2] (iS (dVar 0)) (.one 0) (K8 (J7 (dOp gNe (dVar 0) (dVar 1))) (J7 (J8 Xw (Jz (dVar 0) (Jz (dVar 1) dNil))))) (dVar 0))) (sIf (K8 (J7 (dOp gEq (dVar 3) (dLst dNil))) (WA [1] (J7 (dOp (gIn true) (dVar 2) (dVar 1))))) (Qt 1 (dVar 2)) JF))) (λsd=>(sRet (dBlt Wx (Jz (dVar 1) dNil))) (frzD [1] sd))))
noncomputable def W4:Yy->Res D:=runN 4 1 AU
def II {rs:Jy}(hne:∀r∈rs,r ≠ [])(ho:∀r∈rs,Once r)(hl:∀r∈rs,r.length<=100)(hn:rs.length<64):W4 [frD rs]=.ok (frD (Qo rs)):=by
 simp[W4,AU,frD];generalize hB:sSeq (sSet 3 _) _=b;obtain⟨sd',e,u,v,hsd⟩:=Qw (tg:=.one 2) (b:=b) (ds:=rs.map rwD) (sd:=[some (.val (.lst (rs.map rwD))),some (.own false (.lst [])),none,none])
  (P:=λi sd=>∃u v,sd=[some (.val (.lst (rs.map rwD))),some (.own false (.lst ((QF rs (rs.take i)).map rwD))),u,v]) ⟨none,none,rfl⟩ (by
   rintro i x sd hx ⟨u,v,rfl⟩;obtain⟨row,hr,rfl⟩:=Qx hx;have hm:=Ud hr;have hi:=(Jb.mp hr).1;have et:QF rs (rs.take (i+1))=W0 rs (QF rs (rs.take i)) row:=by
    unfold QF;rw[V4 hr,US];rfl
   have hlen:=(Wc rs (rs.take i) []).1;have hz:(QF rs (rs.take i)).length<sizeLine:=JV (by unfold QF;rw[Uj] at hlen;simp only[ZC] at hlen;omega);have key:Kx (.one 0) (K8 (J7 (dOp gNe (dVar 0) (dVar 1))) (J7 (J8 Xw (Jz (dVar 0) (Jz (dVar 1) dNil))))) (dVar 0) [none,some (.val (rwD row))] (rs.map rwD)=.ok ((rs.filter λone => !decide (one=row)&&JG one row).map rwD):=
    Gr (s:=λo=>[some (.val (rwD o)),some (.val (rwD row))]) (λo _=>rfl) (λo ho'=>by
     have hq:=Wr (AB o) (AB row);rw[HV] at hq;by_cases z:o=row
     .subst z;simp[hq]
     .simp[hq,z,f_z40 (r:=o) (ho row hm) (hl row hm)]) (λo _ _=>by simp)
   have hq:=Wq (CL (rs.filter λone => !decide (one=row)&&JG one row)) KI;have lz:=JV (show rs.length<=1000 from ());have hin:=SK true row (QF rs (rs.take i));generalize QF rs (rs.take i)=least at et hz hin;rw[et];unfold W0;have eq:lowQ rs row=(rs.filter λone => !decide (one=row)&&JG one row).isEmpty:=rfl;rw[Xp,<- eq] at hq;subst hB;cases q:lowQ rs row with
   |false=>rw[q] at hq;simp[key,lz,hq,q]
   |true =>
    rw[q] at hq;by_cases w:row∈least
    .simp[key,lz,hq,q,hin,w]
    .simp[key,lz,hq,q,hin,w,hz])
 rw[e];subst hsd;have hs:=CO (ls:=QF rs rs) (λr hr=>hne r (by have:=(Wc rs rs []).2.1 r;unfold QF at hr;rw[this] at hr;simp at hr;exact hr.1)) (by have:=(Wc rs rs []).1;unfold QF;simp only[ZC] at this;omega);simp[hs,Qo]
noncomputable def AV:FS:=(sSeq (sSet 3 (J8 YU (Jz (dVar 0) (Jz (dVar 2) dNil)))) (sSeq (sOwn 4 (dLst dNil)) (sSeq (sFor (iR1 (Jz (dVar 1) dNil)) (.one 5) (sSeq (Qt 4 (J8 W4 (Jz (dSl (dVar 3) (K0 (dVar 5)) KE (K0 (dVar 1))) dNil))) (sIf (J7 (dOp gEq (Wa 4 (dVar 5)) (dLst dNil))) (Au 4 (dVar 5) (dLst (Jz (dTup (Jz (dTup (Jz (dOp gMod (dVar 5) (dVar 2)) (Jz (dC (.int 0)) dNil))) dNil)) dNil))) JF))) (Ko 4))))
noncomputable def YV:Yy->Res D:=runN 6 3 AV
def f_z42 {cs:Ye}{many n:Int}(h1:1<=n)(h2:n<=12)(hl:cs.length<=63)(m1:1<=many)(m2:many<=60):YV [.lst (cs.map .int),.int many,.int n]=.ok (.lst ((K1 n many (QK n cs) many.toNat).map frD)):=by
 have r1:QR [.int many]=.ok (JQ 0 many.toNat):=Ky () ();have fl:=f_z39 (cs:=cs) h1 h2 ();have ok:=Dh h1 h2 cs;have ll:=Dg n cs;simp[YV,AV,r1,fl];generalize QK n cs=rs at ok ll;generalize hB:sSeq (Qt 4 _) _=b;obtain⟨sd',e,u,hsd⟩:=Qw (tg:=.one 5) (b:=b) (ds:=JQ 0 many.toNat) (sd:=[some (.val (.lst (cs.map .int))),some (.val (.int many)),some (.val (.int n)),some (.val (.lst (rs.map rwD))),some (.own false (.lst [])),none])
  (P:=λi sd=>∃u,sd=[some (.val (.lst (cs.map .int))),some (.val (.int many)),some (.val (.int n)),some (.val (.lst (rs.map rwD))),some (.own false (.lst ((K1 n many rs i).map frD))),u]) ⟨none,rfl⟩ (by
   rintro i x sd hx ⟨u,rfl⟩;obtain⟨rfl,hi⟩:=Y5 hx;have gs:gSl (.lst (rs.map rwD)) (some (i:Int)) none (some many)=some (frD (JS rs (some (i:Int)) none (some many))):=by
    rw[OF (),Cq];rfl
   have pk:∀r∈JS rs (some (i:Int)) none (some many),RowOk n r:=λr hr=>ok r (Ar hr);have pl:=Cr rs (some (i:Int)) none (some many);have ft:=II (rs:=JS rs (some (i:Int)) none (some many)) (λr hr=>(pk r hr).ne) (λr hr=>(pk r hr).once) (λr hr=>by have:=(pk r hr).len;omega) ();have et:K1 n many rs (i+1)=K1 n many rs i++[YL n i (Qo (JS rs (some (i:Int)) none (some many)))]:=by
    unfold K1;rw[List.range_succ,Ug];rfl
   have lf:(K1 n many rs i).length=i:=by unfold K1;rw[Zql,ZB]
   have hz:(K1 n many rs i).length<sizeLine:=JV ();generalize Qo (JS rs (some (i:Int)) none (some many))=t at ft et;generalize K1 n many rs i=fs at et lf hz;have lm:(fs.map frD).length=i:=by rw[Zql];exact lf
   have ha:atI (fs.map frD++[frD t]) (i:Int)=some (frD t):=by have:=SO (fs.map frD) (frD t);rw[lm] at this;exact this
   have hx2:ixN (fs.length+1) (i:Int)=some i:=by have:=SQ (fs.map frD) (frD t);rw[lm,Ub,Zql] at this;exact this
   have hset:∀y,(fs.map frD++[frD t]).set i y=fs.map frD++[y]:=λy=>by have:=SN (fs.map frD) (frD t) y;rw[lm] at this;exact this
   have hq:gEq (frD t) (.lst [])=some (.bl t.isEmpty):=by
    have:=Wq (CL t) KI;rw[Xp] at this;exact this
   have hmod:=Co (i:=(i:Int)) (show 0<n from ());rw[et];unfold YL;subst hB;by_cases q:t=[]
   .subst q;simp[gs,ft,hz,ha,hq,hmod,hx2,hset];rfl
   .simp[gs,ft,hz,ha,hq,q])
 rw[e];subst hsd;simp[Kz]
noncomputable def AW:FS:=(sRet (Qq [none,some 0] (iR1 (Jz (dVar 1) dNil)) (.one 0) (J8 QP (Jz (dOp Kq (dVar 1) (dOp gAdd (dC (.int 1)) (dVar 0))) (Jz (dOp gAdd (dC (.int 101)) (dVar 0)) dNil)))))
noncomputable def Xx:Yy->Res D:=runN 2 2 AW
def Xy (c:Int)(n:Nat):Ye:=(List.range n).map λk:Nat=>numF (c / (1+k)) (101+k)
def f_z45 {c n:Int}(h2:0<=n)(h3:n<=12):Xx [.int c,.int n]=.ok (.lst ((Xy c n.toNat).map .int)):=by
 have r1:QR [.int n]=.ok (JQ 0 n.toNat):=Ky () ();have key:mapE (.one 0) (J8 QP (Jz (dOp Kq (dVar 1) (dOp gAdd (dC (.int 1)) (dVar 0))) (Jz (dOp gAdd (dC (.int 101)) (dVar 0)) dNil))) [none,some (.val (.int c))] (JQ 0 n.toNat)=.ok ((List.range n.toNat).map λk:Nat=>.int (numF (c / (1+k)) (101+k))):=Wv λi hi=>by
  have hw:=YR (c:=c / (1+i)) (s:=101+i) () ();have hd:=O4 (i:=c) (j:=1+i) () ();simp[hd,hw]
 have e:(Xy c n.toNat).map D.int=(List.range n.toNat).map λk:Nat=>.int (numF (c / (1+k)) (101+k)):=by
  unfold Xy;rw[Zw];rfl
 simp[Xx,AW,r1,key,Kz,JV (show n.toNat<=1000 from ()),e]
noncomputable def AX:FS:=(sSeq (sSet 3 (dBlt Ak (Jz (dVar 2) (Jz (dBlt XZ (Jz (dC (.int 0)) (Jz (dOp gSub (dBlt gLen (Jz (dVar 0) dNil)) (dVar 1)) dNil))) dNil)))) (sRet (Qq [none,some 0,some 1,some 2] (iR1 (Jz (dVar 3) dNil)) (.one 0) (dBlt gSum (Jz (dSl (dVar 1) (K0 (dOp gAdd (dVar 2) (dVar 0))) KE (K0 (dVar 3))) dNil)))))
noncomputable def YW:Yy->Res D:=runN 4 3 AX
def T7 {ns:Ye}(h:ns.length<=63){a most:Int}(a0:0<=a)(a1:a<=100)(m0:1<=most)(m1:most<=60):∃cs:Ye,(cs.length:Int)<=most/\YW [.scr ns,.int a,.int most]=.ok (.lst (cs.map .int)):=by
 obtain⟨m,hm,em⟩:∃m:Nat,(m:Int)<=most/\(if(if a<(ns.length:Int) then(ns.length:Int)-a else 0)<most then(if a<(ns.length:Int) then(ns.length:Int)-a else 0) else most)=(m:Int):=by
  refine⟨(if(if a<(ns.length:Int) then(ns.length:Int)-a else 0)<most then(if a<(ns.length:Int) then(ns.length:Int)-a else 0) else most).toNat,?_,?_⟩<;>(repeat' split)<;>omega
 have r1:QR [.int (m:Int)]=.ok (JQ 0 m):=by
  rw[Ky () (),Vc]
 have key:mapE (.one 0) (dBlt gSum (Jz (dSl (dVar 1) (K0 (dOp gAdd (dVar 2) (dVar 0))) KE (K0 (dVar 3))) dNil)) [none,some (.val (.scr ns)),some (.val (.int a)),some (.val (.int most))] (JQ 0 m)=.ok ((List.range m).map λk:Nat=>.int (JS ns (some (a+(k:Int))) none (some most)).sum):=Wv λi hi=>by
  have gs:=OG (ds:=ns) (lo:=some (a+(i:Int))) (hi:=none) (c:=most) ();simp[gs]
 refine⟨(List.range m).map λk:Nat=>(JS ns (some (a+(k:Int))) none (some most)).sum,by simpa using hm,?_⟩;rw[Zw];have lz:=JV (show m<=1000 from ());simp[YW,AX,em,r1,key,Kz,lz]
noncomputable def AY:FS:=(sSeq (sOwn 1 (dLst dNil)) (sSeq (sFor (iR1 (Jz (dC (.int 12)) dNil)) (.one 2) (sFor (iR1 (Jz (dVar 2) dNil)) (.one 3) (sIf (J7 (dOp gLt (dTmp [1] (dBlt gLen (Jz (dVar 1) dNil))) (dC (.int 39)))) (Qt 1 (dTup (Jz (dTup (Jz (dVar 3) (Jz (dVar 2) dNil))) (Jz (dTup (Jz (dVar 2) (Jz (J8 QP (Jz (dVar 0) (Jz (dOp gAdd (dOp gAdd (dC (.int 200)) (dOp gMul (dC (.int 12)) (dVar 2))) (dVar 3)) dNil))) dNil))) dNil)))) JF))) (λsd=>(sRet (dBlt Wx (Jz (Qq [none] (iS (dVar 1)) (.one 0) (dTup (Jz (dTup (Jz (dOp gIx (dOp gIx (dVar 0) (dC (.int 0))) (dC (.int 0))) (Jz (dC (.int 0)) dNil))) (Jz (dOp gIx (dVar 0) (dC (.int 1))) dNil)))) dNil))) (frzD [1] sd))))
noncomputable def Xz:Yy->Res D:=runN 4 1 AY
structure WdR (r:Jx):Prop where
 ok:RowOk 12 r
 ri:Rise r
 far:∀p∈r,-999999999999999999999999999980<p.2/\p.2<999999999999999999999999999980
def T8 {a b:Nat}{w:Int}(h:a<b)(hb:b<12)(h1: -999999999999999999999999999980<w)(h2:w<999999999999999999999999999980):WdR [((a:Int),0),((b:Int),w)]:=by
 have ri:Rise [((a:Int),(0:Int)),((b:Int),w)]:=by
  unfold Rise;show List.Pairwise (· < ·) [(a:Int),(b:Int)];refine Jj.mpr ⟨λx hx=>?_,VC _ _⟩;rw[Vu.mp hx];omega
 refine⟨⟨by simp,W1 ri,λp hp=>?_,by simp⟩,ri,λp hp=>?_⟩
 .rcases UB.mp hp with rfl|hp
  .exact⟨by show(0:Int)<=a;omega,by show(a:Int)<12;omega⟩
  .rw[Vu.mp hp];exact⟨by show(0:Int)<=b;omega,by show(b:Int)<12;omega⟩
 .rcases UB.mp hp with rfl|hp
  .exact⟨by show _<(0:Int);omega,by show(0:Int)<_;omega⟩
  .rw[Vu.mp hp];exact⟨h1,h2⟩
def f_z46 (c:Int):∃rs,Xz [.int c]=.ok (frD rs)/\(∀r∈rs,WdR r)/\rs.length<=39/\rs ≠ []:=by
 have r12:QR [.int 12]=.ok (JQ 0 12):=by rw[Ky () ()];rfl
 obtain⟨sd1,e1,qs,u2,u3,hs1,hl,hq,hn⟩:=Qw (tg:=.one 2) (b:=(sFor (iR1 (Jz (dVar 2) dNil)) (.one 3) (sIf (J7 (dOp gLt (dTmp [1] (dBlt gLen (Jz (dVar 1) dNil))) (dC (.int 39)))) (Qt 1 (dTup (Jz (dTup (Jz (dVar 3) (Jz (dVar 2) dNil))) (Jz (dTup (Jz (dVar 2) (Jz (J8 QP (Jz (dVar 0) (Jz (dOp gAdd (dOp gAdd (dC (.int 200)) (dOp gMul (dC (.int 12)) (dVar 2))) (dVar 3)) dNil))) dNil))) dNil)))) JF))) (ds:=JQ 0 12) (sd:=[some (.val (.int c)),some (.own false (.lst [])),none,none])
  (P:=λi sd=>∃(qs:List (Nat×Nat×Int)) (u2 u3:Option SV),sd=[some (.val (.int c)),some (.own false (.lst (qs.map λq=>rwD [((q.1:Int),(q.2.1:Int)),((q.2.1:Int),q.2.2)]))),u2,u3]/\qs.length<=39/\(∀q∈qs,q.1<q.2.1/\q.2.1<12 /\ -999999999999999999999999999980<q.2.2/\q.2.2<999999999999999999999999999980)/\(2<=i->qs ≠ [])) ⟨[],none,none,rfl,by simp,λq h=>(nomatch h),λh=>()⟩ (by
   rintro i x sd hx ⟨qs,u2,u3,rfl,hl,hq,hn⟩;obtain⟨rfl,hi⟩:=Y5 hx;rw[VG];have r2:QR [.int i]=.ok (JQ 0 i):=by rw[Ky () ()];rfl
   obtain⟨sd2,e2,qs2,v3,hs2,hl2,hq2,hn2⟩:=Qw (tg:=.one 3) (b:=(sIf (J7 (dOp gLt (dTmp [1] (dBlt gLen (Jz (dVar 1) dNil))) (dC (.int 39)))) (Qt 1 (dTup (Jz (dTup (Jz (dVar 3) (Jz (dVar 2) dNil))) (Jz (dTup (Jz (dVar 2) (Jz (J8 QP (Jz (dVar 0) (Jz (dOp gAdd (dOp gAdd (dC (.int 200)) (dOp gMul (dC (.int 12)) (dVar 2))) (dVar 3)) dNil))) dNil))) dNil)))) JF)) (ds:=JQ 0 i) (sd:=[some (.val (.int c)),some (.own false (.lst (qs.map λq=>rwD [((q.1:Int),(q.2.1:Int)),((q.2.1:Int),q.2.2)]))),some (.val (.int i)),u3])
    (P:=λj sd=>∃(qs:List (Nat×Nat×Int)) (v3:Option SV),sd=[some (.val (.int c)),some (.own false (.lst (qs.map λq=>rwD [((q.1:Int),(q.2.1:Int)),((q.2.1:Int),q.2.2)]))),some (.val (.int i)),v3]/\qs.length<=39/\(∀q∈qs,q.1<q.2.1/\q.2.1<12 /\ -999999999999999999999999999980<q.2.2/\q.2.2<999999999999999999999999999980)/\(2<=i\/1<=j->qs ≠ [])) ⟨qs,u3,rfl,hl,hq,λz=>z.elim hn λy=>()⟩ (by
     rintro j x sd hx ⟨qs,v3,rfl,hl,hq,hn⟩;obtain⟨rfl,hj⟩:=Y5 hx;rw[VG];have m1:=Y3 (O3 (i:=12) (j:=(i:Int)) () ());have fn:=YR (c:=c) (s:=200+12*(i:Int)+j) () ();obtain⟨b1,b2⟩:=Df c (200+12*(i:Int)+j);generalize numF c (200+12*(i:Int)+j)=w at fn b1 b2;by_cases z:qs.length<39
     .refine⟨[some (.val (.int c)),some (.own false (.lst ((qs++[(j,i,w)]).map λq=>rwD [((q.1:Int),(q.2.1:Int)),((q.2.1:Int),q.2.2)]))),some (.val (.int i)),some (.val (.int j))],?_,_,_,rfl,by rw[Ub,Uq];omega,λq h=>?_,λ_=>by simp⟩
      .have lz:((qs.length:Int))<39:=()
       have hz:=JV (show qs.length<=1000 from ());rw[Ug];simp[m1,fn,lz,hz,rwD,prD,Res.bare]
      .rcases Jc.mp h with y|y
       .exact hq q y
       .rw[Vu.mp y];exact⟨hj,hi,b1,b2⟩
     .refine⟨[some (.val (.int c)),some (.own false (.lst (qs.map λq=>rwD [((q.1:Int),(q.2.1:Int)),((q.2.1:Int),q.2.2)]))),some (.val (.int i)),some (.val (.int j))],?_,qs,_,rfl,hl,hq,λ_ y=>by rw[y] at z;simp at z⟩;have lz:¬((qs.length:Int))<39:=()
      simp[lz,Res.bare])
   subst hs2;rw[Kz] at hn2;refine⟨[some (.val (.int c)),some (.own false (.lst (qs2.map λq=>rwD [((q.1:Int),(q.2.1:Int)),((q.2.1:Int),q.2.2)]))),some (.val (.int i)),v3],?_,qs2,_,_,rfl,hl2,hq2,λy=>hn2 ()⟩;rw[OA,Res.bind_ok];refine Eq.trans ?_ e2;simp[r2])
 subst hs1;rw[Kz] at hn;have key:mapE (.one 0) (dTup (Jz (dTup (Jz (dOp gIx (dOp gIx (dVar 0) (dC (.int 0))) (dC (.int 0))) (Jz (dC (.int 0)) dNil))) (Jz (dOp gIx (dVar 0) (dC (.int 1))) dNil))) [none] (qs.map λq=>rwD [((q.1:Int),(q.2.1:Int)),((q.2.1:Int),q.2.2)])=.ok ((qs.map λq=>[((q.1:Int),(0:Int)),((q.2.1:Int),q.2.2)]).map rwD):=by
  rw[Zw];refine KD λq hq=>?_;have i0:gIx (rwD [((q.1:Int),(q.2.1:Int)),((q.2.1:Int),q.2.2)]) (.int 0)=some (prD ((q.1:Int),(q.2.1:Int))):=rfl;have i1:gIx (rwD [((q.1:Int),(q.2.1:Int)),((q.2.1:Int),q.2.2)]) (.int 1)=some (prD ((q.2.1:Int),q.2.2)):=rfl;have i2:gIx (prD ((q.1:Int),(q.2.1:Int))) (.int 0)=some (.int q.1):=rfl;generalize rwD [((q.1:Int),(q.2.1:Int)),((q.2.1:Int),q.2.2)]=rr at i0 i1;generalize prD ((q.1:Int),(q.2.1:Int))=pp at i0 i2;simp[i0,i1,i2];rfl
 have lq:(qs.map λq=>rwD [((q.1:Int),(q.2.1:Int)),((q.2.1:Int),q.2.2)]).length<sizeLine:=JV (by rw[Zql];omega);have gs:=CO (ls:=qs.map λq=>[((q.1:Int),(0:Int)),((q.2.1:Int),q.2.2)]) (λr hr=>by obtain⟨q,_,rfl⟩:=Ja.mp hr;simp) (by rw[Zql];omega);refine⟨JO rltB (qs.map λq=>[((q.1:Int),(0:Int)),((q.2.1:Int),q.2.2)]),?_,λr hr=>?_,?_,λz=>?_⟩
 .show _=Res.ok (D.lst _);generalize (JO rltB (qs.map λq=>[((q.1:Int),(0:Int)),((q.2.1:Int),q.2.2)])).map rwD=SD at gs;generalize (qs.map λq=>[((q.1:Int),(0:Int)),((q.2.1:Int),q.2.2)]).map rwD=QD at key gs;generalize (qs.map λq=>rwD [((q.1:Int),(q.2.1:Int)),((q.2.1:Int),q.2.2)])=PD at key lq e1;simp[Xz,AY,r12,e1,key,lq,gs]
 .obtain⟨q,hq',rfl⟩:=Ja.mp ((Qz (ltb:=rltB) _).mem_iff.mp hr);obtain⟨a1,a2,a3,a4⟩:=hq q hq';exact T8 a1 a2 a3 a4
 .rw[(Qz (ltb:=rltB) _).length_eq,Zql];exact hl
 .have:=(Qz (ltb:=rltB) (qs.map λq=>[((q.1:Int),(0:Int)),((q.2.1:Int),q.2.2)])).length_eq;rw[z,Zql] at this;exact hn () (Jf.mp this.symm)
noncomputable def W5:FS:=(sSeq (sIf (dOrT (Q8 (J7 (Kl gLe gLe (dC (.int 1)) (dBlt gLen (Jz (dVar 0) dNil)) (dC (.int 12))))) (dOrT (J7 (dOp (gIn false) (dVar 0) (dC (.tup (List.map .str ["plan", "given", "all", "first", "part"]))))) (J7 (dOp (gInS true) (dOp gIx (dVar 0) (dC (.int 0))) (dC (.str "abcdefghijklmnopqrstuvwxyz")))))) (sRet (dC (.bl false))) JF) (sRet (dBlt gAll (Jz (Qq [none] (iStr (dVar 0)) (.one 0) (dOrV (dOp (gInS false) (dVar 0) (dC (.str "abcdefghijklmnopqrstuvwxyz"))) (dOp (gInS false) (dVar 0) (dC (.str "0123456789"))))) dNil))))
noncomputable def V0:Yy->Res D:=runD 1 1 W5
noncomputable def kB (x:Str):Bool:=(List.map D.str ["plan", "given", "all", "first", "part"]).any λe=>sameD e (.str x)
def LT:Yg:=("abcdefghijklmnopqrstuvwxyz" : Str).cps.toList
def FG:Yg:=("0123456789" : Str).cps.toList
noncomputable def AZ (x:Str):Bool:=decide (1<=x.length/\x.length<=12)&&(!kB x&&(decide (x.cps.toList.headD 0∈LT)&&x.cps.toList.all λc=>decide (c∈LT)||decide (c∈FG)))
def T9 {n:Nat}{x:Str}(h:TxtOk n x):gIn false (.str x) (.tup (List.map D.str ["plan", "given", "all", "first", "part"]))=some (.bl (kB x)):=by
 have p:plN 12 (.str x)=true:=by
  show PyData.strOk x=true;unfold PyData.strOk;rw[<- Array.all_toList,Uo];exact λc hc=>Zp (UL (ziw.mp h.asc c hc) ())
 have q:(List.map D.str ["plan", "given", "all", "first", "part"]).all (plN 12)=true:=by decide +kernel
 show(if plN 12 (.str x)&&(List.map D.str ["plan", "given", "all", "first", "part"]).all (plN 12) then some (D.bl (if false=true then _ else kB x)) else none)=_;rw[p,q];rfl
def f_z19 {n:Nat}{x:Str}(h:TxtOk n x)(hn:n<=1000):V0 [.str x]=.ok (.bl (AZ x)):=by
 have gl:=Tj h hn;have gk:=T9 h;have ha:ascB x=true:=h.asc;unfold AZ;by_cases c:1<=x.length/\x.length<=12
 .rw[Zp c,Bool.true_and];have c1:(1:Int)<=(x.length:Int):=()
  have c2:(x.length:Int)<=12:=()
  cases k:kB x with
  |true =>
   rw[k] at gk;simp[V0,W5,gl,c1,c2] at gk ⊢;simp[gk]
  |false =>
   rw[k] at gk;obtain⟨c0,hx,h0,_⟩:=Tk (k:=0) h hn () ();have hd:x.cps.toList.headD 0=c0:=by
    have h0:x.cps.toList[0]? = some c0:=h0;cases l:x.cps.toList with
    |nil=>rw[l] at h0;cases h0
    |cons a l'=>rw[l] at h0;exact Zqi h0
   have gi:=CD true c0 "abcdefghijklmnopqrstuvwxyz";rw[hd];have key:mapE (.one 0) (dOrV (dOp (gInS false) (dVar 0) (dC (.str "abcdefghijklmnopqrstuvwxyz"))) (dOp (gInS false) (dVar 0) (dC (.str "0123456789")))) [none] (chD x)=.ok ((x.cps.toList.map λc=>decide (c∈LT)||decide (c∈FG)).map .bl):=by
    rw[Zw];refine KD λc _=>?_;have g1:=CD false c "abcdefghijklmnopqrstuvwxyz";have g2:=CD false c "0123456789";have g1:gInS false (.str ⟨#[c]⟩) (.str "abcdefghijklmnopqrstuvwxyz")=some (.bl (decide (c∈LT))):=g1;have g2:gInS false (.str ⟨#[c]⟩) (.str "0123456789")=some (.bl (decide (c∈FG))):=g2;cases p:decide (c∈LT) with
    |true=>rw[p] at g1;simp[g1,p]
    |false=>rw[p] at g1;simp[g1,g2,p]
   have ga:=Gw (x.cps.toList.map λc=>decide (c∈LT)||decide (c∈FG));have ea:(x.cps.toList.map λc=>decide (c∈LT)||decide (c∈FG)).all id=x.cps.toList.all λc=>decide (c∈LT)||decide (c∈FG):=by rw[UZ];rfl
   rw[ea] at ga;generalize (x.cps.toList.map λc=>decide (c∈LT)||decide (c∈FG)).map D.bl=bs at key ga;have lz:(chD x).length<sizeLine:=JV (by unfold chD;rw[Zql,Ui];have:x.length=x.cps.size:=rfl;omega);have gi:gInS true (.str ⟨#[c0]⟩) (.str "abcdefghijklmnopqrstuvwxyz")=some (.bl (!decide (c0∈LT))):=gi;cases p:decide (c0∈LT) with
   |true =>
    rw[p] at gi;simp[V0,W5,gl,c1,c2] at gk hx ⊢;simp[gk,hx,gi,ha,lz,key,ga]
   |false =>
    rw[p] at gi;simp[V0,W5,gl,c1,c2] at gk hx ⊢;simp[gk,hx,gi]
 .rw[Zo c,Vx];have c3:¬((1:Int)<=(x.length:Int)/\(x.length:Int)<=12):=()
  by_cases c1:(1:Int)<=(x.length:Int)
  .have c2:¬(x.length:Int)<=12:=λz=>c3 ⟨c1,z⟩;simp[V0,W5,gl,c1,c2]
  .simp[V0,W5,gl,c1]
noncomputable def Ba:FS:=(sRet (BT (dBlt gAll (Jz (Qq [none] (iS (dVar 0)) (.one 0) (J8 V0 (Jz (dVar 0) dNil))) dNil)) (dOp gEq (dBlt AA (Jz (dVar 0) dNil)) (dBlt gLen (Jz (dVar 0) dNil)))))
noncomputable def WP:Yy->Res D:=runD 1 1 Ba
def TB:∀k:Fin 10,FG[k.val]? = some (48+k.val):=by decide +kernel
def IJ {c:Nat}(h:isL c=true):c∈LT:=by
 unfold isL at h;rw[Uc,decide_eq_true_eq,decide_eq_true_eq] at h;have:=Tn ⟨c-97,()⟩;rw[show 97+(c-97)=c by omega] at this;exact Ud this
def TC {c:Nat}(h:isG c=true):c∈FG:=by
 unfold isG at h;rw[Uc,decide_eq_true_eq,decide_eq_true_eq] at h;have:=TB ⟨c-48,()⟩;rw[show 48+(c-48)=c by omega] at this;exact Ud this
def TF {x:Str}(h:YO x=true):AZ x=true:=by
 unfold YO at h;rw[Uc,Uc,Uc,Uc,decide_eq_true_eq,decide_eq_true_eq] at h;obtain⟨h1,h2,h3,h4,h5⟩:=h;have k:kB x=false:=by
  unfold kB;rw[Vl];intro d hd;obtain⟨w,hw,rfl⟩:=Ja.mp hd;have:=Uo.mp h3 w hw;rw[Bool.not_eq_true',decide_eq_false_iff_not] at this;rw[Bool.not_eq_true,zcl];intro z;injection z with z
  exact this z
 have a:(x.cps.toList.all λc=>decide (c∈LT)||decide (c∈FG))=true:=by
  rw[Uo] at h5 ⊢;intro c hc;rcases Bool.or_eq_true_iff.mp (h5 c hc) with z|z
  .rw[Zp (IJ z)];rfl
  .rw[Zp (TC z),Bool.or_true]
 unfold AZ;rw[Zp ⟨h1,h2⟩,k,Zp (IJ h4),a];rfl
def TH {xs:Yh}(h:xs.Nodup)(hl:xs.length<=999):AA [.lst (xs.map .str)]=some (.int xs.length):=by
 have e:Qh Qn (xs.map .str)=some (xs.map UH):=Xd (f:=Qn) (g:=D.str) (k:=UH) (λ_=>rfl) xs;have nd:(xs.map (UH:Str->Key)).Nodup:=by
  rw[List.nodup_iff_pairwise_ne,Vk];exact List.Pairwise.imp (λ{a b} n z=>n (by injection z)) (Jw.mp h)
 show(Qh Qn (xs.map .str)).bind _=_;rw[e];show(if(xs.map (UH:Str->Key)).length<=999 then _ else _)=_;rw[Zql,Zd hl,L2.ST.dedL_nodup nd,Zql]
def IK {xs:Yh}(h1:∀x∈xs,nmOk x)(h2:xs.Nodup)(h3:xs.length<=60):WP [.lst (xs.map .str)]=.ok (.bl true):=by
 have key:mapE (.one 0) (J8 V0 (Jz (dVar 0) dNil)) [none] (xs.map .str)=.ok ((xs.map λ_=>true).map .bl):=by
  rw[Zw];exact KD λx hx=>by
   have:=f_z19 (h1 x hx).1 ();rw[TF (h1 x hx).2] at this;simp[this]
 have ga:=Gw (xs.map λ_=>true);rw[show(xs.map λ_=>true).all id=true by rw[UZ,Uo];exact λ_ _=>rfl] at ga;have gl:=TH h2 ();have hz:(xs.map D.str).length<sizeLine:=JV (by rw[Zql];omega);have ln:gLen [.lst (xs.map .str)]=some (.int xs.length):=by rw[O5,Zql]
 generalize (xs.map λ_=>true).map D.bl=bs at key ga;generalize xs.map D.str=ds at key gl hz ln ⊢;simp[WP,Ba,hz,key,ga,gl] at ln ⊢;simp[ln]
noncomputable def Bb:FS:=(sSeq (sIf (Q8 (J7 (J8 WP (Jz (Qq [none] (iS (dUn (gFld "Book" "plans") (dVar 0))) (.one 0) (dUn (gFld "Plan" "name") (dVar 0))) dNil)))) sNo JF) (sFor (iS (dUn (gFld "Book" "plans") (dVar 0))) (.one 1) (sIf (Q8 (J7 (J8 WP (Jz (dOp gAdd (dUn (gFld "Plan" "givens") (dVar 1)) (Qq [none,none,none] (iS (dUn (gFld "Plan" "rows") (dVar 1))) (.tup [0,1,2]) (dVar 0))) dNil)))) sNo JF)))
noncomputable def YX:Yy->Res D:=runD 2 1 Bb
def f_z21 {ps:List Pl}(L:LB ps)(W:WB ps):YX [JJ ps]=.ok .non:=by
 have l2:=W.l2;have hz:=JV (show ps.length<=1000 from ());have k0:mapE (.one 0) (dUn (gFld "Plan" "name") (dVar 0)) [none] (ps.map JH)=.ok ((ps.map (·.name)).map .str):=by
  rw[Zw];exact KD λp _=>by simp
 have a0:=IK (xs:=ps.map (·.name)) (λx hx=>by
  obtain⟨p,hp,rfl⟩:=Ja.mp hx;obtain⟨i,P⟩:=L.mem hp;exact P.nm) W.nd (by rw[Zql];omega)
 generalize (ps.map (·.name)).map D.str=ns at k0 a0;obtain⟨sd1,e1,u1,hsd1⟩:=Qw (tg:=.one 1) (b:=(sIf (Q8 (J7 (J8 WP (Jz (dOp gAdd (dUn (gFld "Plan" "givens") (dVar 1)) (Qq [none,none,none] (iS (dUn (gFld "Plan" "rows") (dVar 1))) (.tup [0,1,2]) (dVar 0))) dNil)))) sNo JF)) (ds:=ps.map JH) (sd:=[some (.val (JJ ps)),none])
  (P:=λi sd=>∃u1:Option SV,sd=[some (.val (JJ ps)),u1]) ⟨none,rfl⟩ (by
   rintro i x sd hx ⟨u1,rfl⟩;obtain⟨p,hp,rfl⟩:=Qx hx;have P:=L i p hp;have hg:=P.g2;have hr2:=P.r2;have hr:=JV (show p.rows.length<=1000 from ());have k1:mapE (.tup [0,1,2]) (dVar 0) [none,none,none] (p.rows.map rowD)=.ok ((p.rows.map (·.1)).map .str):=by
    rw[Zw];exact KD λr _=>by simp
   have ga:gAdd (.lst (p.givens.map .str)) (.lst ((p.rows.map (·.1)).map .str))=some (.lst ((p.givens++p.rows.map (·.1)).map .str)):=by
    rw[Ug];exact Zd (QL (by rw[Zql,Zql,Zql];omega))
   have a1:=IK (xs:=p.givens++p.rows.map (·.1)) P.tn P.td (by rw[Ub,Zql];omega);generalize (p.givens++p.rows.map (·.1)).map D.str=zs at ga a1;generalize (p.rows.map (·.1)).map D.str=ys at k1 ga;refine⟨[some (.val (JJ ps)),some (.val (JH p))],?_,_,rfl⟩;simp[hr,k1,ga,a1])
 subst hsd1;simp[YX,Bb,hz,k0,a0,e1]
noncomputable def Bc:FS:=(sRet (dOp (gIn true) (dVar 0) (dTup (Jz (dC (.str "all")) (Jz (dC (.str "first")) dNil)))))
noncomputable def KL:Yy->Res D:=runD 1 1 Bc
def IL {how:Str}(h:asc how):KL [.str how]=.ok (.bl (isP how)):=by
 have p:plN 12 (.str how)=true:=W2 h;have q: [D.str "all",D.str "first"].all (plN 12)=true:=by decide +kernel
 have g:gIn true (.str how) (.tup [.str "all",.str "first"])=some (.bl (isP how)):=by
  show(if plN 12 (.str how)&&[D.str "all",D.str "first"].all (plN 12) then some (D.bl (if true=true then !([D.str "all",D.str "first"].any λe=>sameD e (.str how)) else _)) else none)=_;rw[p,q];show some (D.bl (!([D.str "all",D.str "first"].any λe=>sameD e (.str how))))=_;unfold isP sameD
  congr 3
  have e1:decide (("all" : Str)=how)=decide (how = "all"):=decide_eq_decide.mpr eq_comm;have e2:decide (("first" : Str)=how)=decide (how = "first"):=decide_eq_decide.mpr eq_comm;simp[e1,e2]
 simp[KL,Bc,g]
noncomputable def Bd:FS:=(sSeq (sOwn 1 WG) (sFor (iS (dUn (gFld "Book" "plans") (dVar 0))) (.one 2) (sSeq (sFor (iS (dUn (gFld "Plan" "rows") (dVar 2))) (.tup [3,4,5]) (sIf (K8 (J7 (J8 KL (Jz (dVar 4) dNil))) (J7 (dOp gNe (dTmp [1] (Xo (dVar 1) (dVar 4))) (dBlt gLen (Jz (dVar 5) dNil))))) sNo JF)) (VZ 1 (dUn (gFld "Plan" "name") (dVar 2)) (dBlt gLen (Jz (dUn (gFld "Plan" "givens") (dVar 2)) dNil))))))
noncomputable def YY:Yy->Res D:=runD 6 1 Bd
def TJ {ps:List Pl}(nd:(ps.map (·.name)).Nodup){x:Str}{n:Int}(h:(x,n)∈KJ ps):lkT (KJ ps) x=some n:=by
 unfold lkT;cases e:(KJ ps).find? λp=>decide (p.1=x) with
 |none=>exact Zn (Zp rfl) (Js.mp e (x,n) h)
 |some q =>
  have e1:=of_decide_eq_true (List.find?_some (p:=λp:Str×Int=>decide (p.1=x)) e);have e2:=List.mem_of_find?_eq_some e;obtain⟨a,ha,ea⟩:=Ja.mp e2;obtain⟨b,hb,eb⟩:=Ja.mp h;have nm:a.name=b.name:=((Zt Prod.fst ea).trans e1).trans (Zt Prod.fst eb).symm;have ab:a=b:=by
   obtain⟨i,hi,ei⟩:=UA ha;obtain⟨j,hj,ej⟩:=UA hb;have pw:=Jl.mp (Vk.mp (Jw.mp nd));rcases UN i j with z|z|z
   .exact Zn (by rw[ei,ej];exact nm) (pw i j hi hj z)
   .subst z;rw[<- ei,<- ej]
   .exact Zn (by rw[ei,ej];exact nm.symm) (pw j i hj hi z)
  show some q.2=some n;rw[<- ea,ab];exact Zt some (Zt Prod.snd eb)
def TK (ps:List Pl):(KJ ps).map (·.1)=ps.map (·.name):=by
 unfold KJ;rw[Zw];rfl
def f_z25 {ps:List Pl}(L:LB ps)(W:WB ps):YY [JJ ps]=.ok .non:=by
 obtain⟨sd1,e1,u2,u3,u4,u5,hsd1⟩:=Qw (tg:=.one 2) (b:=(sSeq (sFor (iS (dUn (gFld "Plan" "rows") (dVar 2))) (.tup [3,4,5]) (sIf (K8 (J7 (J8 KL (Jz (dVar 4) dNil))) (J7 (dOp gNe (dTmp [1] (Xo (dVar 1) (dVar 4))) (dBlt gLen (Jz (dVar 5) dNil))))) sNo JF)) (VZ 1 (dUn (gFld "Plan" "name") (dVar 2)) (dBlt gLen (Jz (dUn (gFld "Plan" "givens") (dVar 2)) dNil))))) (ds:=ps.map JH)
  (sd:=[some (.val (JJ ps)),some (.own false (.dct [] [])),none,none,none,none])
  (P:=λi sd=>∃u2 u3 u4 u5:Option SV,sd=[some (.val (JJ ps)),some (.own false (dT (KJ (ps.take i)))),u2,u3,u4,u5]) ⟨none,none,none,none,rfl⟩ (by
   rintro i x sd hx ⟨u2,u3,u4,u5,rfl⟩;obtain⟨p,hp,rfl⟩:=Qx hx;have P:=L i p hp;have il:=(Jb.mp hp).1;have l2:=W.l2;have nd:((ps.take i).map (·.name)).Nodup:=by
    rw[List.map_take];exact List.Sublist.nodup (VH _ _) W.nd
   obtain⟨t,ht⟩:∃t,KJ (ps.take i)=t:=⟨_,rfl⟩;have fr:p.name∉t.map (·.1):=by
    rw[<- ht,TK,<- YN];exact W.fresh hp
   have tl:t.length<=20:=by
    rw[<- ht];unfold KJ;rw[Zql,Uj];omega
   have lk:∀r∈p.rows,isP r.2.1=true->lkT t r.2.1=some (r.2.2.length:Int):=λr hr q=>by
    rcases P.how r hr with z|z|z
    .rw[z] at q;exact Zn q (by decide +kernel)
    .rw[z] at q;exact Zn q (by decide +kernel)
    .rw[<- ht];exact TJ nd z
   obtain⟨sd2,e2,v3,v4,v5,hsd2⟩:=Qw (tg:=.tup [3,4,5]) (b:=(sIf (K8 (J7 (J8 KL (Jz (dVar 4) dNil))) (J7 (dOp gNe (dTmp [1] (Xo (dVar 1) (dVar 4))) (dBlt gLen (Jz (dVar 5) dNil))))) sNo JF)) (ds:=p.rows.map rowD)
    (sd:=[some (.val (JJ ps)),some (.own false (dT t)),some (.val (JH p)),u3,u4,u5])
    (P:=λ_ sd=>∃u3 u4 u5:Option SV,sd=[some (.val (JJ ps)),some (.own false (dT t)),some (.val (JH p)),u3,u4,u5]) ⟨u3,u4,u5,rfl⟩ (by
     rintro j y sd hy ⟨u3,u4,u5,rfl⟩;obtain⟨r,hr,rfl⟩:=Qx hy;have rm:r∈p.rows:=Ud hr;have fi:=IL (W.hasc hp rm);have gl:gLen [rwD r.2.2]=some (.int r.2.2.length):=by show some (D.int (r.2.2.map prD).length)=_;rw[Zql]
     refine⟨[some (.val (JJ ps)),some (.own false (dT t)),some (.val (JH p)),some (.val (.str r.1)),some (.val (.str r.2.1)),some (.val (rwD r.2.2))],?_,_,_,_,rfl⟩;cases q:isP r.2.1 with
     |false =>
      rw[q] at fi;simp[fi]
     |true =>
      rw[q] at fi;have v:=AH t r.2.1;rw[lk r rm q] at v;have dt:Aq (dT t)=.ok (t.map λp=>.inr p.1,t.map λp=>.int p.2):=rfl;simp[fi,gl,dt,v,Qk])
   subst hsd2;have pt:=Iu fr (p.givens.length:Int);have lz:=JV (show t.length<=1000 from ());have tk:KJ (ps.take (i+1))=t++[(p.name,(p.givens.length:Int))]:=by
    rw[Uy,hp,<- ht];unfold KJ;rw[Ug];rfl
   have gk:ownK (some (some (.own false (dT t))))=.ok (t.map λp=>.inr p.1,t.map λp=>.int p.2):=rfl;refine⟨[some (.val (JJ ps)),some (.own false (dT (t++[(p.name,(p.givens.length:Int))]))),some (.val (JH p)),v3,v4,v5],?_,_,_,_,_,by rw[tk]⟩;rw[<- pt,ht];simp[e2,gk,lz])
 subst hsd1;simp[YY,Bd,WG,e1]
noncomputable def Be:FS:=(sSeq (sSet 1 (dBlt gLen (Jz (dUn (gFld "Plan" "givens") (dVar 0)) dNil))) (sFor (iS (dUn (gFld "Plan" "rows") (dVar 0))) (.tup [2,3,4]) (sSeq (sIf (Q8 (J7 (Kl gLe gLe (dC (.int 1)) (dBlt gLen (Jz (dVar 4) dNil)) (dC (.int 40))))) sNo JF) (sSeq (sFor (iS (dVar 4)) (.tup [5,6]) (sSeq (sIf (Q8 (J7 (Kl gLe gLt (dC (.int 0)) (dVar 5) (dVar 1)))) sNo JF) (sIf (J7 (dOp gGe (dBlt gAbs (Jz (dVar 6) dNil)) (dOp gPow (dC (.int 10)) (dC (.int 30))))) sNo JF))) (sAug 1 (dC (.int 1)))))))
noncomputable def X0:Yy->Res D:=runD 7 1 Be
def f_z24 {ahead:List Pl}{p:Pl}(P:PL ahead p):X0 [JH p]=.ok .non:=by
 have pw:gPow (.int 10) (.int 30)=some (.int 1000000000000000000000000000000):=rfl;obtain⟨sd1,e1,u2,u3,u4,u5,u6,hsd1⟩:=Qw (tg:=.tup [2,3,4]) (b:=(sSeq (sIf (Q8 (J7 (Kl gLe gLe (dC (.int 1)) (dBlt gLen (Jz (dVar 4) dNil)) (dC (.int 40))))) sNo JF) (sSeq (sFor (iS (dVar 4)) (.tup [5,6]) (sSeq (sIf (Q8 (J7 (Kl gLe gLt (dC (.int 0)) (dVar 5) (dVar 1)))) sNo JF) (sIf (J7 (dOp gGe (dBlt gAbs (Jz (dVar 6) dNil)) (dOp gPow (dC (.int 10)) (dC (.int 30))))) sNo JF))) (sAug 1 (dC (.int 1)))))) (ds:=p.rows.map rowD)
  (sd:=[some (.val (JH p)),some (.val (.int p.givens.length)),none,none,none,none,none])
  (P:=λi sd=>∃u2 u3 u4 u5 u6:Option SV,sd=[some (.val (JH p)),some (.val (.int ((p.givens.length:Int)+i))),u2,u3,u4,u5,u6]) ⟨none,none,none,none,none,by simp⟩ (by
   rintro i x sd hx ⟨u2,u3,u4,u5,u6,rfl⟩;obtain⟨r,hr,rfl⟩:=Qx hx;obtain⟨I,n1,n2⟩:=P.its i r hr;obtain⟨g,hg⟩:∃g:Int,(p.givens.length:Int)+i=g:=⟨_,rfl⟩;rw[hg] at I;obtain⟨sd2,e2,v5,v6,hsd2⟩:=Qw (tg:=.tup [5,6]) (b:=(sSeq (sIf (Q8 (J7 (Kl gLe gLt (dC (.int 0)) (dVar 5) (dVar 1)))) sNo JF) (sIf (J7 (dOp gGe (dBlt gAbs (Jz (dVar 6) dNil)) (dOp gPow (dC (.int 10)) (dC (.int 30))))) sNo JF))) (ds:=r.2.2.map prD)
    (sd:=[some (.val (JH p)),some (.val (.int g)),some (.val (.str r.1)),some (.val (.str r.2.1)),some (.val (rwD r.2.2)),u5,u6])
    (P:=λ_ sd=>∃u5 u6:Option SV,sd=[some (.val (JH p)),some (.val (.int g)),some (.val (.str r.1)),some (.val (.str r.2.1)),some (.val (rwD r.2.2)),u5,u6]) ⟨u5,u6,rfl⟩ (by
     rintro j y sd hy ⟨u5,u6,rfl⟩;obtain⟨q,hq,rfl⟩:=Qx hy;have qm:q∈r.2.2:=Ud hq;obtain⟨a1,a2⟩:=I.rng q qm;obtain⟨b1,b2⟩:=I.far q qm;have ab:¬(1000000000000000000000000000000:Int)<=(if q.2<0 then -q.2 else q.2):=by split<;>omega
     refine⟨[some (.val (JH p)),some (.val (.int g)),some (.val (.str r.1)),some (.val (.str r.2.1)),some (.val (rwD r.2.2)),some (.val (.int q.1)),some (.val (.int q.2))],?_,_,_,rfl⟩;simp[a1,a2,pw,ab])
   subst hsd2;have c1:(1:Int)<=(r.2.2.length:Int):=()
   have c2:(r.2.2.length:Int)<=40:=()
   have eg:g+1=(p.givens.length:Int)+((i+1:Nat):Int):=()
   refine⟨[some (.val (JH p)),some (.val (.int (g+1))),some (.val (.str r.1)),some (.val (.str r.2.1)),some (.val (rwD r.2.2)),v5,v6],?_,_,_,_,_,_,by rw[eg]⟩;have gl:gLen [rwD r.2.2]=some (.int r.2.2.length):=by show some (D.int (r.2.2.map prD).length)=_;rw[Zql]
   rw[hg];simp[gl,c1,c2,e2])
 subst hsd1;simp[X0,Be,e1]
noncomputable def Bf:FS:=(sSeq (sIf (Q8 (J7 (Kl gLe gLe (dC (.int 1)) (dBlt gLen (Jz (dUn (gFld "Book" "plans") (dVar 0)) dNil)) (dC (.int 20))))) sNo JF) (sFor (iS (dUn (gFld "Book" "plans") (dVar 0))) (.one 1) (sSeq (sIf (Q8 (J7 (Kl gLe gLe (dC (.int 1)) (dBlt gLen (Jz (dUn (gFld "Plan" "givens") (dVar 1)) dNil)) (dC (.int 12))))) sNo JF) (sSeq (sIf (Q8 (J7 (Kl gLe gLe (dC (.int 1)) (dBlt gLen (Jz (dUn (gFld "Plan" "rows") (dVar 1)) dNil)) (dC (.int 40))))) sNo JF) (Wp (J8 X0 (Jz (dVar 1) dNil)))))))
noncomputable def YZ:Yy->Res D:=runD 2 1 Bf
def f_z23 {ps:List Pl}(L:LB ps)(l1:1<=ps.length)(l2:ps.length<=20):YZ [JJ ps]=.ok .non:=by
 obtain⟨sd1,e1,u1,hsd1⟩:=Qw (tg:=.one 1) (b:=(sSeq (sIf (Q8 (J7 (Kl gLe gLe (dC (.int 1)) (dBlt gLen (Jz (dUn (gFld "Plan" "givens") (dVar 1)) dNil)) (dC (.int 12))))) sNo JF) (sSeq (sIf (Q8 (J7 (Kl gLe gLe (dC (.int 1)) (dBlt gLen (Jz (dUn (gFld "Plan" "rows") (dVar 1)) dNil)) (dC (.int 40))))) sNo JF) (Wp (J8 X0 (Jz (dVar 1) dNil)))))) (ds:=ps.map JH) (sd:=[some (.val (JJ ps)),none])
  (P:=λi sd=>∃u1:Option SV,sd=[some (.val (JJ ps)),u1]) ⟨none,rfl⟩ (by
   rintro i x sd hx ⟨u1,rfl⟩;obtain⟨p,hp,rfl⟩:=Qx hx;have P:=L i p hp;have fi:=f_z24 P;have g1:=P.g1;have g2:=P.g2;have r1:=P.r1;have r2:=P.r2;have a1:(1:Int)<=(p.givens.length:Int):=()
   have a2:(p.givens.length:Int)<=12:=()
   have a3:(1:Int)<=(p.rows.length:Int):=()
   have a4:(p.rows.length:Int)<=40:=()
   refine⟨[some (.val (JJ ps)),some (.val (JH p))],?_,_,rfl⟩;simp[a1,a2,a3,a4,fi])
 subst hsd1;have b1:(1:Int)<=(ps.length:Int):=()
 have b2:(ps.length:Int)<=20:=()
 simp[YZ,Bf,b1,b2,e1]
noncomputable def Bg:FS:=(sSeq (sOwn 1 WG) (sSeq (sFor (iS (dUn (gFld "Book" "plans") (dVar 0))) (.one 2) (sSeq (sOwn 3 (YH [1] (KC [none,none,none,some 1] (iS (dUn (gFld "Plan" "rows") (dVar 2))) (.tup [0,1,2]) (J7 (J8 KL (Jz (dVar 1) dNil))) (dOp gIx (dVar 3) (dVar 1))))) (VZ 1 (dUn (gFld "Plan" "name") (dVar 2)) (dOp gAdd (dBlt gLen (Jz (dUn (gFld "Plan" "rows") (dVar 2)) dNil)) (dTmp [3] (dBlt gSum (Jz (dVar 3) dNil))))))) (Ko 1)))
noncomputable def Z0:Yy->Res D:=runN 4 1 Bg
def f_z27 {ps:List Pl}(W:WB ps):Z0 [JJ ps]=.ok (dT (wtF ps)):=by
 obtain⟨sd1,e1,u2,u3,hsd1⟩:=Qw (tg:=.one 2) (b:=(sSeq (sOwn 3 (YH [1] (KC [none,none,none,some 1] (iS (dUn (gFld "Plan" "rows") (dVar 2))) (.tup [0,1,2]) (J7 (J8 KL (Jz (dVar 1) dNil))) (dOp gIx (dVar 3) (dVar 1))))) (VZ 1 (dUn (gFld "Plan" "name") (dVar 2)) (dOp gAdd (dBlt gLen (Jz (dUn (gFld "Plan" "rows") (dVar 2)) dNil)) (dTmp [3] (dBlt gSum (Jz (dVar 3) dNil))))))) (ds:=ps.map JH)
  (sd:=[some (.val (JJ ps)),some (.own false (.dct [] [])),none,none])
  (P:=λi sd=>∃(u2 u3:Option SV),sd=[some (.val (JJ ps)),some (.own false (dT (wtF (ps.take i)))),u2,u3]) ⟨none,none,rfl⟩ (by
   rintro i x sd hx ⟨u2,u3,rfl⟩;obtain⟨p,hp,rfl⟩:=Qx hx;have pm:p∈ps:=Ud hp;obtain⟨t,ht⟩:∃t,wtF (ps.take i)=t:=⟨_,rfl⟩;have fr:=W.fresh hp;have tl:=Tu W i;have prt:∀r∈p.rows,(lkT t r.2.1).isSome=isP r.2.1:=λr hr=>by rw[<- ht];exact W.part hp hr
   rw[ht] at fr tl;have hz:=JV (show p.rows.length<=1000 by have:=(W.sz p pm).1;omega);have key:Kx (.tup [0,1,2]) (J7 (J8 KL (Jz (dVar 1) dNil))) (dOp gIx (dVar 3) (dVar 1)) [none,none,none,some (.val (dT t))] (p.rows.map rowD)=.ok ((p.rows.filter λr=>isP r.2.1).map λr=>D.int ((lkT t r.2.1).getD 0)):=Gr (s:=λr=>[some (.val (.str r.1)),some (.val (.str r.2.1)),some (.val (rwD r.2.2)),some (.val (dT t))]) (λr _=>by simp) (λr hr=>by
    have:=IL (W.hasc hp hr);simp[this]) (λr hr q=>by
    have h:=prt r hr;rw[q] at h;obtain⟨v,hv⟩:=Jo.mp h;simp[hv])
   have fl:=Ts (λr:Str×Str×Jx=>(lkT t r.2.1).getD 0) (p.rows.filter λr=>isP r.2.1);have gs:=Tt (λr:Str×Str×Jx=>(lkT t r.2.1).getD 0) (p.rows.filter λr=>isP r.2.1);have pt:=Iu fr (wt1 t p);have lz:=JV (show t.length<=1000 from ());have tk:ps.take (i+1)=ps.take i++[p]:=by rw[Uy,hp];rfl
   have en:wtF (ps.take (i+1))=t++[(p.name,wt1 t p)]:=by rw[tk,CZ,ht]
   refine⟨[some (.val (JJ ps)),some (.own false (dT (wtF (ps.take (i+1))))),some (.val (JH p)),some (.own false (.lst ((p.rows.filter λr=>isP r.2.1).map λr=>D.int ((lkT t r.2.1).getD 0))))],?_,_,_,rfl⟩;rw[en,<- pt,ht];simp[key,hz,fl,gs];simp[dT,lz,wt1])
 rw[Zql,UK] at hsd1;subst hsd1;simp[Z0,Bg,WG,e1]
noncomputable def Bh:FS:=(sFor (iIt (J8 Z0 (Jz (dVar 0) dNil))) (.tup [1,2]) (sIf (J7 (dOp gGt (dVar 2) (dC (.int 2000)))) sNo JF))
noncomputable def Z8:Yy->Res D:=runD 3 1 Bh
def TL (t:List (Str×Int)):Wz (t.map λp=>.inr p.1) (t.map λp=>.int p.2)=t.map λp=>D.tup [.str p.1,.int p.2]:=by
 unfold Wz;rw[List.zipWith_map]
 induction t with
 |nil=>rfl
 |cons p t ih=>rw[List.zipWith_cons_cons,ih];rfl
def f_z26 {ps:List Pl}(L:LB ps)(W:WB ps):Z8 [JJ ps]=.ok .non:=by
 have fw:=f_z27 W;obtain⟨t,ht⟩:∃t,wtF ps=t:=⟨_,rfl⟩;have wt:=L.wts;rw[ht] at fw wt;obtain⟨sd1,e1,u1,u2,hsd1⟩:=Qw (tg:=.tup [1,2]) (b:=(sIf (J7 (dOp gGt (dVar 2) (dC (.int 2000)))) sNo JF)) (ds:=t.map λp=>D.tup [.str p.1,.int p.2])
  (sd:=[some (.val (JJ ps)),none,none])
  (P:=λ_ sd=>∃u1 u2:Option SV,sd=[some (.val (JJ ps)),u1,u2]) ⟨none,none,rfl⟩ (by
   rintro i x sd hx ⟨u1,u2,rfl⟩;obtain⟨q,hq,rfl⟩:=Qx hx;have:=wt q (Ud hq);have c:¬(2000:Int)<q.2:=()
   refine⟨[some (.val (JJ ps)),some (.val (.str q.1)),some (.val (.int q.2))],?_,_,_,rfl⟩;simp[c])
 subst hsd1;have it:YI (dT t)=.ok (t.map λp=>D.tup [.str p.1,.int p.2]):=by rw[<- TL];rfl
 simp[Z8,Bh,fw,it,e1]
noncomputable def Bi:FS:=(sSeq (Wp (J8 YX (Jz (dVar 0) dNil))) (sSeq (Wp (J8 YZ (Jz (dVar 0) dNil))) (sSeq (Wp (J8 YY (Jz (dVar 0) dNil))) (Wp (J8 Z8 (Jz (dVar 0) dNil))))))
noncomputable def ZD:Yy->Res D:=runD 1 1 Bi
def f_z20 {ps:List Pl}(L:LB ps)(l1:1<=ps.length)(l2:ps.length<=20):ZD [JJ ps]=.ok .non:=by
 have W:=L.wb l1 l2;have a:=f_z21 L W;have b:=f_z23 L l1 l2;have c:=f_z25 L W;have d:=f_z26 L W;simp[ZD,Bi,a,b,c,d]
noncomputable def Bj:FS:=(sSeq (sOwn 3 (Qq [none,none] (iEn (Jz (dVar 2) dNil)) (.tup [0,1]) (dTup (Jz (dUn (gFmt "r") (dVar 0)) (Jz (dC (.str "all")) (Jz (dVar 1) dNil)))))) (sSeq (Qt 3 (dTup (Jz (dC (.str "end")) (Jz (dC (.str "first")) (Jz (dBlt KR (Jz (Qq [none,some 1] (iR1 (Jz (dBlt gLen (Jz (dVar 2) dNil)) dNil)) (.one 0) (dTup (Jz (dOp gAdd (dVar 1) (dVar 0)) (Jz (dC (.int 0)) dNil)))) dNil)) dNil))))) (λsd=>(sRet (A7 "Plan" ["name", "givens", "rows"] I_Plan (Jz (dVar 0) (Jz (Qq [none] (iR1 (Jz (dVar 1) dNil)) (.one 0) (dUn (gFmt "g") (dVar 0))) (Jz (dVar 3) dNil))))) (frzD [3] sd))))
noncomputable def ZE:Yy->Res D:=runN 4 3 Bj
def f_z16 {nm:Str}{many:Nat}{f:Jy}(hm:many<=12)(hl:f.length<=40):ZE [.str nm,.int many,frD f]=.ok (JH (pln nm many f)):=by
 have r1:QR [.int many]=.ok (JQ 0 many):=by rw[Ky () ()];rfl
 have r2:QR [.int f.length]=.ok (JQ 0 f.length):=by rw[Ky () ()];rfl
 have k1:mapE (.tup [0,1]) (dTup (Jz (dUn (gFmt "r") (dVar 0)) (Jz (dC (.str "all")) (Jz (dVar 1) dNil)))) [none,none] (KW (f.map rwD))=.ok ((List.range f.length).map λk=>rowD (rowN k (f.getD k []))):=by
  rw[IF];exact KD λk hk=>by
   have hk:=Jd.mp hk;have g:=IE "r" (k:=k) ();show(Res.ok ([some (.val (.int k)),some (.val (rwD (f.getD k [])))]:SD)).bind _=_;generalize f.getD k []=fr;simp[g,rowD,rowN]
 have k2:mapE (.one 0) (dTup (Jz (dOp gAdd (dVar 1) (dVar 0)) (Jz (dC (.int 0)) dNil))) [none,some (.val (.int many))] (JQ 0 f.length)=.ok ((List.range f.length).map λk:Nat=>prD ((many:Int)+k,0)):=Wv λi hi=>by
  simp[prD]
 have k3:mapE (.one 0) (dUn (gFmt "g") (dVar 0)) [none] (JQ 0 many)=.ok ((List.range many).map λk:Nat=>.str ("g" ++ digF k)):=Wv λi hi=>by
  have g:=IE "g" (k:=i) ();simp[g]
 have z1:=JV (show f.length<=1000 from ());have z2:=JV (show many<=1000 from ());have le:(KW (f.map rwD)).length=f.length:=by rw[IF,Zql,ZB]
 have e0:JH (pln nm many f)=.ins "Plan" ["name", "givens", "rows"] [.str nm,.lst ((List.range many).map λk:Nat=>.str ("g" ++ digF k)),.lst (((List.range f.length).map λk=>rowD (rowN k (f.getD k [])))++[.tup [.str "end",.str "first",.tup ((List.range f.length).map λk:Nat=>prD ((many:Int)+k,0))]])]:=by
  unfold JH pln;rw[Zw,Ug,Zw,Zl,Uu];have e1:rowD (rowE many f.length)=.tup [.str "end",.str "first",.tup ((List.range f.length).map λk:Nat=>prD ((many:Int)+k,0))]:=by
   unfold rowD rwD rowE;rw[Zw];rfl
  rw[e1];rfl
 have la:((List.range f.length).map λk=>rowD (rowN k (f.getD k []))).length<sizeLine:=JV (by rw[Zql,ZB];omega);have ef:frD f=.lst (f.map rwD):=rfl;rw[e0,ef];have lf:(f.map rwD).length=f.length:=Zql ..;generalize ((List.range f.length).map λk=>rowD (rowN k (f.getD k [])))=R1 at k1 la;simp[ZE,Bj,r1,r2,k1,k2,k3,z1,z2,le,la,Kz,lf,I_Plan,runI,Q5]
noncomputable def G_z0:FS:=(sSeq (sFor (iS (dVar 0)) (.tup [2,3]) (sIf (dOrT (J7 (dOp (gIn true) (dVar 2) (dVar 1))) (J7 (dOp gGt (dVar 3) (dOp gIx (dVar 1) (dVar 2))))) (sRet (dC (.bl false))) JF)) (sRet (dC (.bl true))))
noncomputable def F_z0:Yy->Res D:=runD 4 2 G_z0
def f_z0 {r o:Jx}(ho:Once o):F_z0 [rwD r,dcR o]=.ok (.bl (JG r o)):=by
 simp[F_z0,G_z0];refine Y6 (R:=λz=>(z.bind (seqK (sRet (dC (.bl true))))).bind outV=.ok (.bl (JG r o))) (P:=λi sd=>(∃u v,sd=[some (.val (rwD r)),some (.val (dcR o)),u,v])/\JG (r.take i) o=true) ⟨⟨none,none,rfl⟩,rfl⟩ ?_ ?_
 .rintro sd ⟨⟨u,v,rfl⟩,hu⟩;rw[Zql,UK] at hu;simp[hu]
 .rintro i x sd hx ⟨⟨u,v,rfl⟩,hu⟩;obtain⟨p,hp,rfl⟩:=Qx hx;have hv:=Y4 ho p.1;cases q:JA o p.1 with
  |none =>
   rw[q] at hv;have z:okAt o p=false:=by unfold okAt;rw[q]
   rw[ZW hp z];exact .inr (.inr ⟨.bl false,by simp[dcR,hv],by simp⟩)
  |some w =>
   rw[q] at hv;by_cases c:w<p.2
   .have z:okAt o p=false:=by unfold okAt;rw[q];exact Zo ()
    rw[ZW hp z];exact .inr (.inr ⟨.bl false,by simp[dcR,hv,c],by simp⟩)
   .have z:okAt o p=true:=by unfold okAt;rw[q];exact Zp ()
    exact .inl ⟨[some (.val (rwD r)),some (.val (dcR o)),some (.val (.int p.1)),some (.val (.int p.2))],.inl (by simp[dcR,hv,c]),⟨_,_,rfl⟩,EX hp hu z⟩
noncomputable def G_z4:FS:=(sSeq (sSet 2 (dBlt KS (Jz (dVar 0) dNil))) (sSeq (sFor (iS (dVar 1)) (.one 3) (sIf (J7 (J8 F_z0 (Jz (dVar 3) (Jz (dVar 2) dNil)))) (sRet (dC (.bl true))) JF)) (sRet (dC (.bl false)))))
noncomputable def F_z4:Yy->Res D:=runD 4 2 G_z4
def f_z4 {r:Jx}{ks:Jy}(ho:Once r)(hl:r.length<=100):F_z4 [rwD r,frD ks]=.ok (.bl (ks.any λo=>JG o r)):=by
 have hd:=Ap hl ho;simp[F_z4,G_z4,hd];refine Y6 (R:=λz=>(z.bind (seqK (sRet (dC (.bl false))))).bind outV=.ok (.bl (ks.any λo=>JG o r))) (P:=λi sd=>(∃u,sd=[some (.val (rwD r)),some (.val (frD ks)),some (.val (dcR r)),u])/\∀o∈ks.take i,JG o r=false) ⟨⟨none,rfl⟩,λ_ h=>by simp at h⟩ ?_ ?_
 .rintro sd ⟨⟨u,rfl⟩,hu⟩;rw[Zql,UK] at hu;have e:ks.any (λo=>JG o r)=false:=Vl.mpr λo h=>by rw[hu o h];simp
  rw[e];simp
 .rintro i x sd hx ⟨⟨u,rfl⟩,hu⟩;obtain⟨o,hp,rfl⟩:=Qx hx;have ff:=f_z0 (r:=o) ho;cases q:JG o r with
  |true =>
   rw[q] at ff;have e:ks.any (λo=>JG o r)=true:=VP.mpr ⟨o,Ud hp,q⟩;rw[e];exact .inr (.inr ⟨.bl true,by simp[ff],by simp⟩)
  |false =>
   rw[q] at ff;refine .inl ⟨[some (.val (rwD r)),some (.val (frD ks)),some (.val (dcR r)),some (.val (rwD o))],.inl (by simp[ff]),⟨_,rfl⟩,λy hy=>?_⟩;rw[V4 hp] at hy;rcases Jc.mp hy with z|z
   .exact hu y z
   .rw[Vu.mp z];exact q
noncomputable def G_z1:FS:=(sSeq (sOwn 2 (dBlt KS (Jz (dVar 0) dNil))) (sSeq (sFor (iS (dVar 1)) (.tup [3,4]) (VZ 2 (dVar 3) (dBlt XZ (Jz (dVar 4) (Jz (dTmp [2] (Am (dVar 2) (dVar 3) (dVar 4))) dNil))))) (λsd=>(sRet (dBlt KR (Jz (Ck (dVar 2)) dNil))) (frzD [2] sd))))
noncomputable def F_z1:Yy->Res D:=runD 5 2 G_z1
def Bl (r o:Jx):Jx:=JO pltB (Qp r o)
def f_z1 {r o:Jx}(hr:r ≠ [])(or:Once r)(oo:Once o)(lr:r.length<=20)(lo:o.length<=20):F_z1 [rwD r,rwD o]=.ok (rwD (Bl r o)):=by
 have hd:KS [.tup (r.map prD)]=some (dcR r):=Ap (show r.length<=100 from ()) or;simp[F_z1,G_z1,hd,rwD];generalize hB:VZ 2 _ _=b;obtain⟨sd',e,u,v,hsd⟩:=Qw (tg:=.tup [3,4]) (b:=b) (ds:=o.map prD) (sd:=[some (.val (.tup (r.map prD))),some (.val (.tup (o.map prD))),some (.own false (dcR r)),none,none])
  (P:=λi sd=>∃u v,sd=[some (.val (.tup (r.map prD))),some (.val (.tup (o.map prD))),some (.own false (dcR (Qp r (o.take i)))),u,v]) ⟨none,none,rfl⟩ (by
   rintro i x sd hx ⟨u,v,rfl⟩;obtain⟨p,hp,rfl⟩:=Qx hx;have et:Qp r (o.take (i+1))=V5 (Qp r (o.take i)) p:=by
    rw[V4 hp];unfold Qp;rw[US];rfl
   have hl:=BP (o.take i) r;have ht:(o.take i).length<=o.length:=by rw[Uj];omega
   have hz:=JV (show(Qp r (o.take i)).length<=1000 by omega);have hv:=Y4 (F6 (o.take i) r or) p.1;have hput:=O8 (Qp r (o.take i)) p.1 (if(JA (Qp r (o.take i)) p.1).getD p.2 > p.2 then(JA (Qp r (o.take i)) p.1).getD p.2 else p.2);have hg:((JA (Qp r (o.take i)) p.1).map D.int).getD (.int p.2)=.int ((JA (Qp r (o.take i)) p.1).getD p.2):=by cases JA (Qp r (o.take i)) p.1<;>rfl
   subst hB;have es:V5 (Qp r (o.take i)) p=putR (Qp r (o.take i)) p.1 (if(JA (Qp r (o.take i)) p.1).getD p.2 > p.2 then(JA (Qp r (o.take i)) p.1).getD p.2 else p.2):=rfl;rw[et,es,<- hput];simp[dcR,hv,hg,hz])
 rw[e];subst hsd;have hl:=BP o r;have hs:=O9 (r:=Qp r o) (NE hr oo) ();simp[hs,Bl]
noncomputable def Bm:FS:=(sSeq (sOwn 2 (dOp CA (KC [none,some 1] (iS (dVar 0)) (.one 0) (J7 (J8 F_z4 (Jz (dVar 0) (Jz (dVar 1) dNil)))) (dVar 0)) (KC [none,some 0] (iS (dVar 1)) (.one 0) (J7 (J8 F_z4 (Jz (dVar 0) (Jz (dVar 1) dNil)))) (dVar 0)))) (sSeq (sSet 3 (KC [none,some 0] (iS (dVar 1)) (.one 0) (Q8 (J7 (J8 F_z4 (Jz (dVar 0) (Jz (dVar 1) dNil))))) (dVar 0))) (sSeq (sFor (iS (dVar 0)) (.one 4) (sIf (Q8 (J7 (J8 F_z4 (Jz (dVar 4) (Jz (dVar 1) dNil))))) (XT 2 (Qq [none,some 4] (iS (dVar 3)) (.one 0) (J8 F_z1 (Jz (dVar 1) (Jz (dVar 0) dNil))))) JF)) (Ko 2))))
noncomputable def X1:Yy->Res D:=runN 5 2 Bm
def TM {r:Jx}{p:Int×Int}(h:Rise (r++[p])):Bl r [p]=r++[p]:=by
 have up:=CT h;have na:(r.any λq=>decide (q.1=p.1))=false:=by
  rw[Vl];intro q hq z;have h:((r++[p]).map (·.1)).Pairwise (· < ·):=h;rw[Ug] at h;have:=(Jt.mp h).2.2 q.1 (Ja.mpr ⟨q,hq,rfl⟩) p.1 Zqs;rw[of_decide_eq_true z] at this;omega
 have e:Qp r [p]=r++[p]:=by
  have lk:JA r p.1=none:=by
   cases q:JA r p.1 with
   |none=>rfl
   |some w =>
    obtain⟨w',_,hm⟩:=AG (r:=r) (t:=p.1) (by rw[q];rfl);have:=Vl.mp na _ hm;simp at this
  show putR r p.1 (if(JA r p.1).getD p.2 > p.2 then(JA r p.1).getD p.2 else p.2)=_;rw[lk];unfold putR;rw[na];simp
 unfold Bl;rw[e];refine XN zbX (Qz (ltb:=pltB) _) (Wl zbX _) (up.imp λ{a b} z=>?_);exact zbX.asy _ _ z
def TN {r:Jx}{p:Int×Int}(hn:r ≠ [])(h:Rise (r++[p]))(l:r.length<=20):X1 [frD [r],frD [[p]]]=.ok (frD [r++[p]]):=by
 have hh:((r++[p]).map (·.1)).Pairwise (· < ·):=h;rw[Ug] at hh;have lt:=(Jt.mp hh).2.2;have or:Once r:=W1 (Jt.mp hh).1;have op:Once [p]:=W1 (CS p);have u1:JG [p] r=false:=by
  cases q:JG [p] r with
  |false=>rfl
  |true =>
   obtain⟨w,hw,_⟩:=zch.mp q p Zqs;obtain⟨w',_,hm⟩:=AG (r:=r) (t:=p.1) (by rw[hw];rfl);have:=lt p.1 (Ja.mpr ⟨_,hm,rfl⟩) p.1 Zqs;omega
 have u2:JG r [p]=false:=by
  cases q:JG r [p] with
  |false=>rfl
  |true =>
   obtain⟨x,hx⟩:=List.exists_mem_of_ne_nil _ hn;obtain⟨w,hw,_⟩:=zch.mp q x hx;obtain⟨w',_,hm⟩:=AG (r:=[p]) (t:=x.1) (by rw[hw];rfl);have e:=Vu.mp hm;have:=lt x.1 (Ja.mpr ⟨x,hx,rfl⟩) p.1 Zqs;rw[<- e] at this;exact Zn this (Int.lt_irrefl _)
 have c1:=f_z4 (r:=r) (ks:=[[p]]) or ();have c2:=f_z4 (r:=[p]) (ks:=[r]) op (by simp);rw[Vn,List.any_nil,u1] at c1;rw[Vn,List.any_nil,u2] at c2;have c1:F_z4 [rwD r,frD [[p]]]=.ok (.bl false):=c1;have c2:F_z4 [rwD [p],frD [r]]=.ok (.bl false):=c2;have fj:=f_z1 hn or op l (by simp);rw[TM h] at fj;have e1:frD [r]=.lst [rwD r]:=rfl;have e2:frD [[p]]=.lst [rwD [p]]:=rfl;have e3:frD [r++[p]]=.lst [rwD (r++[p])]:=rfl;rw[e1] at c2 ⊢;rw[e2] at c1 ⊢;rw[e3];generalize rwD (r++[p])=rp at fj;generalize rwD r=rd at c1 c2 fj;generalize rwD [p]=pd at c1 c2 fj;have z1:(1:Nat)<sizeLine:=JV ();have z0:(0:Nat)<sizeLine:=JV ();have z2:(1:Nat)<=sizeLine:=QL ();simp[X1,Bm,Kx,mapE,mapD,forT,forD,c1,c2,fj,z1,z0,z2]
noncomputable def G_z3:FS:=(sSeq (sOwn 2 (dLst dNil)) (sSeq (sFor (iS (dBlt YF (Jz (dBlt YE (Jz (dVar 0) dNil)) dNil))) (.one 3) (sSeq (sIf (J7 (dOp gEq (dTmp [2] (dBlt gLen (Jz (dVar 2) dNil))) (dVar 1))) sBrk JF) (sIf (Q8 (J7 (dTmp [2] (J8 F_z4 (Jz (dVar 3) (Jz (dVar 2) dNil)))))) (Qt 2 (dVar 3)) JF))) (Ko 2)))
noncomputable def F_z3:Yy->Res D:=runN 4 2 G_z3
def TQ (rs:Jy):(JO rltB (dedR rs)).Pairwise λa b=>rltB a b=true:=YM zaP (Ho rs)
def TR {rs:Jy}{en:Int}(ne:∀r∈rs,r ≠ [])(ri:∀r∈rs,Rise r)(hl:∀r∈rs,r.length<=100)(h64:rs.length<64)(h0:0<=en):F_z3 [frD rs,.int en]=.ok (frD ((lowL rs).take en.toNat)):=by
 have dl:=Hq rs;have s1:YE [frD rs]=some (.lst ((JO rltB (dedR rs)).map rwD)):=Ry ne () ();have sl:(JO rltB (dedR rs)).length=(dedR rs).length:=(Qz (ltb:=rltB) _).length_eq;have s2:YF [.lst ((JO rltB (dedR rs)).map rwD)]=some (.lst ((ordL rs).map rwD)):=R9 (TQ rs) () λr hr=>by
  have:=hl r (zgz.mp ((Qz (ltb:=rltB) _).mem_iff.mp hr));omega
 have fold:=Io ri;have om:∀r,r∈ordL rs->r∈rs:=λr h=>zep.mp h;have ol:=Im rs;have eL:lowL rs=(ordL rs).filter (lowQ rs):=rfl;rw[eL];simp[F_z3,G_z3,s1,s2];generalize ordL rs=L at fold om ol;refine Y6 (R:=λz=>(z.bind (seqK (Ko 2))).bind outN=.ok (frD ((L.filter (lowQ rs)).take en.toNat))) (P:=λi sd=>i<=L.length/\(((L.take i).filter (lowQ rs)).length:Int)<=en/\∃u,sd=[some (.val (frD rs)),some (.val (.int en)),some (.own false (.lst (((L.take i).filter (lowQ rs)).map rwD))),u]) ⟨Ue _,by simpa using h0,none,rfl⟩ ?_ ?_
 .rintro sd ⟨_,le,u,rfl⟩;rw[Zql,UK] at le ⊢;rw[Vb ()];simp[frD]
 .rintro i x sd hx ⟨_,le,u,rfl⟩;obtain⟨r,hp,rfl⟩:=Qx hx;have hi:=(Jb.mp hp).1;have f1:=fold (i+1) ();rw[V4 hp,US,fold i (),<- V4 hp] at f1;have f1:lowS ((L.take i).filter (lowQ rs)) r=(L.take (i+1)).filter (lowQ rs):=f1;have kl:((L.take i).filter (lowQ rs)).length<=i:=by
   have a:=List.length_filter_le (lowQ rs) (L.take i);rw[Uj] at a;omega
  rw[<- f1];have hm:=om r (Ud hp);have fc:=f_z4 (r:=r) (ks:=(L.take i).filter (lowQ rs)) (W1 (ri r hm)) (hl r hm);have whole:L.filter (lowQ rs)=(L.take i).filter (lowQ rs)++(L.drop i).filter (lowQ rs):=by rw[<- List.filter_append,VV]
  generalize (L.take i).filter (lowQ rs)=ks at kl fc le whole;have fc:F_z4 [rwD r,.lst (ks.map rwD)]=.ok (.bl (ks.any λo=>JG o r)):=fc;have hz:=JV (show ks.length<=1000 from ());by_cases hne:(ks.length:Int)=en
  .have ek:(L.filter (lowQ rs)).take en.toNat=ks:=by
    rw[whole,List.take_left' ()]
   refine .inr (.inl ⟨[some (.val (frD rs)),some (.val (.int en)),some (.own false (.lst (ks.map rwD))),some (.val (rwD r))],by simp[hne],?_⟩);rw[ek];simp[frD]
  .have ls:∀b,(ks.any λo=>JG o r)=b->lowS ks r=if b=true then ks else ks++[r]:=λb hb=>by unfold lowS;rw[hb]
   cases q:ks.any λo=>JG o r with
   |true =>
    rw[q] at fc;rw[ls true q,Zd rfl];exact .inl ⟨[some (.val (frD rs)),some (.val (.int en)),some (.own false (.lst (ks.map rwD))),some (.val (rwD r))],.inl (by simp[hne,fc]),(),le,_,rfl⟩
   |false =>
    rw[q] at fc;rw[ls false q,Ze Zj];exact .inl ⟨[some (.val (frD rs)),some (.val (.int en)),some (.own false (.lst ((ks++[r]).map rwD))),some (.val (rwD r))],.inl (by simp[hne,fc,hz]),(),(by rw[Ub,Uq];omega),_,rfl⟩
noncomputable def Bn:FS:=(sSeq (sSet 2 (J8 F_z3 (Jz (dVar 0) (Jz (dOp gAdd (dVar 1) (dC (.int 1))) dNil)))) (sSeq (sIf (J7 (dOp gGt (dBlt gLen (Jz (dVar 2) dNil)) (dVar 1))) sNo JF) (sRet (dBlt Wx (Jz (dVar 2) dNil)))))
noncomputable def Ke:Yy->Res D:=runN 3 2 Bn
def IM {rs:Jy}{most:Int}(ne:∀r∈rs,r ≠ [])(ri:∀r∈rs,Rise r)(hl:∀r∈rs,r.length<=100)(h64:rs.length<64)(hm:(rs.length:Int)<=most)(hm2:most<=1000):Ke [frD rs,.int most]=.ok (frD (Qo rs)):=by
 have fl:=TR (en:=most+1) ne ri hl h64 ();have ll:(lowL rs).length<=rs.length:=Zh (List.length_filter_le _ _) (Im rs);have gl:gLen [frD (lowL rs)]=some (.int (lowL rs).length):=by
  show some (D.int ((lowL rs).map rwD).length)=_;rw[Zql]
 rw[Vb ()] at fl;have gs:Wx [frD (lowL rs)]=some (.lst ((JO rltB (lowL rs)).map rwD)):=CO (λr hr=>ne r (zep.mp (Je.mp hr).1)) ();rw[Tc] at gs;have gs:Wx [frD (lowL rs)]=some (frD (Qo rs)):=gs;have nl:¬most<((lowL rs).length:Int):=()
 simp[Ke,Bn,fl,gl,nl,gs]
noncomputable def G_z8:FS:=(sSeq (sSet 2 (J8 Ke (Jz (dOp gIx (dVar 0) (dC (.int 0))) (Jz (dVar 1) dNil)))) (sSeq (sFor (iS (dSl (dVar 0) (K0 (dC (.int 1))) KE KE)) (.one 3) (sSet 2 (J8 Ke (Jz (J8 X1 (Jz (dVar 2) (Jz (dVar 3) dNil))) (Jz (dVar 1) dNil))))) (sRet (dVar 2))))
noncomputable def F_z8:Yy->Res D:=runD 4 2 G_z8
def TU {r:Jx}(J:JRow r):F_z8 [.lst (r.map λp=>frD [[p]]),.int 60]=.ok (frD [r]):=by
 have jl:=J.len;have ri:∀k,Rise (r.take k):=λk=>by
  have h:(r.map (·.1)).Pairwise (· < ·):=J.rise;show((r.take k).map (·.1)).Pairwise (· < ·);rw[List.map_take];exact h.sublist (VH _ _)
 have fw:∀k,k<r.length->Ke [frD [r.take (k+1)],.int 60]=.ok (frD [r.take (k+1)]):=λk hk=>by
  have ne:r.take (k+1) ≠ []:=λz=>by
   have:=Zt List.length z;rw[Uj] at this;have:min (k+1) r.length=0:=this;omega
  have ok:RowOk 12 (r.take (k+1)):=⟨ne,W1 (ri _),λp hp=>J.bnd p (Vv hp),by rw[Uj];omega⟩;have G:Good 12 [r.take (k+1)]:=Ih ok (ri _);have:=IM (rs:=[r.take (k+1)]) (most:=60) (λx hx=>by rw[Vu.mp hx];exact ne) G.rise (λx hx=>by rw[Vu.mp hx,Uj];omega) (by simp) (by simp) ();rw[Iz G] at this;exact this
 cases r with
 |nil=>exact Zn rfl J.ne
 |cons p ps =>
  rw[Zu] at jl;have a0:atI ((p::ps).map λp=>frD [[p]]) 0=some (frD [[p]]):=by
   rw[show((0:Int))=((0:Nat):Int) from rfl,Xq (by simp)];rfl
  have sl:JS (frD [[p]]::ps.map λp=>frD [[p]]) (some 1) none none=ps.map λp=>frD [[p]]:=by
   rw[Ij _ ()];rfl
  have w1:Ke [frD [[p]],.int 60]=.ok (frD [[p]]):=fw 0 (by simp);obtain⟨sd',e,u,hsd⟩:=Qw (tg:=.one 3) (b:=sSet 2 (J8 Ke (Jz (J8 X1 (Jz (dVar 2) (Jz (dVar 3) dNil))) (Jz (dVar 1) dNil)))) (ds:=ps.map λp=>frD [[p]]) (sd:=[some (.val (.lst ((p::ps).map λp=>frD [[p]]))),some (.val (.int 60)),some (.val (frD [[p]])),none])
   (P:=λi sd=>∃u,sd=[some (.val (.lst ((p::ps).map λp=>frD [[p]]))),some (.val (.int 60)),some (.val (frD [p::ps.take i])),u]) ⟨none,rfl⟩ (by
    rintro i x sd hx ⟨u,rfl⟩;obtain⟨g,hg,rfl⟩:=Qx hx;have hi:=(Jb.mp hg).1;have et:(p::ps).take (i+1+1)=p::ps.take i++[g]:=by rw[List.take_succ_cons,Uy,hg];rfl
    have et2:p::ps.take (i+1)=p::ps.take i++[g]:=by rw[Uy,hg];rfl
    have r2:=ri (i+1+1);rw[et] at r2;have fj:=TN (r:=p::ps.take i) (p:=g) (by simp) r2 (by rw[Zu,Uj];omega);have ft:=fw (i+1) (by rw[Zu];omega);rw[et] at ft;rw[et2];refine⟨[some (.val (.lst ((p::ps).map λp=>frD [[p]]))),some (.val (.int 60)),some (.val (frD [p::ps.take i++[g]])),some (.val (frD [[g]]))],?_,_,rfl⟩;generalize (p::ps).map (λp=>frD [[p]])=LL;generalize p::ps.take i=T at fj ft;simp[fj,ft])
  subst hsd;rw[Zql,UK] at e;rw[Zl] at a0 e ⊢;simp[F_z8,G_z8] at a0 e ⊢;simp[a0,w1,sl,e]
noncomputable def G_z7:FS:=(sSeq (sOwn 2 (J8 Ke (Jz (dOp gIx (dVar 0) (dC (.int 0))) (Jz (dVar 1) dNil)))) (sSeq (sFor (iS (dSl (dVar 0) (K0 (dC (.int 1))) KE KE)) (.one 3) (λsd=>(sOwn 2 (J8 Ke (Jz (dOp gAdd (dVar 2) (dVar 3)) (Jz (dVar 1) dNil)))) (frzD [2] sd))) (Ko 2)))
noncomputable def F_z7:Yy->Res D:=runN 4 2 G_z7
noncomputable def ZF:FS:=(sSeq (sIf (J7 (dOp gEq (dVar 1) (dC (.str "all")))) (sRet (J8 F_z8 (Jz (dVar 2) (Jz (dVar 3) dNil)))) JF) (sSeq (sIf (J7 (dOp gEq (dVar 1) (dC (.str "first")))) (sRet (J8 F_z7 (Jz (dVar 2) (Jz (dVar 3) dNil)))) JF) (sSeq sNo sNo)))
noncomputable def Wf:Yy->Res D:=runD 5 5 ZF
def TV {b fs m kn z:D}(h:F_z8 [fs,m]=.ok z):Wf [b,.str "all",fs,m,kn]=.ok z:=by
 simp[Wf,ZF,IA,h]
def TW {b fs m kn z:D}(h:F_z7 [fs,m]=.ok z):Wf [b,.str "first",fs,m,kn]=.ok z:=by
 simp[Wf,ZF,IB,IC,h]
def TX {n:Int}{f:Jy}(G:Good n f)(l:f.length<=39):F_z7 [.lst (f.map λr=>frD [r]),.int 60]=.ok (frD f):=by
 have fw:∀k,k<f.length->Ke [frD (f.take (k+1)),.int 60]=.ok (frD (f.take (k+1))):=λk hk=>by
  have S:=SX G (VH (k+1) f) (by
   intro z;have:=Zt List.length z;rw[Uj] at this;have:min (k+1) f.length=0:=this;omega)
  have:=IM (rs:=f.take (k+1)) (most:=60) (λr hr=>(S.rows r hr).ne) S.rise (λr hr=>by have:=(S.rows r hr).len;omega) (by rw[Uj];omega) (by rw[Uj];omega) ();rw[Iz S] at this;exact this
 cases f with
 |nil=>exact Zn rfl G.ne
 |cons r fs =>
  have a0:atI ((r::fs).map λr=>frD [r]) 0=some (frD [r]):=by
   rw[show((0:Int))=((0:Nat):Int) from rfl,Xq (by simp)];rfl
  have sl:JS (frD [r]::fs.map λr=>frD [r]) (some 1) none none=fs.map λr=>frD [r]:=by
   rw[Ij _ ()];rfl
  have w1:Ke [frD [r],.int 60]=.ok (frD [r]):=fw 0 (by simp);rw[Zu] at l;obtain⟨sd',e,u,hsd⟩:=Qw (tg:=.one 3) (b:=λsd=>(sOwn 2 (J8 Ke (Jz (dOp gAdd (dVar 2) (dVar 3)) (Jz (dVar 1) dNil)))) (frzD [2] sd)) (ds:=fs.map λr=>frD [r]) (sd:=[some (.val (.lst ((r::fs).map λr=>frD [r]))),some (.val (.int 60)),some (.own false (frD [r])),none])
   (P:=λi sd=>∃u,sd=[some (.val (.lst ((r::fs).map λr=>frD [r]))),some (.val (.int 60)),some (.own false (frD (r::fs.take i))),u]) ⟨none,rfl⟩ (by
    rintro i x sd hx ⟨u,rfl⟩;obtain⟨g,hg,rfl⟩:=Qx hx;have hi:=(Jb.mp hg).1;have ga:=Tf (f:=r::fs.take i) (g:=[g]) (by rw[Zu,Uj];simp;omega);have ft:=fw (i+1) (by rw[Zu];omega);have et:(r::fs).take (i+1+1)=r::fs.take i++[g]:=by rw[List.take_succ_cons,Uy,hg];rfl
    have et2:r::fs.take (i+1)=r::fs.take i++[g]:=by rw[Uy,hg];rfl
    rw[et] at ft;rw[et2];refine⟨[some (.val (.lst ((r::fs).map λr=>frD [r]))),some (.val (.int 60)),some (.own false (frD (r::fs.take i++[g]))),some (.val (frD [g]))],?_,_,rfl⟩;generalize (r::fs).map (λr=>frD [r])=LL;generalize r::fs.take i=T at ga ft;simp[ga,ft])
  subst hsd;rw[Zql,UK] at e;rw[Zl] at a0 e ⊢;simp[F_z7,G_z7] at a0 e ⊢;simp[a0,w1,sl,e]
noncomputable def Bo:FS:=(sSeq (sFor (iS (dUn (gFld "Book" "plans") (dVar 0))) (.one 2) (sIf (J7 (dOp gEq (dUn (gFld "Plan" "name") (dVar 2)) (dVar 1))) (sRet (dVar 2)) JF)) sNo)
noncomputable def Wg:Yy->Res D:=runD 3 2 Bo
def IN {ps:List Pl}{x:Str}{p:Pl}(hx:asc x)(hp:∀p∈ps,asc p.name)(hf:ps.find? (λp=>decide (p.name=x))=some p):Wg [JJ ps,.str x]=.ok (JH p):=by
 have ge:∀p∈ps,gEq (.str p.name) (.str x)=some (.bl (decide (p.name=x))):=λp hq=>AJ (hp p hq) hx;have lp:forT (.one 2) (sIf (J7 (dOp gEq (dUn (gFld "Plan" "name") (dVar 2)) (dVar 1))) (sRet (dVar 2)) JF) (ps.map JH) [some (.val (JJ ps)),some (.val (.str x)),none]=.ok (.ret (JH p)):=by
  refine Y6 (R:=λr=>r=.ok (.ret (JH p))) (P:=λi sd=>(∀q∈ps.take i,decide (q.name=x)=false)/\∃u,sd=[some (.val (JJ ps)),some (.val (.str x)),u]) ⟨λq h=>by simp at h,none,rfl⟩ (λsd ⟨h1,h2⟩=>?_) λi d sd hd ⟨h1,u,h2⟩=>?_
  .rw[Zql,UK] at h1;have:ps.find? (λp=>decide (p.name=x))=none:=Js.mpr λq hq=>by rw[h1 q hq];simp
   rw[this] at hf;cases hf
  .obtain⟨q,hp1,rfl⟩:=Qx hd;have hm:q∈ps:=Ud hp1;have gp:=ge q hm;have tk:ps.take (i+1)=ps.take i++[q]:=by rw[Uy,hp1];rfl
   cases c:decide (q.name=x) with
   |true =>
    rw[c] at gp;refine .inr (.inr ⟨JH q,?_,?_⟩)
    .subst h2;simp[gp]
    .rw[SZ h1 hp1 c] at hf;cases hf;rfl
   |false =>
    rw[c] at gp;refine .inl ⟨[some (.val (JJ ps)),some (.val (.str x)),some (.val (JH q))],.inl ?_,λy hy=>?_,_,rfl⟩
    .subst h2;simp[gp]
    .rw[tk] at hy;rcases Jc.mp hy with z|z
     .exact h1 y z
     .rw[Vu.mp z];exact c
 simp[Wg,Bo,lp]
noncomputable def G_z5:FS:=(sRet (dLst (Jz (dTup (Jz (dTup (Jz (dVar 0) (Jz (dC (.int 0)) dNil))) dNil)) dNil)))
noncomputable def F_z5:Yy->Res D:=runN 1 1 G_z5
@[simp]def f_z5 (t:Int):F_z5 [.int t]=.ok (frD [[(t,0)]]):=by
 simp[F_z5,G_z5,frD,rwD,prD]
noncomputable def G_z2:FS:=(sRet (dBlt KR (Jz (Qq [none,none,some 1] (iS (dVar 0)) (.tup [0,1]) (dTup (Jz (dVar 0) (Jz (dOp gAdd (dVar 1) (dVar 2)) dNil)))) dNil)))
noncomputable def F_z2:Yy->Res D:=runD 2 2 G_z2
def WQ (r:Jx)(w:Int):Jx:=r.map λp=>(p.1,p.2+w)
def f_z2 {r:Jx}{w:Int}(hl:r.length<=1000):F_z2 [rwD r,.int w]=.ok (rwD (WQ r w)):=by
 have key:mapE (.tup [0,1]) (dTup (Jz (dVar 0) (Jz (dOp gAdd (dVar 1) (dVar 2)) dNil))) [none,none,some (.val (.int w))] (r.map prD)=.ok (r.map λp=>prD (p.1,p.2+w)):=KD λp hp=>by
  simp[prD]
 simp[F_z2,G_z2,rwD,key,JV hl,WQ]
noncomputable def G_z6:FS:=(sRet (Qq [none,some 1] (iS (dVar 0)) (.one 0) (J8 F_z2 (Jz (dVar 0) (Jz (dVar 1) dNil)))))
noncomputable def F_z6:Yy->Res D:=runN 2 2 G_z6
def K2 (f:Jy)(w:Int):Jy:=f.map λr=>WQ r w
def f_z6 {f:Jy}{w:Int}(hl:f.length<=1000)(hr:∀r∈f,r.length<=1000):F_z6 [frD f,.int w]=.ok (frD (K2 f w)):=by
 have key:mapE (.one 0) (J8 F_z2 (Jz (dVar 0) (Jz (dVar 1) dNil))) [none,some (.val (.int w))] (f.map rwD)=.ok (f.map λr=>rwD (WQ r w)):=KD λr h=>by
  simp[f_z2 (w:=w) (hr r h)]
 have e:(K2 f w).map rwD=f.map λr=>rwD (WQ r w):=by unfold K2;rw[Zw];rfl
 simp[F_z6,G_z6,frD,key,JV hl,e]
noncomputable def Bp:FS:=(sSeq (sSet 4 (J8 Wg (Jz (dVar 0) (Jz (dVar 1) dNil)))) (sSeq (sOwn 5 (Qq [none] (iR1 (Jz (dBlt gLen (Jz (dUn (gFld "Plan" "givens") (dVar 4)) dNil)) dNil)) (.one 0) (J8 F_z5 (Jz (dVar 0) dNil)))) (sSeq (sFor (iS (dUn (gFld "Plan" "rows") (dVar 4))) (.tup [6,7,8]) (sSeq (sSet 9 (YJ [none,none,some 5] 2 (iS (dVar 8)) (.tup [0,1]) (J8 F_z6 (Jz (Wa 2 (dVar 0)) (Jz (dVar 1) dNil))))) (Qt 5 (J8 Wf (Jz (dVar 0) (Jz (dVar 7) (Jz (dVar 9) (Jz (dVar 2) (Jz (dVar 3) dNil))))))))) (Ko 5))))
noncomputable def X2:Yy->Res D:=runN 10 4 Bp
def TY {T:List Jy}{its:Jx}(h:∀p∈its,0<=p.1/\p.1<(T.length:Int))(hs:∀g∈T,g.length<=1000/\∀r∈g,r.length<=1000):mapE (.tup [0,1]) (J8 F_z6 (Jz (Wa 2 (dVar 0)) (Jz (dVar 1) dNil))) [none,none,some (.own false (.lst (T.map frD)))] (its.map prD)=.ok (its.map λp=>frD (K2 (T.getD p.1.toNat []) p.2)):=KD λp hp=>by
 obtain⟨h0,h1⟩:=h p hp;obtain⟨t,ht⟩:∃t:Nat,p.1=(t:Int):=⟨p.1.toNat,()⟩;have tl:t<T.length:=()
 have e:T.getD p.1.toNat []=T[t]:=by rw[ht,Vc,Ua,Zqg tl];rfl
 have a:atI (T.map frD) p.1=some (frD (T.getD p.1.toNat [])):=by
  rw[e,ht,Xq (by rw[Zql];exact tl),Zv,Zqg tl];rfl
 obtain⟨s1,s2⟩:=hs T[t] (UG tl);rw[<- e] at s1 s2;have fw:=f_z6 (w:=p.2) s1 s2;generalize T.map frD=TD at a;generalize T.getD p.1.toNat []=g at a fw;simp[a,fw]
def tdF (many:Nat)(f:Jy)(i:Nat):List Jy:=((List.range many).map λt:Nat=>[[((t:Int),(0:Int))]])++((f.take i).map λr=>[r])
def TZ (many:Nat)(f:Jy){i:Nat}(h:i<=f.length):(tdF many f i).length=many+i:=by
 unfold tdF;rw[Ub,Zql,ZB,Zql,Uj];omega
def zxg {many:Nat}{f:Jy}{i t:Nat}(h:t<many):(tdF many f i).getD t []=[[((t:Int),0)]]:=by
 unfold tdF;rw[Ua,Vf (by rw[Zql,ZB];exact h),Zv,Va h];rfl
def zu7 {many:Nat}{f:Jy}{i k:Nat}(h:k<i)(h2:i<=f.length):(tdF many f i).getD (many+k) []=[f.getD k []]:=by
 unfold tdF;rw[Ua,Ve (by rw[Zql,ZB];omega),Zql,ZB,Nat.add_sub_cancel_left,Zv,List.getElem?_take_of_lt h,Zqg (),Ua,Zqg ()];rfl
def f_z17 {nm:Str}{many:Nat}{f:Jy}{n:Int}(G:Good n f)(l:f.length<=39)(hn:n<=(many:Int))(hm:many<=12)(h1:0<n)(ha:asc nm):X2 [JJ [pln nm many f],.str nm,.int 60,.dct [] []]=.ok (.lst ((tdF many f f.length++[f]).map frD)):=by
 have fl:0<f.length:=Jk.mpr G.ne;have RO:=Dd (nm:=nm) G l hn hm h1;have pb:Wg [JJ [pln nm many f],.str nm]=.ok (JH (pln nm many f)):=by
  refine IN ha (λp hp=>by rw[Vu.mp hp];exact ha) ?_;simp[pln]
 have lg:(pln nm many f).givens.length=many:=by
  show((List.range many).map _).length=_;rw[Zql,ZB]
 have r1:QR [.int many]=.ok (JQ 0 many):=by rw[Ky () ()];rfl
 have t0:mapE (.one 0) (J8 F_z5 (Jz (dVar 0) dNil)) [none] (JQ 0 many)=.ok ((tdF many f 0).map frD):=by
  have e:(tdF many f 0).map frD=(List.range many).map λt:Nat=>frD [[((t:Int),0)]]:=by
   unfold tdF;rw[List.take_zero,Uu,ZA,Zw];rfl
  rw[e];exact Wv λi hi=>by simp
 have JR:∀r∈f,JRow r:=λr hr=>⟨(G.rows r hr).ne,G.rise r hr,λp hp=>by have:=(G.rows r hr).mem p hp;omega⟩;have szs:∀i,i<=f.length->∀g∈tdF many f i,g.length<=1000/\∀r∈g,r.length<=1000:=λi hi g hg=>by
  rcases Jc.mp hg with z|z
  .obtain⟨t,_,rfl⟩:=Ja.mp z;exact⟨by simp,λr hr=>by rw[Vu.mp hr];simp⟩
  .obtain⟨r,hr,rfl⟩:=Ja.mp z;exact⟨by simp,λx hx=>by rw[Vu.mp hx];have:=(JR r (Vv hr)).len;omega⟩
 have lR:=WN nm many f;obtain⟨sd',e,T,u6,u7,u8,u9,hs',hT⟩:=Qw (tg:=.tup [6,7,8]) (b:=(sSeq (sSet 9 (YJ [none,none,some 5] 2 (iS (dVar 8)) (.tup [0,1]) (J8 F_z6 (Jz (Wa 2 (dVar 0)) (Jz (dVar 1) dNil))))) (Qt 5 (J8 Wf (Jz (dVar 0) (Jz (dVar 7) (Jz (dVar 9) (Jz (dVar 2) (Jz (dVar 3) dNil))))))))) (ds:=(pln nm many f).rows.map rowD) (sd:=[some (.val (JJ [pln nm many f])),some (.val (.str nm)),some (.val (.int 60)),some (.val (.dct [] [])),some (.val (JH (pln nm many f))),some (.own false (.lst ((tdF many f 0).map frD))),none,none,none,none])
  (P:=λi sd=>∃(T:List Jy) (u6 u7 u8 u9:Option SV),sd=[some (.val (JJ [pln nm many f])),some (.val (.str nm)),some (.val (.int 60)),some (.val (.dct [] [])),some (.val (JH (pln nm many f))),some (.own false (.lst (T.map frD))),u6,u7,u8,u9]/\((i<=f.length/\T=tdF many f i)\/(i=f.length+1/\T=tdF many f f.length++[f]))) ⟨tdF many f 0,none,none,none,none,rfl,.inl ⟨Ue _,rfl⟩⟩ (by
   rintro i x sd hx ⟨T,u6,u7,u8,u9,rfl,hT⟩;obtain⟨r,hr,rfl⟩:=Qx hx;have hi:=(Jb.mp hr).1;rw[lR] at hi;have eT:T=tdF many f i:=by
    rcases hT with z|z
    .exact z.2
    .omega
   subst eT;have il:i<=f.length:=()
   have tl:=TZ many f il;have wr:=TY (T:=tdF many f i) (its:=r.2.2) (λp hp=>by have:=RO.rng i r hr p hp;omega) (szs i il);have z1:=JV (show r.2.2.length<=1000 by have:=RO.sh r (Ud hr);omega);have z2:=JV (show(tdF many f i).length<=1000 by omega);have mf:∃g,Wf [JJ [pln nm many f],.str r.2.1,.lst (r.2.2.map λp=>frD (K2 ((tdF many f i).getD p.1.toNat []) p.2)),.int 60,.dct [] []]=.ok (frD g)/\((i+1<=f.length/\tdF many f i++[g]=tdF many f (i+1))\/(i+1=f.length+1/\tdF many f i++[g]=tdF many f f.length++[f])):=by
    rcases Wd hr with ⟨y,hy,rfl⟩|⟨rfl,rfl⟩
    .have ym:=Ud hy;have yl:=(Jb.mp hy).1;have eq:(y.map λp=>frD (K2 ((tdF many f i).getD p.1.toNat []) p.2))=y.map λp=>frD [[p]]:=by
      refine Vq λp hp=>?_;have:=(G.rows y ym).mem p hp;rw[zxg ()]
      congr 1
      show[[((p.1.toNat:Int),0+p.2)]]=_;rw[VG,Int.toNat_of_nonneg this.1]
     refine⟨[y],TV ?_,.inl ⟨(),?_⟩⟩
     .show F_z8 [.lst (y.map λp=>frD (K2 ((tdF many f i).getD p.1.toNat []) p.2)),.int 60]=_;rw[eq];exact TU (JR y ym)
     .unfold tdF;rw[Uy,hy,Ug,UC];rfl
    .refine⟨f,TW ?_,.inr ⟨rfl,rfl⟩⟩;have eq:(((List.range f.length).map λk:Nat=>((many:Int)+k,(0:Int))).map λp=>frD (K2 ((tdF many f f.length).getD p.1.toNat []) p.2))=f.map λr=>frD [r]:=by
      rw[Zw];apply VE;intro j;rw[Zv,Zv];rcases VF j f.length with z|z
      .rw[Va z,Zqg z];show some (frD (K2 ((tdF many f f.length).getD ((many:Int)+j).toNat []) 0))=some (frD [f[j]]);rw[show((many:Int)+j).toNat=many+j by omega,zu7 z (Zf _),Ua,Zqg z]
       congr 2
       show[WQ f[j] 0]=[f[j]]
       congr 1
       unfold WQ;exact(Vq λp _=>by rw[Int.add_zero];rfl).trans (List.map_id _)
      .rw[UF (by rw[ZB];exact z),UF z];rfl
     show F_z7 [.lst (((List.range f.length).map λk:Nat=>((many:Int)+k,(0:Int))).map λp=>frD (K2 ((tdF many f f.length).getD p.1.toNat []) p.2)),.int 60]=_;rw[eq];exact TX G l
   obtain⟨g,mf,nx⟩:=mf;have er:rwD r.2.2=.tup (r.2.2.map prD):=rfl;refine⟨[some (.val (JJ [pln nm many f])),some (.val (.str nm)),some (.val (.int 60)),some (.val (.dct [] [])),some (.val (JH (pln nm many f))),some (.own false (.lst ((tdF many f i++[g]).map frD))),some (.val (.str r.1)),some (.val (.str r.2.1)),some (.val (rwD r.2.2)),some (.val (.lst (r.2.2.map λp=>frD (K2 ((tdF many f i).getD p.1.toNat []) p.2))))],?_,_,_,_,_,_,rfl,nx⟩;generalize (r.2.2.map λp=>frD (K2 ((tdF many f i).getD p.1.toNat []) p.2))=WD at wr mf;generalize JJ [pln nm many f]=bk at mf;generalize JH (pln nm many f)=pd;generalize tdF many f i=T at wr z2;rw[Ir,Res.bind_ok];have hc:∀a b c d e u6 u7 u8 u9,capO [none,none,some 5] 2 [a,b,c,d,e,some (.own false (.lst (T.map frD))),u6,u7,u8,u9]=[none,none,some (.own false (.lst (T.map frD)))]:=λ_ _ _ _ _ _ _ _ _=>rfl;simp[er,hc,wr,z1,z2,mf])
 subst hs';rw[Zql,lR] at hT;have eT:T=tdF many f f.length++[f]:=by
  rcases hT with z|z
  .omega
  .exact z.2
 subst eT;have fg:gFld "Plan" "givens" (JH (pln nm many f))=some (.lst ((pln nm many f).givens.map .str)):=rfl;have fr:gFld "Plan" "rows" (JH (pln nm many f))=some (.lst ((pln nm many f).rows.map rowD)):=rfl;have lgD:((pln nm many f).givens.map D.str).length=many:=by rw[Zql];exact lg
 have z9:=JV (show many<=1000 from ());generalize JJ [pln nm many f]=bk at pb e;generalize (pln nm many f).givens.map D.str=GD at fg lgD;generalize (pln nm many f).rows.map rowD=RD at fr e;generalize JH (pln nm many f)=pd at pb fg fr e;generalize (tdF many f f.length++[f]).map frD=TD at e;generalize (tdF many f 0).map frD=T0 at t0 e;simp[X2,Bp,pb,fg,lgD,r1,t0,z9,Kz,fr,e]
noncomputable def Bq:FS:=(sRet (J8 X2 (Jz (dVar 0) (Jz (dVar 1) (Jz (dVar 2) (Jz WG dNil))))))
noncomputable def X3:Yy->Res D:=runN 3 3 Bq
def f_z14 {b nm m z:D}(h:X2 [b,nm,m,.dct [] []]=.ok z):X3 [b,nm,m]=.ok z:=by
 simp[X3,Bq,h]
noncomputable def Br:FS:=(sRet (dOp gIx (J8 X3 (Jz (dVar 0) (Jz (dVar 1) (Jz (dVar 2) dNil)))) (dUn gNeg (dC (.int 1)))))
noncomputable def ZG:Yy->Res D:=runD 3 3 Br
def f_z15 {b nm m:D}{T:List Jy}{f:Jy}(h:X3 [b,nm,m]=.ok (.lst ((T++[f]).map frD))):ZG [b,nm,m]=.ok (frD f):=by
 have l:=ID (f:=frD) T f;generalize (T++[f]).map frD=es at h l;have l:atI es (-1)=some (frD f):=l;simp[ZG,Br,h,l]
noncomputable def ZH:FS:=(sSeq (sIf (J7 (dOp gEq (dVar 1) (dC (.str "all")))) (sRet (dBlt Y0 (Jz (dVar 2) dNil))) JF) (sSeq (sIf (J7 (dOp gEq (dVar 1) (dC (.str "first")))) (sRet (dBlt Xg (Jz (dVar 2) dNil))) JF) sNo))
noncomputable def WR:Yy->Res D:=runD 3 3 ZH
def f_z31 (b:D){how:Str}{hs:Ye}(hn:hs ≠ [])(hw:how = "all" \/ how = "first"):WR [b,.str how,.lst (hs.map .int)]=.ok (.int (if how = "all" then maxI hs else minI hs)):=by
 have m1:=O6 hn;have m2:=Gp hn;rcases hw with rfl|rfl
 .simp[WR,ZH,IA,m1]
 .have:¬("first" : Str) = "all" := by decide +kernel
  simp[WR,ZH,IB,IC,m2,this]
noncomputable def Bt:FS:=(sSeq (sOwn 3 (dBlt Ka (Jz (dVar 2) dNil))) (sSeq (sFor (iS (dUn (gFld "Plan" "rows") (J8 Wg (Jz (dVar 0) (Jz (dVar 1) dNil))))) (.tup [4,5,6]) (Qt 3 (dTmp [3] (J8 WR (Jz (dVar 0) (Jz (dVar 5) (Jz (Qq [none,none,some 3] (iS (dVar 6)) (.tup [0,1]) (dOp gAdd (dOp gIx (dVar 2) (dVar 0)) (dVar 1))) dNil))))))) (Ko 3)))
noncomputable def X4:Yy->Res D:=runN 7 3 Bt
def f_z29 {P:Pl}{hs:Ye}(ok:RowsOk hs.length P.rows)(hl:hs.length<=12)(ha:asc P.name):X4 [JJ [P],.str P.name,.lst (hs.map .int)]=.ok (.lst ((runF P.rows hs).map .int)):=by
 have pb:Wg [JJ [P],.str P.name]=.ok (JH P):=by
  refine IN ha (λp hp=>by rw[Vu.mp hp];exact ha) ?_;simp
 obtain⟨sd',e,u,v,w,hs'⟩:=Qw (tg:=.tup [4,5,6]) (b:=Qt 3 (dTmp [3] (J8 WR (Jz (dVar 0) (Jz (dVar 5) (Jz (Qq [none,none,some 3] (iS (dVar 6)) (.tup [0,1]) (dOp gAdd (dOp gIx (dVar 2) (dVar 0)) (dVar 1))) dNil)))))) (ds:=P.rows.map rowD) (sd:=[some (.val (JJ [P])),some (.val (.str P.name)),some (.val (.lst (hs.map .int))),some (.own false (.lst (hs.map .int))),none,none,none])
  (P:=λi sd=>∃u v w,sd=[some (.val (JJ [P])),some (.val (.str P.name)),some (.val (.lst (hs.map .int))),some (.own false (.lst ((runF (P.rows.take i) hs).map .int))),u,v,w]) ⟨none,none,none,rfl⟩ (by
   rintro i x sd hx ⟨u,v,w,rfl⟩;obtain⟨r,hr1,rfl⟩:=Qx hx;obtain⟨bd,ln,hi,hm⟩:=ok.at rfl hr1;have tr:=Tz bd;have l8:=ok.len;have l10:=ok.sh r hm;have mh:=f_z31 (JJ [P]) (Tw (found:=runF (P.rows.take i) hs) (ok.ne r hm)) (ok.how r hm);have z1:=JV (show r.2.2.length<=1000 from ());have z2:=JV (show(runF (P.rows.take i) hs).length<=1000 by omega);have z3:=QL (show(tmsF (runF (P.rows.take i) hs) r.2.2).length<=1000 by rw[Tx];omega);refine⟨[some (.val (JJ [P])),some (.val (.str P.name)),some (.val (.lst (hs.map .int))),some (.own false (.lst ((runF (P.rows.take (i+1)) hs).map .int))),some (.val (.str r.1)),some (.val (.str r.2.1)),some (.val (rwD r.2.2))],?_,_,_,_,rfl⟩;rw[Dc hr1];have er:rwD r.2.2=.tup (r.2.2.map prD):=rfl;generalize JJ [P]=bk at mh;rw[Ir,Res.bind_ok];simp[er,tr,mh,z1,z2,valF,Res.bare])
 rw[Zql,UK] at hs';subst hs';have fr:gFld "Plan" "rows" (JH P)=some (.lst (P.rows.map rowD)):=rfl;generalize JJ [P]=bk at pb e;generalize JH P=pl at pb fr;simp[X4,Bt,pb,fr,e]
noncomputable def Bu:FS:=(sRet (dOp gIx (J8 X4 (Jz (dVar 0) (Jz (dVar 1) (Jz (dVar 2) dNil)))) (dUn gNeg (dC (.int 1)))))
noncomputable def WS:Yy->Res D:=runD 3 3 Bu
def f_z30 {bk nm hs:D}{ys:Ye}{x:Int}(h:X4 [bk,nm,hs]=.ok (.lst ((ys++[x]).map .int))):WS [bk,nm,hs]=.ok (.int x):=by
 have l:=ID (f:=D.int) ys x;generalize (ys++[x]).map D.int=es at h l;have l:atI es (-1)=some (.int x):=l;simp[WS,Bu,h,l]
noncomputable def Bv:FS:=(sSeq (sSet 1 (dOp gIx (dLst (Jz (dC (.int 2)) (Jz (dC (.int 3)) (Jz (dC (.int 4)) (Jz (dC (.int 5)) (Jz (dC (.int 6)) (Jz (dC (.int 12)) dNil))))))) (dOp gMod (J8 Kd (Jz (dVar 0) (Jz (dC (.int 0)) dNil))) (dC (.int 6))))) (sSeq (sSet 2 (dOp gIx (J8 YV (Jz (J8 YW (Jz (dVar 0) (Jz (dC (.int 1)) (Jz (dC (.int 8)) dNil)))) (Jz (dC (.int 1)) (Jz (dVar 1) dNil)))) (dC (.int 0)))) (sSeq (sIf (J7 (dOp gEq (dOp gMod (dOp Kq (J8 Kd (Jz (dVar 0) (Jz (dC (.int 0)) dNil))) (dC (.int 6))) (dC (.int 4))) (dC (.int 1)))) (sSeq (sSet 1 (dC (.int 12))) (sSet 2 (J8 W4 (Jz (J8 Xz (Jz (J8 Kd (Jz (dVar 0) (Jz (dC (.int 1)) dNil))) dNil)) dNil)))) JF) (sSeq (sSet 3 (dOp gAdd (dVar 1) (dOp gMod (dOp Kq (J8 Kd (Jz (dVar 0) (Jz (dC (.int 0)) dNil))) (dC (.int 24))) (dOp gSub (dC (.int 13)) (dVar 1))))) (sSeq (sSet 4 (dOp gIx (dLst (Jz (dC (.str "p")) (Jz (dC (.str "end")) (Jz (dC (.str "r0")) (Jz (dC (.str "g1")) (Jz (dC (.str "abcdefghijkl")) (Jz (dC (.str "x9")) dNil))))))) (dOp gMod (J8 Kd (Jz (dVar 0) (Jz (dC (.int 2)) dNil))) (dC (.int 6))))) (sSeq (sSet 5 (dBlt Ka (Jz (dVar 2) dNil))) (sSeq (sSet 6 (J8 ZE (Jz (dVar 4) (Jz (dVar 3) (Jz (dVar 5) dNil))))) (sSeq (sOwn 7 (Qq [none,some 2] (iR1 (Jz (dBlt gLen (Jz (dVar 2) dNil)) dNil)) (.one 0) (dTup (Jz (dOp gAdd (dC (.str "r")) (dBlt gStr (Jz (dVar 0) dNil))) (Jz (dC (.str "all")) (Jz (dOp gIx (dVar 1) (dVar 0)) dNil)))))) (sSeq (Qt 7 (dTup (Jz (dC (.str "end")) (Jz (dC (.str "first")) (Jz (dBlt KR (Jz (Qq [none,some 3] (iR1 (Jz (dBlt gLen (Jz (dVar 2) dNil)) dNil)) (.one 0) (dTup (Jz (dOp gAdd (dVar 1) (dVar 0)) (Jz (dC (.int 0)) dNil)))) dNil)) dNil))))) (sSeq (sIf (dOrT (J7 (dOp gNe (dVar 5) (dVar 2))) (dOrT (J7 (dOp gNe (dUn (gFld "Plan" "name") (dVar 6)) (dVar 4))) (dOrT (J7 (dOp gNe (dUn (gFld "Plan" "givens") (dVar 6)) (Qq [none] (iR1 (Jz (dVar 3) dNil)) (.one 0) (dOp gAdd (dC (.str "g")) (dBlt gStr (Jz (dVar 0) dNil)))))) (WA [7] (J7 (dOp gNe (dUn (gFld "Plan" "rows") (dVar 6)) (dVar 7))))))) (sRet (dC (.bl false))) JF) (sSeq (sSet 8 (A7 "Book" ["plans"] I_Book (Jz (dLst (Jz (dVar 6) dNil)) dNil))) (sSeq (sIf (dOrT (J7 (dUn (gIsN true) (J8 ZD (Jz (dVar 8) dNil)))) (J7 (dOp gNe (J8 ZG (Jz (dVar 8) (Jz (dVar 4) (Jz (dC (.int 60)) dNil)))) (dVar 2)))) (sRet (dC (.bl false))) JF) (sSeq (sFor (iS (dSl (dVar 0) KE (K0 (dC (.int 12))) KE)) (.one 9) (sSeq (sSet 10 (J8 Xx (Jz (dVar 9) (Jz (dVar 3) dNil)))) (sIf (J7 (dOp gNe (J8 WS (Jz (dVar 8) (Jz (dVar 4) (Jz (dVar 10) dNil)))) (J8 WO (Jz (dVar 2) (Jz (dVar 10) dNil))))) (sRet (dC (.bl false))) JF))) (sRet (dC (.bl true))))))))))))))))
noncomputable def zkD:Yy->Res D:=runD 11 1 Bv
def menuT:Ye:=[2,3,4,5,6,12]
def znT (x:Int):∃t:Int,atI [D.int 2,D.int 3,D.int 4,D.int 5,D.int 6,D.int 12] (x % 6)=some (.int t)/\1<=t/\t<=12:=by
 have h1:=UX x (show(6:Int)≠0 by omega);have h2:=UW x (show(0:Int)<6 by omega);have h:=AC (hs:=menuT) h1 (by show x % 6<((6:Nat):Int);omega);refine⟨_,h,?_⟩;have:x % 6=0\/x % 6=1\/x % 6=2\/x % 6=3\/x % 6=4\/x % 6=5:=()
 rcases this with q|q|q|q|q|q<;>rw[q]<;>decide
def zmE {rs:Jy}(h:∀r∈rs,Rise r)(i:Nat):Rise (rs.getD i []):=by
 rw[Ua];cases q:rs[i]? with
 |none=>exact CQ
 |some r=>exact h r (Ud q)
def zgc {n:Int}{rs:Jy}{c:Int}(h:∀r∈rs,Rise r):∀r∈QU n rs c,Rise r:=by
 intro r hr;unfold QU at hr
 split at hr
 .rcases Jc.mp hr with z|z
  .exact h r z
  .rw[Vu.mp z];exact SU (zmE h _)
 .rcases Jc.mp hr with z|z
  .exact h r z
  .rw[Vu.mp z];exact SS _ _ _ _ _
theorem IP {n:Int}:∀(cs:Ye) (rs:Jy),(∀r∈rs,Rise r)->∀r∈cs.foldl (QU n) rs,Rise r
 | [],rs,h=>h
 |c::cs,rs,h=>by rw[UE];exact IP cs _ (zgc h)
def zkJ (n:Int)(cs:Ye):∀r∈QK n cs,Rise r:=IP cs [] λ_ h=>nomatch h
def zoD {n:Int}{k:Nat}{U rs:Jy}(h1:1<=n)(ok:∀r∈rs,RowOk n r)(ri:∀r∈rs,Rise r)(hl:rs.length<=40)(u1:∀r∈rs,r∈U)(u2: [((k:Int) % n,0)]∈U):Fm n U (YL n k (Qo rs)):=by
 unfold YL
 split
 .refine⟨Ih ⟨by simp,by unfold Once;simp,λp hp=>?_,by simp⟩ (CS _),λr hr=>by rw[Vu.mp hr];exact u2⟩;rw[Vu.mp hp];exact⟨UX _ (),UW _ ()⟩
 .rename_i q;have l:=CP rs;refine⟨Ig ok ri hl λz=>q ?_,λr hr=>u1 r (zaD.mp hr).1⟩;subst z;exact Jf.mp (Nat.le_zero.mp l)
def FarB (B:Int)(r:Jx):Prop:=∀p∈r,-B<p.2/\p.2<B
theorem Di {B m:Int}{w:Nat->Int}(h:∀i,-B<w i/\w i<B):∀i,FarB B (preG m w i)
 | 0=>λp hp=>by cases hp
 |i+1=>λp hp=>by
  unfold preG at hp
  split at hp
  .rcases Jc.mp hp with z|z
   .exact Di h i p z
   .rw[Vu.mp z];exact h i
  .exact Di h i p hp
def zsI {B m:Int}{w:Nat->Int}{c wl n:Int}(h:∀i,-B<w i/\w i<B)(h2: -B<wl/\wl<B):FarB B (rowG m w c wl n):=λp hp=>by
 unfold rowG at hp
 split at hp
 .rw[Vu.mp hp];exact h2
 .exact Di h _ p hp
theorem IQ {B:Int}{r:Jx}{f:Nat->Option Int->Option Int}(h:∀i w,f i (JA r i)=some w -> -B<w/\w<B):∀i,FarB B (Q3 r f i)
 | 0=>λp hp=>by cases hp
 |i+1=>λp hp=>by
  unfold Q3 at hp;rcases Jc.mp hp with z|z
  .exact IQ h i p z
  .unfold Ku at z
   split at z
   .rename_i w hw;rw[Vu.mp z];exact h i w hw
   .cases z
def zjV {B:Int}{r:Jx}{c n:Int}(hr:FarB B r)(hB:999999999999999999999999999980<=B):FarB (B+1) (KZ r (varB c) n):=λp hp=>by
 unfold KZ at hp
 split at hp
 .have:=hr p hp;omega
 .refine IQ (λi w hw=>?_) _ p hp;cases q:JA r i with
  |none =>
   rw[q] at hw;have hw:(if mixF c (43+i) % 5=0 then some (numF c (67+i)) else none)=some w:=hw
   split at hw
   .cases hw;have:=Df c (67+i);omega
   .cases hw
  |some v =>
   rw[q] at hw;obtain⟨v',e,hm⟩:=AG (r:=r) (t:=(i:Int)) (by rw[q];rfl);rw[q] at e;cases e;have:=hr _ hm;have this: -B<v/\v<B:=this;have hw:(if 0<mixF c (43+i) % 6 then some (v+nthI W3 (mixF c (43+i) / 6 % 4)) else none)=some w:=hw
   split at hw
   .cases hw;have:nthI W3 (mixF c (43+i) / 6 % 4)=0\/nthI W3 (mixF c (43+i) / 6 % 4)=1\/nthI W3 (mixF c (43+i) / 6 % 4) = -1:=by
     have q:mixF c (43+i) / 6 % 4=0\/mixF c (43+i) / 6 % 4=1\/mixF c (43+i) / 6 % 4=2\/mixF c (43+i) / 6 % 4=3:=()
     rcases q with q|q|q|q<;>rw[q]<;>decide
    omega
   .cases hw
def X5 {A B:Int}{r:Jx}(h:FarB A r)(hl:A<=B):FarB B r:=λp hp=>by have:=h p hp;omega
theorem IR {n:Int}:∀(cs:Ye) (rs:Jy) (B:Int),999999999999999999999999999980<=B->(∀r∈rs,FarB B r)->∀r∈cs.foldl (QU n) rs,FarB (B+cs.length) r
 | [],rs,B,_,h=>λr hr=>X5 (h r hr) (by simp)
 |c::cs,rs,B,hB,h=>λr hr=>by
  rw[UE] at hr;refine X5 (IR cs _ (B+1) () (λx hx=>?_) r hr) (by rw[Zu];omega);unfold QU at hx;have nb:=λs=>Df c s
  split at hx
  .rcases Jc.mp hx with z|z
   .exact X5 (h x z) ()
   .rw[Vu.mp z];refine zjV ?_ hB;rw[Ua];cases q:rs[(c / 3 % (rs.length:Int)).toNat]? with
    |none=>exact λp hp=>by cases hp
    |some y=>exact h y (Ud q)
  .rcases Jc.mp hx with z|z
   .exact X5 (h x z) ()
   .rw[Vu.mp z];exact zsI (λi=>by have:=nb (13+i);omega) (by have:=nb 31;omega)
def zv9:((((List.range 12).map λk=>(("g" : Str)++digF k))++(((List.range 39).map λk=>(("r" : Str)++digF k))++[("end" : Str)])).map λx=>x.cps.toList).Nodup:=by decide +kernel
def Dj:(((List.range 12).map λk=>(("g" : Str)++digF k))++(((List.range 39).map λk=>(("r" : Str)++digF k))++[("end" : Str)])).all chkC=true:=by decide +kernel
def BQ {α β: Type}{f:α -> β}{l:List α}(h:(l.map f).Nodup):l.Nodup:=by
 unfold List.Nodup at h ⊢;rw[Vk] at h;exact h.imp λ{a b} q e=>q (by rw[e])
def Dk {nm:Str}{many:Nat}{f:Jy}(hm:many<=12)(hl:f.length<=39):((pln nm many f).givens++(pln nm many f).rows.map (·.1)).Sublist (((List.range 12).map λk=>(("g" : Str)++digF k))++(((List.range 39).map λk=>(("r" : Str)++digF k))++[("end" : Str)])):=by
 have e:(pln nm many f).rows.map (·.1)=((List.range f.length).map λk=>(("r" : Str)++digF k))++[("end" : Str)]:=by
  unfold pln;rw[Ug,Zw];rfl
 rw[e];exact List.Sublist.append ((List.range_sublist.mpr hm).map _) (List.Sublist.append ((List.range_sublist.mpr hl).map _) (List.Sublist.refl _))
def zwA {nm:Str}{many:Nat}{f:Jy}{n:Int}(G:Good n f)(l:f.length<=39)(hn:n<=(many:Int))(hm:many<=12)(h1:0<n)(hnm:nmOk nm)(far:∀r∈f,FarB 1000000000000000000000000000000 r):LB [pln nm many f]:=λi p hi=>by
 have RO:=Dd (nm:=nm) G l hn hm h1;have hi0:i=0:=by
  have:=(Jb.mp hi).1;rw[Uq] at this;omega
 subst hi0;have hi:pln nm many f=p:=Zqi hi;subst hi;have lg:(pln nm many f).givens.length=many:=by
  show((List.range many).map _).length=_;rw[Zql,ZB]
 have lr:=WN nm many f;have sb:=Dk (nm:=nm) (f:=f) hm l;refine⟨hnm,λq hq=>(nomatch hq),λx hx=>Da Dj x (sb.mem hx),(BQ zv9).sublist sb,(),(),(),(),λk r hk=>?_,λr hr=>?_,?_⟩
 .rw[lg];have rg:=RO.rng k r hk;have rm:=Ud hk;have ne:=RO.ne r rm;refine⟨⟨rg,λp hp=>?_⟩,Jk.mpr ne,?_⟩
  .rcases Wd hk with ⟨x,hx,rfl⟩|⟨rfl,rfl⟩
   .exact far x (Ud hx) p hp
   .have hp:p∈(List.range f.length).map λk:Nat=>((many:Int)+k,(0:Int)):=hp;obtain⟨j,_,rfl⟩:=Ja.mp hp;exact⟨by show _<(0:Int);omega,by show(0:Int)<_;omega⟩
  .rcases Wd hk with ⟨x,hx,rfl⟩|⟨rfl,rfl⟩
   .have:=(G.rows x (Ud hx)).len;show x.length<=40;omega
   .show((List.range f.length).map λk:Nat=>((many:Int)+k,(0:Int))).length<=40;rw[Zql,ZB];omega
 .rcases RO.how r hr with z|z
  .exact .inl z
  .exact .inr (.inl z)
 .obtain⟨_,b⟩:=Tv (t:=wtF []) (M:=0) (Int.le_refl _) (λ_ h=>nomatch h) (pln nm many f);rw[Int.mul_zero,lr] at b;show wt1 (wtF []) (pln nm many f)<=2000;omega
def zua (c:Int):∃x:Str,atI [D.str "p",.str "end",.str "r0",.str "g1",.str "abcdefghijkl",.str "x9"] (c % 6)=some (.str x)/\nmOk x:=by
 obtain z|z|z|z|z|z:c % 6=0\/c % 6=1\/c % 6=2\/c % 6=3\/c % 6=4\/c % 6=5:=()
 .rw[z];exact⟨_,rfl,WM (by decide +kernel)⟩
 .rw[z];exact⟨_,rfl,WM (by decide +kernel)⟩
 .rw[z];exact⟨_,rfl,WM (by decide +kernel)⟩
 .rw[z];exact⟨_,rfl,WM (by decide +kernel)⟩
 .rw[z];exact⟨_,rfl,WM (by decide +kernel)⟩
 .rw[z];exact⟨_,rfl,WM (by decide +kernel)⟩
def law_true (ns:Ye)(h:ns.length<=63):zkD [.scr ns]=.ok (.bl true):=by
 have c0:Kd [.scr ns,.int 0]=.ok (.int (Km ns 0)):=De ns 0;have c1:Kd [.scr ns,.int 1]=.ok (.int (Km ns 1)):=De ns 1;have c2:Kd [.scr ns,.int 2]=.ok (.int (Km ns 2)):=De ns 2;obtain⟨t,ht,t1,t2⟩:=znT (Km ns 0);obtain⟨cs,hcs,ftu⟩:=T7 h (a:=1) (most:=8) () () () ();have ff:=f_z42 (cs:=cs) (many:=1) t1 t2 () () ();obtain⟨x,ex,nx⟩:=zua (Km ns 2);have run:∀{g:FS} {d:D},g (Q5 11 [.scr ns])=.ok (.ret d)->runD 11 1 g [.scr ns]=.ok d:=λe=>by
  rw[Xk 11 1 _ [.scr ns] rfl,e];rfl
 obtain⟨f0,ef0,G0,l0,far0⟩:∃f0,atI ((K1 t 1 (QK t cs) (1:Int).toNat).map frD) 0=some (frD f0)/\Good t f0/\f0.length<=39/\∀r∈f0,FarB 1000000000000000000000000000000 r:=by
  have a:=Cr (QK t cs) (some ((0:Nat):Int)) none (some (1:Int));have b:=Dg t cs;have F:=zoD (n:=t) (k:=0) (U:=QK t cs++[[(((0:Nat):Int) % t,(0:Int))]]) (rs:=JS (QK t cs) (some ((0:Nat):Int)) none (some (1:Int))) t1 (λr hr=>Dh t1 t2 cs r (Ar hr)) (λr hr=>zkJ t cs r (Ar hr)) () (λr hr=>UP _ (Ar hr)) (Ul _ Zqs);refine⟨_,rfl,F.good,?_,λr hr=>?_⟩
  .have:=AI (Iy F.good) F.sub;rw[Ub,Uq] at this;exact Zh this ()
  .rcases Jc.mp (F.sub r hr) with z|z
   .have:=IR (n:=t) cs [] 999999999999999999999999999980 () (λ_ h=>nomatch h) r z;exact X5 this ()
   .rw[Vu.mp z];intro p hp;rw[Vu.mp hp];exact⟨by show _<(0:Int);omega,by show(0:Int)<_;omega⟩
 obtain⟨wr,fw,wok,wl,wn⟩:=f_z46 (Km ns 1);have ft:=II (rs:=wr) (λr hr=>(wok r hr).ok.ne) (λr hr=>(wok r hr).ok.once) (λr hr=>by have:=(wok r hr).ok.len;omega) ();have G1:Good 12 (Qo wr):=Ig (λr hr=>(wok r hr).ok) (λr hr=>(wok r hr).ri) () wn;have l1:(Qo wr).length<=39:=Zh (CP wr) wl;have far1:∀r∈Qo wr,FarB 1000000000000000000000000000000 r:=λr hr=>X5 (A:=999999999999999999999999999980) (wok r (zaD.mp hr).1).far ();refine run ?_;unfold Bv;refine sqN (sd':=[some (.val (.scr ns)),some (.val (.int t)),none,none,none,none,none,none,none,none,none]) (by simp[Q5,c0,ht]) ?_;have ix0:gIx (.lst ((K1 t 1 (QK t cs) (1:Int).toNat).map frD)) (.int 0)=some (frD f0):=ef0;generalize (K1 t 1 (QK t cs) (1:Int).toNat).map frD=FD at ff ix0;have ix0:atI FD 0=some (frD f0):=ix0;refine sqN (sd':=[some (.val (.scr ns)),some (.val (.int t)),some (.val (frD f0)),none,none,none,none,none,none,none,none]) (by simp[ftu,ff,ix0]) ?_
 obtain⟨n,f,G,l,far,n1,n2,step⟩:∃(n:Int) (f:Jy),Good n f/\f.length<=39/\(∀r∈f,FarB 1000000000000000000000000000000 r)/\1<=n/\n<=12/\(sIf (J7 (dOp gEq (dOp gMod (dOp Kq (J8 Kd (Jz (dVar 0) (Jz (dC (.int 0)) dNil))) (dC (.int 6))) (dC (.int 4))) (dC (.int 1)))) (sSeq (sSet 1 (dC (.int 12))) (sSet 2 (J8 W4 (Jz (J8 Xz (Jz (J8 Kd (Jz (dVar 0) (Jz (dC (.int 1)) dNil))) dNil)) dNil)))) JF) [some (.val (.scr ns)),some (.val (.int t)),some (.val (frD f0)),none,none,none,none,none,none,none,none]=.ok (.next [some (.val (.scr ns)),some (.val (.int n)),some (.val (frD f)),none,none,none,none,none,none,none,none]):=by
  by_cases z:Km ns 0 / 6 % 4=1
  .exact⟨12,Qo wr,G1,l1,far1,(),(),by simp[c0,c1,z,fw,ft]⟩
  .exact⟨t,f0,G0,l0,far0,t1,t2,by simp[c0,z]⟩
 refine sqN step ?_;obtain⟨many,hmany,m1,m2⟩:∃m:Nat,n+Km ns 0 / 24 % (13-n)=(m:Int)/\n<=(m:Int)/\m<=12:=by
  have a:=UX (Km ns 0 / 24) (show 13-n≠0 from ());have b:=UW (Km ns 0 / 24) (show 0<13-n from ());exact⟨(n+Km ns 0 / 24 % (13-n)).toNat,(),(),()⟩
 have gm:=Co (i:=Km ns 0 / 24) (j:=13-n) ();have fl:0<f.length:=Jk.mpr G.ne;have ax:asc x:=nx.1.asc;have fp:=f_z16 (nm:=x) (many:=many) (f:=f) m2 ();have lb:=zwA (nm:=x) G l m1 m2 () nx far;have flk:=f_z20 lb (by simp) (by simp);have RO:=Dd (nm:=x) G l m1 m2 ();have fk:=f_z15 (f_z14 (f_z17 (nm:=x) G l m1 m2 () ax));have r1:QR [.int many]=.ok (JQ 0 many):=by rw[Ky () ()];rfl
 have r2:QR [.int f.length]=.ok (JQ 0 f.length):=by rw[Ky () ()];rfl
 have lr:TxtOk 1 "r" := Xt (by decide +kernel);have lgt:TxtOk 1 "g" := Xt (by decide +kernel);have k1:mapE (.one 0) (dTup (Jz (dOp gAdd (dC (.str "r")) (dBlt gStr (Jz (dVar 0) dNil))) (Jz (dC (.str "all")) (Jz (dOp gIx (dVar 1) (dVar 0)) dNil)))) [none,some (.val (frD f))] (JQ 0 f.length)=.ok ((List.range f.length).map λk:Nat=>rowD (rowN k (f.getD k []))):=Wv λi hi=>by
  obtain⟨dg,dt⟩:=Iq (k:=i) ();have g3:=Ip lr dt ();have ai:gIx (frD f) (.int (i:Int))=some (rwD (f.getD i [])):=by
   show atI (f.map rwD) (i:Int)=_;rw[Xq (by rw[Zql];exact hi),Zv,Zqg hi,Ua,Zqg hi];rfl
  generalize f.getD i []=fi at ai;generalize frD f=fd at ai;rw[VG];simp[dg,g3,ai,rowD,rowN]
 have k2:mapE (.one 0) (dTup (Jz (dOp gAdd (dVar 1) (dVar 0)) (Jz (dC (.int 0)) dNil))) [none,some (.val (.int many))] (JQ 0 f.length)=.ok ((List.range f.length).map λk:Nat=>prD ((many:Int)+k,0)):=Wv λi hi=>by
  simp[prD]
 have k3:mapE (.one 0) (dOp gAdd (dC (.str "g")) (dBlt gStr (Jz (dVar 0) dNil))) [none] (JQ 0 many)=.ok ((List.range many).map λk:Nat=>.str ("g" ++ digF k)):=Wv λi hi=>by
  obtain⟨dg,dt⟩:=Iq (k:=i) ();have g3:=Ip lgt dt ();rw[VG];simp[dg,g3]
 have eR:(pln x many f).rows.map rowD=((List.range f.length).map λk:Nat=>rowD (rowN k (f.getD k [])))++[.tup [.str "end",.str "first",.tup ((List.range f.length).map λk:Nat=>prD ((many:Int)+k,0))]]:=by
  unfold pln;rw[Ug,Zw,Zl,Uu];have e1:rowD (rowE many f.length)=.tup [.str "end",.str "first",.tup ((List.range f.length).map λk:Nat=>prD ((many:Int)+k,0))]:=by
   unfold rowD rwD rowE;rw[Zw];rfl
  rw[e1];rfl
 have eG:(pln x many f).givens.map D.str=(List.range many).map λk:Nat=>.str ("g" ++ digF k):=by
  unfold pln;rw[Zw];rfl
 have pR:plN 12 (.lst ((pln x many f).rows.map rowD))=true:=by
  show((pln x many f).rows.map rowD).all (plN 11)=true;rw[Uo];intro y hy;obtain⟨r,hr,rfl⟩:=Ja.mp hy;have a1:asc r.1:=(Da Dj r.1 ((Dk (nm:=x) (f:=f) m2 l).mem (Ul _ (Ja.mpr ⟨r,hr,rfl⟩)))).1.asc;have a2:asc r.2.1:=by
   rcases RO.how r hr with z|z
   .rw[z];exact AK
   .rw[z];exact AL
  show[D.str r.1,D.str r.2.1,rwD r.2.2].all (plN 10)=true;rw[Uz,Uz,Uz,W2 a1,W2 a2,HY 7];rfl
 have pG:plN 12 (.lst ((pln x many f).givens.map D.str))=true:=by
  show((pln x many f).givens.map D.str).all (plN 11)=true;rw[Uo];intro y hy;obtain⟨g,hg,rfl⟩:=Ja.mp hy;exact W2 (Da Dj g ((Dk (nm:=x) (f:=f) m2 l).mem (UP _ hg))).1.asc
 have nR:gNe (.lst ((pln x many f).rows.map rowD)) (.lst ((pln x many f).rows.map rowD))=some (.bl false):=by rw[Wr pR pR,Kr];rfl
 have nG:gNe (.lst ((pln x many f).givens.map D.str)) (.lst ((pln x many f).givens.map D.str))=some (.bl false):=by rw[Wr pG pG,Kr];rfl
 have nF:gNe (frD f) (frD f)=some (.bl false):=by rw[SR];simp
 have nN:gNe (.str x) (.str x)=some (.bl false):=by rw[Wr (W2 ax) (W2 ax),Kr];rfl
 have fN:gFld "Plan" "name" (JH (pln x many f))=some (.str x):=rfl;have fG:gFld "Plan" "givens" (JH (pln x many f))=some (.lst ((pln x many f).givens.map .str)):=rfl;have fR:gFld "Plan" "rows" (JH (pln x many f))=some (.lst ((pln x many f).rows.map rowD)):=rfl;have eB:JJ [pln x many f]=.ins "Book" ["plans"] [.lst [JH (pln x many f)]]:=rfl;have fth:∀hs:Ye,hs.length=many->WS [JJ [pln x many f],.str x,.lst (hs.map .int)]=.ok (.int (Xs f hs)):=λhs hh=>by
  obtain⟨ys,ey⟩:=T4 (nm:=x) (hs:=hs) G m1 hh;have ho:=f_z29 (P:=pln x many f) (hs:=hs) (by rw[hh];exact RO) () ax;rw[ey] at ho;exact f_z30 ho
 have fcm:∀hs:Ye,hs.length=many->WO [frD f,.lst (hs.map .int)]=.ok (.int (Xs f hs)):=λhs hh=>f_z44 G.ne () (λr hr=>(G.rows r hr).ne) λr hr p hp=>by
  have:=(G.rows r hr).mem p hp;omega
 have z1:=JV (show f.length<=1000 from ());have z2:=JV (show many<=1000 from ());have la:((List.range f.length).map λk:Nat=>rowD (rowN k (f.getD k []))).length<sizeLine:=JV (by rw[Zql,ZB];omega);have gl:gLen [frD f]=some (.int f.length):=by
  show some (D.int (f.map rwD).length)=_;rw[Zql]
 have gli:Ka [frD f]=some (frD f):=rfl;rw[<- eG] at k3;rw[eR] at nR fR;generalize ((List.range f.length).map λk:Nat=>rowD (rowN k (f.getD k [])))=R1 at k1 la nR fR;generalize (pln x many f).givens.map D.str=GD at k3 nG fG;generalize JH (pln x many f)=pd at fp fN fG fR eB;generalize JJ [pln x many f]=bk at flk fk fth eB;refine sqN (sd':=[some (.val (.scr ns)),some (.val (.int n)),some (.val (frD f)),some (.val (.int many)),none,none,none,none,none,none,none]) (by simp[c0,gm,hmany]) ?_;refine sqN (sd':=[some (.val (.scr ns)),some (.val (.int n)),some (.val (frD f)),some (.val (.int many)),some (.val (.str x)),none,none,none,none,none,none]) (by simp[c2,ex]) ?_;generalize hfd:frD f=fd at fp fk nF fcm gl gli k1;refine sqN (sd':=[some (.val (.scr ns)),some (.val (.int n)),some (.val fd),some (.val (.int many)),some (.val (.str x)),some (.val fd),none,none,none,none,none]) (by simp[gli]) ?_;refine sqN (sd':=[some (.val (.scr ns)),some (.val (.int n)),some (.val fd),some (.val (.int many)),some (.val (.str x)),some (.val fd),some (.val pd),none,none,none,none]) (by simp[fp]) ?_;refine sqN (sd':=[some (.val (.scr ns)),some (.val (.int n)),some (.val fd),some (.val (.int many)),some (.val (.str x)),some (.val fd),some (.val pd),some (.own false (.lst R1)),none,none,none]) (by simp[gl,r2,k1,z1,Kz]) ?_
 refine sqN (sd':=[some (.val (.scr ns)),some (.val (.int n)),some (.val fd),some (.val (.int many)),some (.val (.str x)),some (.val fd),some (.val pd),some (.own false (.lst (R1++[.tup [.str "end",.str "first",.tup ((List.range f.length).map λk:Nat=>prD ((many:Int)+k,0))]]))),none,none,none]) (by simp[gl,r2,k2,z1,Kz,la]) ?_;generalize R1++[.tup [.str "end",.str "first",.tup ((List.range f.length).map λk:Nat=>prD ((many:Int)+k,0))]]=RR at nR fR;refine sqN (sd':=[some (.val (.scr ns)),some (.val (.int n)),some (.val fd),some (.val (.int many)),some (.val (.str x)),some (.val fd),some (.val pd),some (.own false (.lst RR)),none,none,none]) (by simp[nF,fN,nN,fG,r1,k3,z2,Kz,nG,fR,nR,Res.bare]) ?_;refine sqN (sd':=[some (.val (.scr ns)),some (.val (.int n)),some (.val fd),some (.val (.int many)),some (.val (.str x)),some (.val fd),some (.val pd),some (.own false (.lst RR)),some (.val bk),none,none]) (by simp[eB,I_Book,runI,Q5]) ?_;refine sqN (sd':=[some (.val (.scr ns)),some (.val (.int n)),some (.val fd),some (.val (.int many)),some (.val (.str x)),some (.val fd),some (.val pd),some (.own false (.lst RR)),some (.val bk),none,none]) (by simp[flk,fk,nF]) ?_
 obtain⟨sd',e,u9,u10,hs'⟩:=Qw (tg:=.one 9) (b:=(sSeq (sSet 10 (J8 Xx (Jz (dVar 9) (Jz (dVar 3) dNil)))) (sIf (J7 (dOp gNe (J8 WS (Jz (dVar 8) (Jz (dVar 4) (Jz (dVar 10) dNil)))) (J8 WO (Jz (dVar 2) (Jz (dVar 10) dNil))))) (sRet (dC (.bl false))) JF))) (ds:=(ns.take 12).map .int) (sd:=[some (.val (.scr ns)),some (.val (.int n)),some (.val fd),some (.val (.int many)),some (.val (.str x)),some (.val fd),some (.val pd),some (.own false (.lst RR)),some (.val bk),none,none])
  (P:=λ_ sd=>∃u9 u10:Option SV,sd=[some (.val (.scr ns)),some (.val (.int n)),some (.val fd),some (.val (.int many)),some (.val (.str x)),some (.val fd),some (.val pd),some (.own false (.lst RR)),some (.val bk),u9,u10]) ⟨none,none,rfl⟩ (by
   rintro i y sd hy ⟨u9,u10,rfl⟩;obtain⟨c,_,rfl⟩:=Qx hy;have fh:=f_z45 (c:=c) (n:=(many:Int)) () ();rw[Vc] at fh;have hl:(Xy c many).length=many:=by unfold Xy;rw[Zql,ZB]
   have a1:=fth _ hl;have a2:=fcm _ hl;generalize (Xy c many).map D.int=H at fh a1 a2;refine⟨[some (.val (.scr ns)),some (.val (.int n)),some (.val fd),some (.val (.int many)),some (.val (.str x)),some (.val fd),some (.val pd),some (.own false (.lst RR)),some (.val bk),some (.val (.int c)),some (.val (.lst H))],?_,_,_,rfl⟩;simp[fh,a1,a2])
 subst hs';have gs:gSl (.scr ns) none (some 12) none=some (.lst ((ns.take 12).map .int)):=by
  rw[OE,SY _ ()];rfl
 refine sqN (Eq.trans (by simp[gs]) e) ?_;simp
end My
set_option maxHeartbeats 4000000
namespace My
open PySem L2 L2.DL
def top (i:Nat):Stmt:=PySem.Challenge.pw_allfirst_k51_forms_as_plans.main.body.getD i (.Pass ⟨0,0,0,0⟩)
structure Mg (mg:Yc):Prop where
 abs_:mg "abs" = none
 all_:mg "all" = none
 dict_:mg "dict" = none
 enumerate_:mg "enumerate" = none
 len_:mg "len" = none
 list_:mg "list" = none
 max_:mg "max" = none
 min_:mg "min" = none
 range_:mg "range" = none
 set_:mg "set" = none
 sorted_:mg "sorted" = none
 str_:mg "str" = none
 sum_:mg "sum" = none
 tuple_:mg "tuple" = none
section
variable {P:Program}{w:World}{K:W.Frag}{mg:Yc}{base:Heap}{f:Addr}{fd:FuncData}
abbrev ZI:Stmt:=E9 (top 25) 0
def zsB:FnScope ["self", "plans"] ["self", "plans"] (JD ZI):=JK
def ztc {C:Addr}(F:Fun K "__init__" "Book.__init__" ZI f fd)(m:Mg mg)(k:ClsD K mg "Book" C ["plans"]):FnOk P w K mg base CX0 1 f fd ["self", "plans"] (SpI K "Book" ["plans"] I_Book):=by
 have sc:=zsB;refine fn_i (k:=0) (N:=["plans"]) (ps:=["self", "plans"]) (g:=(Jz (dBlt Ka (Jz (dVar 1) dNil)) dNil)) F sc (by decide) (by decide) λcdv A outer s H E hr=>?_;exact(A6 k (by decide) (pv 0) (QN.qe (V7 (x:= "list") Y1 rfl m.list_ XI (J1 (J0 (pv 1)) J2))) HE)
abbrev ZJ:Stmt:=E9 (top 24) 0
def zs4:FnScope ["self", "name", "givens", "rows"] ["self", "name", "givens", "rows"] (JD ZJ):=JK
def zr5 {C:Addr}(F:Fun K "__init__" "Plan.__init__" ZJ f fd)(m:Mg mg)(k:ClsD K mg "Plan" C ["name", "givens", "rows"]):FnOk P w K mg base CX0 1 f fd ["self", "name", "givens", "rows"] (SpI K "Plan" ["name", "givens", "rows"] I_Plan):=by
 have sc:=zs4;refine fn_i (k:=0) (N:=["name", "givens", "rows"]) (ps:=["self", "name", "givens", "rows"]) (g:=(Jz (dVar 1) (Jz (dBlt Ka (Jz (dVar 2) dNil)) (Jz (dBlt Ka (Jz (dVar 3) dNil)) dNil)))) F sc (by decide) (by decide) λcdv A outer s H E hr=>?_;exact(A6 k (by decide) (pv 0) (J0 (pv 1)) (A6 k (by decide) (pv 0) (QN.qe (V7 (x:= "list") Y1 rfl m.list_ XI (J1 (J0 (pv 2)) J2))) (A6 k (by decide) (pv 0) (QN.qe (V7 (x:= "list") Y1 rfl m.list_ XI (J1 (J0 (pv 3)) J2))) HE)))
abbrev Dl:Stmt:=top 53
def zuY:FnScope ["script", "k"] ["script", "k"] (JD Dl):=JK
def zvV {k:Nat}(F:Fun K "_law_cell_at" "_law_cell_at" Dl f fd)(m:Mg mg)  : FnOk P w K mg base CX0 (k+1) f fd ["script", "k"] (SpD K Kd):=by
 have sc:=zuY;refine fn_d (N:=["script", "k"]) (ps:=["script", "k"]) (g:=YQ) F sc λcdv A outer s H E hr=>?_;unfold YQ;exact(J9 (JN (JY o_lt (J0 (pv 1)) (Qf (x:= "len") Q6 rfl m.len_ Qy (J1 (J0 (pv 0)) J2)) (JX _)) (J5 (JZ (Qs (Qd hr) (J0 (pv 0)) (J0 (pv 1)) (λ_ _=>rfl) (λ_ _=>rfl)))) JP) (J5 (JZ J6)))
abbrev Dm:Stmt:=top 63
def zuC:FnScope ["row", "hours", "late", "thing", "wait"] ["row", "hours"] (JD Dm):=JK
def zvy {k:Nat}(F:Fun K "_law_done" "_law_done" Dm f fd)(m:Mg mg)  : FnOk P w K mg base CX0 (k+1) f fd ["row", "hours"] (SpD K Xu):=by
 have sc:=zuC;refine fn_d (N:=["row", "hours", "late", "thing", "wait"]) (ps:=["row", "hours"]) (g:=AM) F sc λcdv A outer s H E hr=>?_;unfold AM;exact(J9 (Qi (i:=2) sc.nd rfl (.inl rfl) NG) (J9 (Qj PassesOwn.never rfl (JU (J0 (pv 0))) (Kb [3,4] (QX rfl (JW (JM (i:=3) sc.nd rfl (.inl rfl)) (JW (JM (i:=4) sc.nd rfl (.inl rfl)) QV)))) (J5 (JN (QW.qt (V6 (O0 (J0 (pv 2))) (Xa (JY o_gt (q_op Qr (Qs (Qd hr) (J0 (pv 1)) (J0 (pv 3)) (λ_ _=>rfl) (λ_ _=>rfl)) (J0 (pv 4))) (J0 (pv 2)) (JX _))))) (J5 (Qi (i:=2) sc.nd rfl (.inl rfl) (q_op Qr (Qs (Qd hr) (J0 (pv 1)) (J0 (pv 3)) (λ_ _=>rfl) (λ_ _=>rfl)) (J0 (pv 4))))) JP))) (J5 (JZ (J0 (pv 2))))))
abbrev Dp:Stmt:=top 64
def ztG:FnScope ["form", "hours"] ["form", "hours"] (JD Dp):=JK
def zuO {k:Nat}(F:Fun K "_law_comes" "_law_comes" Dp f fd)(m:Mg mg)(c_z43:zan P w K mg base "_law_done" k ["row", "hours"] (SpD K Xu)):FnOk P w K mg base CX0 (k+1) f fd ["form", "hours"] (SpD K WO):=by
 have sc:=ztG;refine fn_d (N:=["form", "hours"]) (ps:=["form", "hours"]) (g:=AN) F sc λcdv A outer s H E hr=>?_;unfold AN;exact(J5 (JZ (Qf (x:= "min") (FZ rfl) rfl m.min_ BJ (J1 (QN.qe (QM ["row", "hours"] [none,some 1] rfl rfl (JU (J0 (pv 0))) (λ_ _ _ _ _=>(JT (pgn 0 (Qb ["row", "hours"])))) (λ_ _ _ _ _=>(q_fn c_z43 hr rfl (J1 (J0 (pv 0)) (J1 (J0 (pv 1)) J2)))))) J2))))
abbrev Dq:Stmt:=top 54
def zxA:FnScope ["cell", "salt", "mixed"] ["cell", "salt"] (JD Dq):=JK
def zue {k:Nat}(F:Fun K "_law_mixed" "_law_mixed" Dq f fd)(m:Mg mg)  : FnOk P w K mg base CX0 (k+1) f fd ["cell", "salt"] (SpD K We):=by
 have sc:=zxA;refine fn_d (N:=["cell", "salt", "mixed"]) (ps:=["cell", "salt"]) (g:=AO) F sc λcdv A outer s H E hr=>?_;unfold AO;exact(J9 (Qi (i:=2) sc.nd rfl (.inl rfl) (q_op Q9 (q_op Ah (q_op Qr (q_op Q9 (J0 (pv 0)) J6) (J0 (pv 1))) J6) J6)) (J5 (JZ (q_op Q9 (q_op Ah (J0 (pv 2)) (J0 (pv 2))) J6))))
abbrev Dr:Stmt:=top 56
def zwz:FnScope ["cell", "salt", "mixed", "size"] ["cell", "salt"] (JD Dr):=JK
def zvE {k:Nat}(F:Fun K "_law_number" "_law_number" Dr f fd)(m:Mg mg)(c_z34:zan P w K mg base "_law_mixed" k ["cell", "salt"] (SpD K We)):FnOk P w K mg base CX0 (k+1) f fd ["cell", "salt"] (SpD K QP):=by
 have sc:=zwz;refine fn_d (N:=["cell", "salt", "mixed", "size"]) (ps:=["cell", "salt"]) (g:=Xv) F sc λcdv A outer s H E hr=>?_;unfold Xv;exact(J9 (Qi (i:=2) sc.nd rfl (.inl rfl) (q_fn c_z34 hr rfl (J1 (J0 (pv 0)) (J1 (J0 (pv 1)) J2)))) (J9 (JN (JY o_gt (q_op Q9 (J0 (pv 2)) J6) J6 (JX _)) (J5 (JZ (q_op Ag (q_op Q9 (q_op V9 (J0 (pv 2)) J6) J6) J6))) JP) (J9 (Qi (i:=3) sc.nd rfl (.inl rfl) (q_op Q9 (q_op Ah (q_op V9 (J0 (pv 0)) J6) (q_op Qr (J0 (pv 1)) J6)) (q_op Ag (q_op FJ J6 J6) J6))) (J9 (JN (JY (o_eq hr.units) (q_op Q9 (q_op V9 (J0 (pv 2)) J6) J6) J6 (JX _)) (J5 (JZ (J0 (pv 3)))) JP) (J5 (JZ (q_un Ai (J0 (pv 3)))))))))
abbrev Ds:Stmt:=top 57
def zwx:FnScope ["cell", "things", "mask", "row", "thing"] ["cell", "things"] (JD Ds):=JK
def zwL {k:Nat}(F:Fun K "_law_row" "_law_row" Ds f fd)(m:Mg mg)(c_z34:zan P w K mg base "_law_mixed" k ["cell", "salt"] (SpD K We))(c_z36:zan P w K mg base "_law_number" k ["cell", "salt"] (SpD K QP)):FnOk P w K mg base CX0 (k+1) f fd ["cell", "things"] (SpD K YS):=by
 have sc:=zwx;refine fn_d (N:=["cell", "things", "mask", "row", "thing"]) (ps:=["cell", "things"]) (g:=AQ) F sc λcdv A outer s H E hr=>?_;unfold AQ;exact(J9 (Qi (i:=2) sc.nd rfl (.inl rfl) (q_fn c_z34 hr rfl (J1 (J0 (pv 0)) (J1 J6 J2)))) (J9 (QZ (i:=3) sc.nd rfl (.inl rfl) (QJ J2)) (J9 (Qj PassesOwn.never rfl (Ks rfl m.range_ (J1 (J0 (pv 1)) J2)) (JT (JM (i:=4) sc.nd rfl (.inl rfl))) (J9 (JN (JY (o_eq hr.units) (q_op Q9 (J0 (pv 2)) J6) J6 (JX _)) (J5 (Ki (pv 3) (Q1 (J1 (J0 (pv 4)) (J1 (q_fn c_z36 hr rfl (J1 (J0 (pv 0)) (J1 (q_op Qr J6 (J0 (pv 4))) J2))) J2))) (λh1 h2=>QY Yr Ys Yt Kg h1 h2))) JP) (J5 (Qi (i:=2) sc.nd rfl (.inl rfl) (q_op V9 (J0 (pv 2)) J6))))) (J9 (JN (XR [3] (JY (o_eq hr.units) (J0 (pv 3)) (QN.qe (QJ J2)) (JX _))) (J5 (Ki (pv 3) (Q1 (J1 (q_op Q9 (J0 (pv 0)) (J0 (pv 1))) (J1 (q_fn c_z36 hr rfl (J1 (J0 (pv 0)) (J1 J6 J2))) J2))) (λh1 h2=>QY Yr Ys Yt Kg h1 h2))) JP) (J5 (WC [3] (JZ (Wm (x:= "tuple") Xh rfl m.tuple_ WW (J1 (J0 (pv 3)) J2)))))))))
abbrev Dt:Stmt:=top 58
def zun:FnScope ["row", "cell", "things", "waits", "other", "thing", "mixed"] ["row", "cell", "things"] (JD Dt):=JK
def zvG {k:Nat}(F:Fun K "_law_varied" "_law_varied" Dt f fd)(m:Mg mg)(c_z34:zan P w K mg base "_law_mixed" k ["cell", "salt"] (SpD K We))(c_z36:zan P w K mg base "_law_number" k ["cell", "salt"] (SpD K QP)):FnOk P w K mg base CX0 (k+1) f fd ["row", "cell", "things"] (SpD K YT):=by
 have sc:=zun;refine fn_d (N:=["row", "cell", "things", "waits", "other", "thing", "mixed"]) (ps:=["row", "cell", "things"]) (g:=AR) F sc λcdv A outer s H E hr=>?_;unfold AR
 exact(J9 (Qi (i:=3) sc.nd rfl (.inl rfl) (QN.qe (V7 (x:= "dict") (Al rfl) rfl m.dict_ ZU (J1 (J0 (pv 0)) J2)))) (J9 (QZ (i:=4) sc.nd rfl (.inl rfl) (QJ J2)) (J9 (Qj PassesOwn.never rfl (Ks rfl m.range_ (J1 (J0 (pv 2)) J2)) (JT (JM (i:=5) sc.nd rfl (.inl rfl))) (J9 (Qi (i:=6) sc.nd rfl (.inl rfl) (q_fn c_z34 hr rfl (J1 (J0 (pv 1)) (J1 (q_op Qr J6 (J0 (pv 5))) J2)))) (J9 (JN (QW.qt (Xb (qt_in hr.units (J0 (pv 5)) (J0 (pv 3))) (WZ (JY o_gt (q_op Q9 (J0 (pv 6)) J6) J6 (JX _))))) (J5 (Ki (pv 4) (Q1 (J1 (J0 (pv 5)) (J1 (q_op Qr (Qs (Qd hr) (J0 (pv 3)) (J0 (pv 5)) (λ_ _=>rfl) (λ_ _=>rfl)) (Qs (Qd hr) (QN.qe (QJ (J1 J6 (J1 J6 (J1 J6 (J1 (q_un Ai J6) J2)))))) (q_op Q9 (q_op V9 (J0 (pv 6)) J6) J6) (λ_ _=>rfl) (λ_ _=>rfl))) J2))) (λh1 h2=>QY Yr Ys Yt Kg h1 h2))) JP) (J5 (JN (QW.qt (Xb (Aj hr.units (J0 (pv 5)) (J0 (pv 3))) (WZ (JY (o_eq hr.units) (q_op Q9 (J0 (pv 6)) J6) J6 (JX _))))) (J5 (Ki (pv 4) (Q1 (J1 (J0 (pv 5)) (J1 (q_fn c_z36 hr rfl (J1 (J0 (pv 1)) (J1 (q_op Qr J6 (J0 (pv 5))) J2))) J2))) (λh1 h2=>QY Yr Ys Yt Kg h1 h2))) JP))))) (J9 (JN (XR [4] (JY (o_eq hr.units) (J0 (pv 4)) (QN.qe (QJ J2)) (JX _))) (J5 (JZ (J0 (pv 0)))) JP) (J5 (WC [4] (JZ (Wm (x:= "tuple") Xh rfl m.tuple_ WW (J1 (J0 (pv 4)) J2)))))))))
abbrev Du:Stmt:=top 59
def zvf:FnScope ["cells", "things", "rows", "cell"] ["cells", "things"] (JD Du):=JK
def zuv {k:Nat}(F:Fun K "_law_list" "_law_list" Du f fd)(m:Mg mg)(c_z37:zan P w K mg base "_law_row" k ["cell", "things"] (SpD K YS))(c_z38:zan P w K mg base "_law_varied" k ["row", "cell", "things"] (SpD K YT)):FnOk P w K mg base CX0 (k+1) f fd ["cells", "things"] (SpN K YU):=by
 have sc:=zvf;refine fn_n (N:=["cells", "things", "rows", "cell"]) (ps:=["cells", "things"]) (g:=AS) F sc λcdv A outer s H E hr=>?_;unfold AS;exact(J9 (QZ (i:=2) sc.nd rfl (.inl rfl) (QJ J2)) (J9 (Qj PassesOwn.never rfl (JU (J0 (pv 0))) (JT (JM (i:=3) sc.nd rfl (.inl rfl))) (J5 (JN (QW.qt (Xb (XR [2] (JY (o_ne hr.units) (J0 (pv 2)) (QN.qe (QJ J2)) (JX _))) (WZ (JY o_gt (q_op Q9 (J0 (pv 3)) J6) J6 (JX _))))) (J5 (Ki (pv 2) (q_fn c_z38 hr rfl (J1 (Cm (Qd hr) (pv 2) (q_op Q9 (q_op V9 (J0 (pv 3)) J6) (Wn [2] (Qf (x:= "len") Q6 rfl m.len_ Qy (J1 (J0 (pv 2)) J2)))) (λ_ _=>rfl) (λ_ _=>rfl)) (J1 (J0 (pv 3)) (J1 (J0 (pv 1)) J2)))) (λh1 h2=>QY Yr Ys Yt Kg h1 h2))) (J5 (Ki (pv 2) (q_fn c_z37 hr rfl (J1 (J0 (pv 3)) (J1 (J0 (pv 1)) J2))) (λh1 h2=>QY Yr Ys Yt Kg h1 h2)))))) (J5 (Wo (pv 2)))))
abbrev Dv:Stmt:=top 60
def zu8:FnScope ["row", "other", "waits", "pair"] ["row", "other"] (JD Dv):=JK
def zuu {k:Nat}(F:Fun K "_law_beneath" "_law_beneath" Dv f fd)(m:Mg mg)  : FnOk P w K mg base CX0 (k+1) f fd ["row", "other"] (SpD K Xw):=by
 have sc:=zu8;refine fn_d (N:=["row", "other", "waits", "pair"]) (ps:=["row", "other"]) (g:=AT) F sc λcdv A outer s H E hr=>?_;unfold AT;exact(J9 (Qi (i:=2) sc.nd rfl (.inl rfl) (QN.qe (V7 (x:= "dict") (Al rfl) rfl m.dict_ ZU (J1 (J0 (pv 1)) J2)))) (J9 (Qj PassesOwn.never rfl (JU (J0 (pv 0))) (JT (JM (i:=3) sc.nd rfl (.inl rfl))) (J5 (JN (QW.qt (V6 (Aj hr.units (Qs (Qd hr) (J0 (pv 3)) J6 (λ_ _=>rfl) (λ_ _=>rfl)) (J0 (pv 2))) (Xa (JY o_gt (Qs (Qd hr) (J0 (pv 3)) J6 (λ_ _=>rfl) (λ_ _=>rfl)) (Qs (Qd hr) (J0 (pv 2)) (Qs (Qd hr) (J0 (pv 3)) J6 (λ_ _=>rfl) (λ_ _=>rfl)) (λ_ _=>rfl) (λ_ _=>rfl)) (JX _))))) (J5 (JZ K6)) JP))) (J5 (JZ K6))))
abbrev Dw:Stmt:=top 61
def zuK:FnScope ["rows", "least", "row", "beneath"] ["rows"] (JD Dw):=JK
def zxp {k:Nat}(F:Fun K "_law_thin" "_law_thin" Dw f fd)(m:Mg mg)(c_z40:zan P w K mg base "_law_beneath" k ["row", "other"] (SpD K Xw)):FnOk P w K mg base CX0 (k+1) f fd ["rows"] (SpN K W4):=by
 have sc:=zuK;refine fn_n (N:=["rows", "least", "row", "beneath"]) (ps:=["rows"]) (g:=AU) F sc λcdv A outer s H E hr=>?_;unfold AU;exact(J9 (QZ (i:=1) sc.nd rfl (.inl rfl) (QJ J2)) (J9 (Qj PassesOwn.never rfl (JU (J0 (pv 0))) (JT (JM (i:=2) sc.nd rfl (.inr rfl))) (J9 (Gn ["one", "row"] [none,some 2] sc.nd rfl (.inl rfl) rfl rfl (JU (J0 (pv 0))) (λ_ _ _ _ _=>(JT (pgn 0 (Qb ["one", "row"])))) (λ_ _ _ _ _=>(QW.qt (Xb (JY (o_ne hr.units) (J0 (pv 0)) (J0 (pv 1)) (JX _)) (WZ (K7 (q_fn c_z40 hr rfl (J1 (J0 (pv 0)) (J1 (J0 (pv 1)) J2)))))))) (λ_ _ _ _ _=>(J0 (pv 0)))) (J5 (JN (QW.qt (Xb (JY (o_eq hr.units) (J0 (pv 3)) (QN.qe (QJ J2)) (JX _)) (WZ (XR [1] (Aj hr.units (J0 (pv 2)) (J0 (pv 1))))))) (J5 (Ki (pv 1) (J0 (pv 2)) (λh1 h2=>QY Yr Ys Yt Kg h1 h2))) JP)))) (J5 (WC [1] (V8 (BU (x:= "sorted") (Ct hr.units) rfl m.sorted_ XH (J1 (J0 (pv 1)) J2)))))))
abbrev Dx:Stmt:=top 62
def zvh:FnScope ["cells", "many", "things", "rows", "forms", "k"] ["cells", "many", "things"] (JD Dx):=JK
def zuh {k:Nat}(F:Fun K "_law_forms" "_law_forms" Dx f fd)(m:Mg mg)(c_z39:zan P w K mg base "_law_list" k ["cells", "things"] (SpN K YU))(c_z41:zan P w K mg base "_law_thin" k ["rows"] (SpN K W4)):FnOk P w K mg base CX0 (k+1) f fd ["cells", "many", "things"] (SpN K YV):=by
 have sc:=zvh;refine fn_n (N:=["cells", "many", "things", "rows", "forms", "k"]) (ps:=["cells", "many", "things"]) (g:=AV) F sc λcdv A outer s H E hr=>?_;unfold AV;exact(J9 (Qi (i:=3) sc.nd rfl (.inl rfl) (QN.qe (Q2 c_z39 hr rfl (J1 (J0 (pv 0)) (J1 (J0 (pv 2)) J2))))) (J9 (QZ (i:=4) sc.nd rfl (.inl rfl) (QJ J2)) (J9 (Qj PassesOwn.never rfl (Ks rfl m.range_ (J1 (J0 (pv 1)) J2)) (JT (JM (i:=5) sc.nd rfl (.inl rfl))) (J9 (Ki (pv 4) (QN.qe (Q2 c_z41 hr rfl (J1 (QN.qe (Y7 (J0 (pv 3)) (WI (J0 (pv 5))) Ww (WI (J0 (pv 1))))) J2))) (λh1 h2=>QY Yr Ys Yt Kg h1 h2)) (J5 (JN (JY (o_eq hr.units) (Cm (Qd hr) (pv 4) (J0 (pv 5)) (λ_ _=>rfl) (λ_ _=>rfl)) (QN.qe (QJ J2)) (JX _)) (J5 (OH (pv 4) (J0 (pv 5)) (QN.qe (QJ (J1 (Q1 (J1 (Q1 (J1 (q_op Q9 (J0 (pv 5)) (J0 (pv 2))) (J1 J6 J2))) J2)) J2))))) JP)))) (J5 (Wo (pv 4))))))
abbrev Dy:Stmt:=top 65
def zvU:FnScope ["cell", "things"] ["cell", "things"] (JD Dy):=JK
def zvH {k:Nat}(F:Fun K "_law_hours" "_law_hours" Dy f fd)(m:Mg mg)(c_z36:zan P w K mg base "_law_number" k ["cell", "salt"] (SpD K QP)):FnOk P w K mg base CX0 (k+1) f fd ["cell", "things"] (SpN K Xx):=by
 have sc:=zvU;refine fn_n (N:=["cell", "things"]) (ps:=["cell", "things"]) (g:=AW) F sc λcdv A outer s H E hr=>?_;unfold AW;exact(J5 (V8 (QM ["thing", "cell"] [none,some 0] rfl rfl (Ks rfl m.range_ (J1 (J0 (pv 1)) J2)) (λ_ _ _ _ _=>(JT (pgn 0 (Qb ["thing", "cell"])))) (λ_ _ _ _ _=>(q_fn c_z36 hr rfl (J1 (q_op V9 (J0 (pv 1)) (q_op Qr J6 (J0 (pv 0)))) (J1 (q_op Qr J6 (J0 (pv 0))) J2)))))))
abbrev Dz:Stmt:=top 55
def zxD:FnScope ["script", "start", "most", "many"] ["script", "start", "most"] (JD Dz):=JK
def zx7 {k:Nat}(F:Fun K "_law_turns" "_law_turns" Dz f fd)(m:Mg mg)  : FnOk P w K mg base CX0 (k+1) f fd ["script", "start", "most"] (SpN K YW):=by
 have sc:=zxD;refine fn_n (N:=["script", "start", "most", "many"]) (ps:=["script", "start", "most"]) (g:=AX) F sc λcdv A outer s H E hr=>?_;unfold AX;exact(J9 (Qi (i:=3) sc.nd rfl (.inl rfl) (Qf (x:= "min") (Oc rfl) rfl m.min_ BJ (J1 (J0 (pv 2)) (J1 (Qf (x:= "max") (FY rfl) rfl m.max_ BI (J1 J6 (J1 (q_op Ag (Qf (x:= "len") Q6 rfl m.len_ Qy (J1 (J0 (pv 0)) J2)) (J0 (pv 1))) J2))) J2)))) (J5 (V8 (QM ["k", "script", "start", "most"] [none,some 0,some 1,some 2] rfl rfl (Ks rfl m.range_ (J1 (J0 (pv 3)) J2)) (λ_ _ _ _ _=>(JT (pgn 0 (Qb ["k", "script", "start", "most"])))) (λ_ _ _ _ _=>(Qf (x:= "sum") (Gu rfl) rfl m.sum_ ER (J1 (QN.qe (Y7 (J0 (pv 1)) (WI (q_op Qr (J0 (pv 2)) (J0 (pv 0)))) Ww (WI (J0 (pv 3))))) J2)))))))
abbrev D0:Stmt:=top 66
def zwe:FnScope ["cell", "rows", "one", "two"] ["cell"] (JD D0):=JK
def zuR {k:Nat}(F:Fun K "_law_wide" "_law_wide" D0 f fd)(m:Mg mg)(c_z36:zan P w K mg base "_law_number" k ["cell", "salt"] (SpD K QP)):FnOk P w K mg base CX0 (k+1) f fd ["cell"] (SpN K Xz):=by
 have sc:=zwe;refine fn_n (N:=["cell", "rows", "one", "two"]) (ps:=["cell"]) (g:=AY) F sc λcdv A outer s H E hr=>?_;unfold AY;exact(J9 (QZ (i:=1) sc.nd rfl (.inl rfl) (QJ J2)) (J9 (Qj PassesOwn.never rfl (Ks rfl m.range_ (J1 J6 J2)) (JT (JM (i:=2) sc.nd rfl (.inl rfl))) (J5 (Qj PassesOwn.never rfl (Ks rfl m.range_ (J1 (J0 (pv 2)) J2)) (JT (JM (i:=3) sc.nd rfl (.inl rfl))) (J5 (JN (JY o_lt (Wn [1] (Qf (x:= "len") Q6 rfl m.len_ Qy (J1 (J0 (pv 1)) J2))) J6 (JX _)) (J5 (Ki (pv 1) (Q1 (J1 (Q1 (J1 (J0 (pv 3)) (J1 (J0 (pv 2)) J2))) (J1 (Q1 (J1 (J0 (pv 2)) (J1 (q_fn c_z36 hr rfl (J1 (J0 (pv 0)) (J1 (q_op Qr (q_op Qr J6 (q_op Ah J6 (J0 (pv 2)))) (J0 (pv 3))) J2))) J2))) J2))) (λh1 h2=>QY Yr Ys Yt Kg h1 h2))) JP))))) (J5 (WC [1] (V8 (BU (x:= "sorted") (Ct hr.units) rfl m.sorted_ XH (J1 (QN.qe (QM ["row"] [none] rfl rfl (JU (J0 (pv 1))) (λ_ _ _ _ _=>(JT (pgn 0 (Qb ["row"])))) (λ_ _ _ _ _=>(Q1 (J1 (Q1 (J1 (Qs (Qd hr) (Qs (Qd hr) (J0 (pv 0)) J6 (λ_ _=>rfl) (λ_ _=>rfl)) J6 (λ_ _=>rfl) (λ_ _=>rfl)) (J1 J6 J2))) (J1 (Qs (Qd hr) (J0 (pv 0)) J6 (λ_ _=>rfl) (λ_ _=>rfl)) J2)))))) J2)))))))
abbrev D1:Stmt:=top 37
def zwh:FnScope ["text"] ["text"] (JD D1):=JK
def ztR {k:Nat}(F:Fun K "is_name" "is_name" D1 f fd)(m:Mg mg)  {t_FIGURES:Tok}(w_FIGURES:mg "FIGURES" = some (.str "0123456789" t_FIGURES))(y_KEPT_WORDS:KTup K mg "KEPT_WORDS" ["plan", "given", "all", "first", "part"]){t_LETTERS:Tok}(w_LETTERS:mg "LETTERS" = some (.str "abcdefghijklmnopqrstuvwxyz" t_LETTERS)):FnOk P w K mg base CX0 (k+1) f fd ["text"] (SpD K V0):=by
 have sc:=zwh;refine fn_d (N:=["text"]) (ps:=["text"]) (g:=W5) F sc λcdv A outer s H E hr=>?_;unfold W5;exact(J9 (JN (QW.qt (V6 (K9 (Xn o_le o_le J6 (Qf (x:= "len") Q6 rfl m.len_ Qy (J1 (J0 (pv 0)) J2)) J6)) (V6 (RV (ws:=["plan", "given", "all", "first", "part"]) hr.units y_KEPT_WORDS rfl (J0 (pv 0))) (Xa (JY RT (Qs (Qd hr) (J0 (pv 0)) J6 (λ_ _=>rfl) (λ_ _=>rfl)) (CF w_LETTERS rfl) rfl))))) (J5 (JZ K6)) JP) (J5 (JZ (Qf (x:= "all") (Gv rfl) rfl m.all_ Gx (J1 (QN.qe (QM ["sign"] [none] rfl rfl (RQ (J0 (pv 0))) (λ_ _ _ _ _=>(JT (pgn 0 (Qb ["sign"])))) (λ_ _ _ _ _=>(q_or (BS HA (J0 (pv 0)) (CF w_LETTERS rfl) rfl) (F8 (BS HA (J0 (pv 0)) (CF w_FIGURES rfl) rfl)))))) J2)))))
abbrev D3:Stmt:=top 40
def zvY:FnScope ["texts"] ["texts"] (JD D3):=JK
def zv8 {k:Nat}(F:Fun K "are_names" "are_names" D3 f fd)(m:Mg mg)(c_z19:zan P w K mg base "is_name" k ["text"] (SpD K V0)):FnOk P w K mg base CX0 (k+1) f fd ["texts"] (SpD K WP):=by
 have sc:=zvY;refine fn_d (N:=["texts"]) (ps:=["texts"]) (g:=Ba) F sc λcdv A outer s H E hr=>?_;unfold Ba;exact(J5 (JZ (q_and (Qf (x:= "all") (Gv rfl) rfl m.all_ Gx (J1 (QN.qe (QM ["text"] [none] rfl rfl (JU (J0 (pv 0))) (λ_ _ _ _ _=>(JT (pgn 0 (Qb ["text"])))) (λ_ _ _ _ _=>(q_fn c_z19 hr rfl (J1 (J0 (pv 0)) J2))))) J2)) (F8 (BS (o_eq hr.units) (Sh (λh=>XA L2.ST.call_lenK rfl m.len_ Qy (X8 (ZR (L2.ST.call_setK rfl) rfl m.set_ L2.bt_set h) X7)) (J1 (J0 (pv 0)) J2)) (Qf (x:= "len") Q6 rfl m.len_ Qy (J1 (J0 (pv 0)) J2)) (JX _))))))
abbrev D4:Stmt:=top 39
def zvw:FnScope ["book", "plan"] ["book"] (JD D4):=JK
def zwS {k:Nat}(F:Fun K "look_at_names" "look_at_names" D4 f fd)(m:Mg mg)(c_z22:zan P w K mg base "are_names" k ["texts"] (SpD K WP)){D_Book:Addr}(k_Book:ClsD K mg "Book" D_Book ["plans"]){D_Plan:Addr}(k_Plan:ClsD K mg "Plan" D_Plan ["name", "givens", "rows"]):FnOk P w K mg base CX0 (k+1) f fd ["book"] (SpD K YX):=by
 have sc:=zvw;refine fn_d (N:=["book", "plan"]) (ps:=["book"]) (g:=Bb) F sc λcdv A outer s H E hr=>?_;unfold Bb;exact(J9 (JN (K9 (K7 (q_fn c_z22 hr rfl (J1 (QN.qe (QM ["plan"] [none] rfl rfl (JU (Ql k_Book (by decide) (J0 (pv 0)))) (λ_ _ _ _ _=>(JT (pgn 0 (Qb ["plan"])))) (λ_ _ _ _ _=>(Ql k_Plan (by decide) (J0 (pv 0)))))) J2)))) (J5 Kc) JP) (J5 (Qj PassesOwn.never rfl (JU (Ql k_Book (by decide) (J0 (pv 0)))) (JT (JM (i:=1) sc.nd rfl (.inl rfl))) (J5 (JN (K9 (K7 (q_fn c_z22 hr rfl (J1 (q_op Qr (Ql k_Plan (by decide) (J0 (pv 1))) (QN.qe (QM ["name", "how", "items"] [none,none,none] rfl rfl (JU (Ql k_Plan (by decide) (J0 (pv 1)))) (λ_ _ _ _ _=>(Kb [0,1,2] (QX rfl (JW (pgn 0 (Qb ["name", "how", "items"])) (JW (pgn 1 (Qb ["name", "how", "items"])) (JW (pgn 2 (Qb ["name", "how", "items"])) QV)))))) (λ_ _ _ _ _=>(J0 (pv 0)))))) J2)))) (J5 Kc) JP)))))
abbrev D5:Stmt:=top 46
def zvx:FnScope ["how"] ["how"] (JD D5):=JK
def zum {k:Nat}(F:Fun K "is_part" "is_part" D5 f fd)(m:Mg mg)  : FnOk P w K mg base CX0 (k+1) f fd ["how"] (SpD K KL):=by
 have sc:=zvx;refine fn_d (N:=["how"]) (ps:=["how"]) (g:=Bc) F sc λcdv A outer s H E hr=>?_;unfold Bc;exact(J5 (JZ (NY hr.units (J0 (pv 0)) (Q1 (J1 Q4 (J1 Q4 J2))))))
abbrev D6:Stmt:=top 43
def zvz:FnScope ["book", "givens", "plan", "name", "how", "items"] ["book"] (JD D6):=JK
def ztL {k:Nat}(F:Fun K "look_at_parts" "look_at_parts" D6 f fd)(m:Mg mg)(c_z28:zan P w K mg base "is_part" k ["how"] (SpD K KL)){D_Book:Addr}(k_Book:ClsD K mg "Book" D_Book ["plans"]){D_Plan:Addr}(k_Plan:ClsD K mg "Plan" D_Plan ["name", "givens", "rows"]):FnOk P w K mg base CX0 (k+1) f fd ["book"] (SpD K YY):=by
 have sc:=zvz;refine fn_d (N:=["book", "givens", "plan", "name", "how", "items"]) (ps:=["book"]) (g:=Bd) F sc λcdv A outer s H E hr=>?_;unfold Bd;exact(J9 (QZ (i:=1) sc.nd rfl (.inl rfl) Cf) (J5 (Qj PassesOwn.never rfl (JU (Ql k_Book (by decide) (J0 (pv 0)))) (JT (JM (i:=2) sc.nd rfl (.inl rfl))) (J9 (Qj PassesOwn.never rfl (JU (Ql k_Plan (by decide) (J0 (pv 2)))) (Kb [3,4,5] (QX rfl (JW (JM (i:=3) sc.nd rfl (.inl rfl)) (JW (JM (i:=4) sc.nd rfl (.inl rfl)) (JW (JM (i:=5) sc.nd rfl (.inl rfl)) QV))))) (J5 (JN (QW.qt (Xb (K7 (q_fn c_z28 hr rfl (J1 (J0 (pv 4)) J2))) (WZ (JY (o_ne hr.units) (Wn [1] (RZ (Qd hr) (J0 (pv 1)) (J0 (pv 4)) ⟨rfl,rfl,rfl,rfl⟩)) (Qf (x:= "len") Q6 rfl m.len_ Qy (J1 (J0 (pv 5)) J2)) (JX _))))) (J5 Kc) JP))) (J5 (Cg (Qd hr) (pv 1) (Ql k_Plan (by decide) (J0 (pv 2))) (Qf (x:= "len") Q6 rfl m.len_ Qy (J1 (Ql k_Plan (by decide) (J0 (pv 2))) J2))))))))
abbrev D7:Stmt:=top 42
def zvT:FnScope ["plan", "ahead", "name", "how", "items", "thing", "wait"] ["plan"] (JD D7):=JK
def zuV {k:Nat}(F:Fun K "look_at_items" "look_at_items" D7 f fd)(m:Mg mg)  {D_Plan:Addr}(k_Plan:ClsD K mg "Plan" D_Plan ["name", "givens", "rows"]):FnOk P w K mg base CX0 (k+1) f fd ["plan"] (SpD K X0):=by
 have sc:=zvT;refine fn_d (N:=["plan", "ahead", "name", "how", "items", "thing", "wait"]) (ps:=["plan"]) (g:=Be) F sc λcdv A outer s H E hr=>?_;unfold Be;exact(J9 (Qi (i:=1) sc.nd rfl (.inl rfl) (Qf (x:= "len") Q6 rfl m.len_ Qy (J1 (Ql k_Plan (by decide) (J0 (pv 0))) J2))) (J5 (Qj PassesOwn.never rfl (JU (Ql k_Plan (by decide) (J0 (pv 0)))) (Kb [2,3,4] (QX rfl (JW (JM (i:=2) sc.nd rfl (.inl rfl)) (JW (JM (i:=3) sc.nd rfl (.inl rfl)) (JW (JM (i:=4) sc.nd rfl (.inl rfl)) QV))))) (J9 (JN (K9 (Xn o_le o_le J6 (Qf (x:= "len") Q6 rfl m.len_ Qy (J1 (J0 (pv 4)) J2)) J6)) (J5 Kc) JP) (J9 (Qj PassesOwn.never rfl (JU (J0 (pv 4))) (Kb [5,6] (QX rfl (JW (JM (i:=5) sc.nd rfl (.inl rfl)) (JW (JM (i:=6) sc.nd rfl (.inl rfl)) QV)))) (J9 (JN (K9 (Xn o_le o_lt J6 (J0 (pv 5)) (J0 (pv 1)))) (J5 Kc) JP) (J5 (JN (JY o_ge (Qf (x:= "abs") b_abs rfl m.abs_ OX (J1 (J0 (pv 6)) J2)) (q_op FJ J6 J6) (JX _)) (J5 Kc) JP)))) (J5 (Ss (i:=1) sc.nd rfl (.inl rfl) J6)))))))
abbrev D8:Stmt:=top 41
def zuz:FnScope ["book", "plan"] ["book"] (JD D8):=JK
def zxw {k:Nat}(F:Fun K "look_at_plans" "look_at_plans" D8 f fd)(m:Mg mg)(c_z24:zan P w K mg base "look_at_items" k ["plan"] (SpD K X0)){D_Book:Addr}(k_Book:ClsD K mg "Book" D_Book ["plans"]){D_Plan:Addr}(k_Plan:ClsD K mg "Plan" D_Plan ["name", "givens", "rows"]):FnOk P w K mg base CX0 (k+1) f fd ["book"] (SpD K YZ):=by
 have sc:=zuz;refine fn_d (N:=["book", "plan"]) (ps:=["book"]) (g:=Bf) F sc λcdv A outer s H E hr=>?_;unfold Bf;exact(J9 (JN (K9 (Xn o_le o_le J6 (Qf (x:= "len") Q6 rfl m.len_ Qy (J1 (Ql k_Book (by decide) (J0 (pv 0))) J2)) J6)) (J5 Kc) JP) (J5 (Qj PassesOwn.never rfl (JU (Ql k_Book (by decide) (J0 (pv 0)))) (JT (JM (i:=1) sc.nd rfl (.inl rfl))) (J9 (JN (K9 (Xn o_le o_le J6 (Qf (x:= "len") Q6 rfl m.len_ Qy (J1 (Ql k_Plan (by decide) (J0 (pv 1))) J2)) J6)) (J5 Kc) JP) (J9 (JN (K9 (Xn o_le o_le J6 (Qf (x:= "len") Q6 rfl m.len_ Qy (J1 (Ql k_Plan (by decide) (J0 (pv 1))) J2)) J6)) (J5 Kc) JP) (J5 (XS (q_fn c_z24 hr rfl (J1 (J0 (pv 1)) J2)))))))))
abbrev D9:Stmt:=top 45
def zus:FnScope ["book", "told", "plan", "parts"] ["book"] (JD D9):=JK
def zul {k:Nat}(F:Fun K "weights" "weights" D9 f fd)(m:Mg mg)(c_z28:zan P w K mg base "is_part" k ["how"] (SpD K KL)){D_Book:Addr}(k_Book:ClsD K mg "Book" D_Book ["plans"]){D_Plan:Addr}(k_Plan:ClsD K mg "Plan" D_Plan ["name", "givens", "rows"]):FnOk P w K mg base CX0 (k+1) f fd ["book"] (SpN K Z0):=by
 have sc:=zus;refine fn_n (N:=["book", "told", "plan", "parts"]) (ps:=["book"]) (g:=Bg) F sc λcdv A outer s H E hr=>?_;unfold Bg;exact(J9 (QZ (i:=1) sc.nd rfl (.inr rfl) Cf) (J9 (Qj PassesOwn.never rfl (JU (Ql k_Book (by decide) (J0 (pv 0)))) (JT (JM (i:=2) sc.nd rfl (.inl rfl))) (J9 (RY [1] ["name", "how", "items", "told"] [none,none,none,some 1] sc.nd rfl (.inl rfl) rfl rfl (JU (Ql k_Plan (by decide) (J0 (pv 2)))) (λ_ _ _ _ _=>(Kb [0,1,2] (QX rfl (JW (pgn 0 (Qb ["name", "how", "items", "told"])) (JW (pgn 1 (Qb ["name", "how", "items", "told"])) (JW (pgn 2 (Qb ["name", "how", "items", "told"])) QV)))))) (λ_ _ _ _ _=>(K7 (q_fn c_z28 hr rfl (J1 (J0 (pv 1)) J2)))) (λ_ _ _ _ _=>(Qs (Qd hr) (J0 (pv 3)) (J0 (pv 1)) (λ_ _=>rfl) (λ_ _=>rfl)))) (J5 (Cg (Qd hr) (pv 1) (Ql k_Plan (by decide) (J0 (pv 2))) (q_op Qr (Qf (x:= "len") Q6 rfl m.len_ Qy (J1 (Ql k_Plan (by decide) (J0 (pv 2))) J2)) (Wn [3] (Qf (x:= "sum") (Gu rfl) rfl m.sum_ ER (J1 (J0 (pv 3)) J2)))))))) (J5 (Wo (pv 1)))))
abbrev DA:Stmt:=top 44
def zvt:FnScope ["book", "name", "own"] ["book"] (JD DA):=JK
def zvK {k:Nat}(F:Fun K "look_at_weights" "look_at_weights" DA f fd)(m:Mg mg)(c_z27:zan P w K mg base "weights" k ["book"] (SpN K Z0)):FnOk P w K mg base CX0 (k+1) f fd ["book"] (SpD K Z8):=by
 have sc:=zvt;refine fn_d (N:=["book", "name", "own"]) (ps:=["book"]) (g:=Bh) F sc λcdv A outer s H E hr=>?_;unfold Bh;exact(J5 (Qj PassesOwn.never rfl (Sr (Q2 c_z27 hr rfl (J1 (J0 (pv 0)) J2))) (Kb [1,2] (QX rfl (JW (JM (i:=1) sc.nd rfl (.inl rfl)) (JW (JM (i:=2) sc.nd rfl (.inl rfl)) QV)))) (J5 (JN (JY o_gt (J0 (pv 2)) J6 (JX _)) (J5 Kc) JP))))
abbrev DB:Stmt:=top 38
def zwQ:FnScope ["book"] ["book"] (JD DB):=JK
def zxf {k:Nat}(F:Fun K "looked" "looked" DB f fd)(m:Mg mg)(c_z21:zan P w K mg base "look_at_names" k ["book"] (SpD K YX))(c_z25:zan P w K mg base "look_at_parts" k ["book"] (SpD K YY))(c_z23:zan P w K mg base "look_at_plans" k ["book"] (SpD K YZ))(c_z26:zan P w K mg base "look_at_weights" k ["book"] (SpD K Z8)):FnOk P w K mg base CX0 (k+1) f fd ["book"] (SpD K ZD):=by
 have sc:=zwQ;refine fn_d (N:=["book"]) (ps:=["book"]) (g:=Bi) F sc λcdv A outer s H E hr=>?_;unfold Bi;exact(J9 (XS (q_fn c_z21 hr rfl (J1 (J0 (pv 0)) J2))) (J9 (XS (q_fn c_z23 hr rfl (J1 (J0 (pv 0)) J2))) (J9 (XS (q_fn c_z25 hr rfl (J1 (J0 (pv 0)) J2))) (J5 (XS (q_fn c_z26 hr rfl (J1 (J0 (pv 0)) J2)))))))
abbrev DC:Stmt:=top 30
def zx3:FnScope ["name", "many", "form", "rows"] ["name", "many", "form"] (JD DC):=JK
def zuy {k:Nat}(F:Fun K "planned" "planned" DC f fd)(m:Mg mg)  (ZJ:MkD P w K mg base "Plan" ["name", "givens", "rows"] 1 ["self", "name", "givens", "rows"] I_Plan)(h2:2<=k):FnOk P w K mg base CX0 (k+1) f fd ["name", "many", "form"] (SpN K ZE):=by
 have sc:=zx3;refine fn_n (N:=["name", "many", "form", "rows"]) (ps:=["name", "many", "form"]) (g:=Bj) F sc λcdv A outer s H E hr=>?_;unfold Bj;exact(J9 (Gm ["number", "row"] [none,none] sc.nd rfl (.inl rfl) rfl rfl (OW rfl m.enumerate_ (J1 (J0 (pv 2)) J2)) (λ_ _ _ _ _=>(Kb [0,1] (QX rfl (JW (pgn 0 (Qb ["number", "row"])) (JW (pgn 1 (Qb ["number", "row"])) QV))))) (λ_ _ _ _ _=>(Q1 (J1 (Hy (by decide) (J0 (pv 0))) (J1 Q4 (J1 (J0 (pv 1)) J2)))))) (J9 (Ki (pv 3) (Q1 (J1 Q4 (J1 Q4 (J1 (Wm (x:= "tuple") Xh rfl m.tuple_ WW (J1 (QN.qe (QM ["number", "many"] [none,some 1] rfl rfl (Ks rfl m.range_ (J1 (Qf (x:= "len") Q6 rfl m.len_ Qy (J1 (J0 (pv 2)) J2)) J2)) (λ_ _ _ _ _=>(JT (pgn 0 (Qb ["number", "many"])))) (λ_ _ _ _ _=>(Q1 (J1 (q_op Qr (J0 (pv 1)) (J0 (pv 0))) (J1 J6 J2)))))) J2)) J2)))) (λh1 h2=>QY Yr Ys Yt Kg h1 h2)) (J5 (WC [3] (V8 (HF ZJ (hr.mono h2) rfl (J1 (J0 (pv 0)) (J1 (QN.qe (QM ["thing"] [none] rfl rfl (Ks rfl m.range_ (J1 (J0 (pv 1)) J2)) (λ_ _ _ _ _=>(JT (pgn 0 (Qb ["thing"])))) (λ_ _ _ _ _=>(Hy (by decide) (J0 (pv 0)))))) (J1 (J0 (pv 3)) J2)))))))))
abbrev s_z0:Stmt:=top 9
def sc_z0:FnScope ["row", "waits", "thing", "wait"] ["row", "waits"] (JD s_z0):=JK
def ok_z0 {k:Nat}(F:Fun K "fits_in" "fits_in" s_z0 f fd)(m:Mg mg)  : FnOk P w K mg base CX0 (k+1) f fd ["row", "waits"] (SpD K F_z0):=by
 have sc:=sc_z0;refine fn_d (N:=["row", "waits", "thing", "wait"]) (ps:=["row", "waits"]) (g:=G_z0) F sc λcdv A outer s H E hr=>?_;unfold G_z0;exact(J9 (Qj PassesOwn.never rfl (JU (J0 (pv 0))) (Kb [2,3] (QX rfl (JW (JM (i:=2) sc.nd rfl (.inl rfl)) (JW (JM (i:=3) sc.nd rfl (.inl rfl)) QV)))) (J5 (JN (QW.qt (V6 (Aj hr.units (J0 (pv 2)) (J0 (pv 1))) (Xa (JY o_gt (J0 (pv 3)) (Qs (Qd hr) (J0 (pv 1)) (J0 (pv 2)) (λ_ _=>rfl) (λ_ _=>rfl)) (JX _))))) (J5 (JZ K6)) JP))) (J5 (JZ K6)))
abbrev s_z4:Stmt:=top 13
def sc_z4:FnScope ["row", "kept", "waits", "other"] ["row", "kept"] (JD s_z4):=JK
def ok_z4 {k:Nat}(F:Fun K "is_covered" "is_covered" s_z4 f fd)(m:Mg mg)(c_z0:zan P w K mg base "fits_in" k ["row", "waits"] (SpD K F_z0)):FnOk P w K mg base CX0 (k+1) f fd ["row", "kept"] (SpD K F_z4):=by
 have sc:=sc_z4;refine fn_d (N:=["row", "kept", "waits", "other"]) (ps:=["row", "kept"]) (g:=G_z4) F sc λcdv A outer s H E hr=>?_;unfold G_z4;exact(J9 (Qi (i:=2) sc.nd rfl (.inl rfl) (QN.qe (V7 (x:= "dict") (Al rfl) rfl m.dict_ ZU (J1 (J0 (pv 0)) J2)))) (J9 (Qj PassesOwn.never rfl (JU (J0 (pv 1))) (JT (JM (i:=3) sc.nd rfl (.inl rfl))) (J5 (JN (K7 (q_fn c_z0 hr rfl (J1 (J0 (pv 3)) (J1 (J0 (pv 2)) J2)))) (J5 (JZ K6)) JP))) (J5 (JZ K6))))
abbrev s_z1:Stmt:=top 10
def sc_z1:FnScope ["row", "other", "waits", "thing", "wait"] ["row", "other"] (JD s_z1):=JK
def ok_z1 {k:Nat}(F:Fun K "joined" "joined" s_z1 f fd)(m:Mg mg)  : FnOk P w K mg base CX0 (k+1) f fd ["row", "other"] (SpD K F_z1):=by
 have sc:=sc_z1;refine fn_d (N:=["row", "other", "waits", "thing", "wait"]) (ps:=["row", "other"]) (g:=G_z1) F sc λcdv A outer s H E hr=>?_;unfold G_z1;exact(J9 (QZ (i:=2) sc.nd rfl (.inl rfl) (V7 (x:= "dict") (Al rfl) rfl m.dict_ ZU (J1 (J0 (pv 0)) J2))) (J9 (Qj PassesOwn.never rfl (JU (J0 (pv 1))) (Kb [3,4] (QX rfl (JW (JM (i:=3) sc.nd rfl (.inl rfl)) (JW (JM (i:=4) sc.nd rfl (.inl rfl)) QV)))) (J5 (Cg (Qd hr) (pv 2) (J0 (pv 3)) (Qf (x:= "max") (FY rfl) rfl m.max_ BI (J1 (J0 (pv 4)) (J1 (Wn [2] (Om (Qd hr) (J0 (pv 2)) (J0 (pv 3)) (J0 (pv 4)) ⟨rfl,rfl,rfl,rfl⟩)) J2)))))) (J5 (WC [2] (JZ (Wm (x:= "tuple") Xh rfl m.tuple_ WW (J1 (Ow (λh=>XA (N5 rfl) rfl m.sorted_ XH (X8 (Ev PySem.F.plainAttrs_dict PySem.F.slot_dict_items PySem.F.type_dict_items Fv h) X7)) (J0 (pv 2))) J2)))))))
abbrev DE:Stmt:=top 21
def zwZ:FnScope ["form", "other", "rows", "rest", "row"] ["form", "other"] (JD DE):=JK
def zuZ {k:Nat}(F:Fun K "each_joined" "each_joined" DE f fd)(m:Mg mg)(c_z4:zan P w K mg base "is_covered" k ["row", "kept"] (SpD K F_z4))(c_z1:zan P w K mg base "joined" k ["row", "other"] (SpD K F_z1)):FnOk P w K mg base CX0 (k+1) f fd ["form", "other"] (SpN K X1):=by
 have sc:=zwZ;refine fn_n (N:=["form", "other", "rows", "rest", "row"]) (ps:=["form", "other"]) (g:=Bm) F sc λcdv A outer s H E hr=>?_;unfold Bm;exact(J9 (QZ (i:=2) sc.nd rfl (.inl rfl) (q_opN RJ (QN.qe (Gd ["row", "other"] [none,some 1] rfl rfl (JU (J0 (pv 0))) (λ_ _ _ _ _=>(JT (pgn 0 (Qb ["row", "other"])))) (λ_ _ _ _ _=>(K7 (q_fn c_z4 hr rfl (J1 (J0 (pv 0)) (J1 (J0 (pv 1)) J2))))) (λ_ _ _ _ _=>(J0 (pv 0))))) (QN.qe (Gd ["row", "form"] [none,some 0] rfl rfl (JU (J0 (pv 1))) (λ_ _ _ _ _=>(JT (pgn 0 (Qb ["row", "form"])))) (λ_ _ _ _ _=>(K7 (q_fn c_z4 hr rfl (J1 (J0 (pv 0)) (J1 (J0 (pv 1)) J2))))) (λ_ _ _ _ _=>(J0 (pv 0))))))) (J9 (Gn ["row", "form"] [none,some 0] sc.nd rfl (.inl rfl) rfl rfl (JU (J0 (pv 1))) (λ_ _ _ _ _=>(JT (pgn 0 (Qb ["row", "form"])))) (λ_ _ _ _ _=>(K9 (K7 (q_fn c_z4 hr rfl (J1 (J0 (pv 0)) (J1 (J0 (pv 1)) J2)))))) (λ_ _ _ _ _=>(J0 (pv 0)))) (J9 (Qj PassesOwn.never rfl (JU (J0 (pv 0))) (JT (JM (i:=4) sc.nd rfl (.inr rfl))) (J5 (JN (K9 (K7 (q_fn c_z4 hr rfl (J1 (J0 (pv 4)) (J1 (J0 (pv 1)) J2))))) (J5 (NJ (pv 2) (QM ["other_row", "row"] [none,some 4] rfl rfl (JU (J0 (pv 3))) (λ_ _ _ _ _=>(JT (pgn 0 (Qb ["other_row", "row"])))) (λ_ _ _ _ _=>(q_fn c_z1 hr rfl (J1 (J0 (pv 1)) (J1 (J0 (pv 0)) J2))))) (λh1 h2=>QY Yr PySem.F.slot_list_extend PySem.F.type_list_extend MB h1 h2))) JP))) (J5 (Wo (pv 2))))))
abbrev s_z3:Stmt:=top 12
def sc_z3:FnScope ["rows", "enough", "kept", "row"] ["rows", "enough"] (JD s_z3):=JK
def ok_z3 {k:Nat}(F:Fun K "lowest" "lowest" s_z3 f fd)(m:Mg mg)(c_z4:zan P w K mg base "is_covered" k ["row", "kept"] (SpD K F_z4)):FnOk P w K mg base CX0 (k+1) f fd ["rows", "enough"] (SpN K F_z3):=by
 have sc:=sc_z3;refine fn_n (N:=["rows", "enough", "kept", "row"]) (ps:=["rows", "enough"]) (g:=G_z3) F sc λcdv A outer s H E hr=>?_;unfold G_z3;exact(J9 (QZ (i:=2) sc.nd rfl (.inl rfl) (QJ J2)) (J9 (Qj PassesOwn.never rfl (JU (QN.qe (R8 (λh=>L2.ST.pe_sortLen rfl m.sorted_ rfl m.len_ h) (J1 (QN.qe (Rx (λh=>XA (L2.ST.call_sortedSet rfl hr.units) rfl m.sorted_ XH (X8 (ZR (L2.ST.call_setRows rfl hr.units) rfl m.set_ L2.bt_set h) X7)) (J1 (J0 (pv 0)) J2))) J2)))) (JT (JM (i:=3) sc.nd rfl (.inl rfl))) (J9 (JN (JY (o_eq hr.units) (Wn [2] (Qf (x:= "len") Q6 rfl m.len_ Qy (J1 (J0 (pv 2)) J2))) (J0 (pv 1)) (JX _)) (J5 NI) JP) (J5 (JN (K9 (K7 (Wn [2] (q_fn c_z4 hr rfl (J1 (J0 (pv 3)) (J1 (J0 (pv 2)) J2)))))) (J5 (Ki (pv 2) (J0 (pv 3)) (λh1 h2=>QY Yr Ys Yt Kg h1 h2))) JP)))) (J5 (Wo (pv 2)))))
abbrev DF:Stmt:=top 22
def zx8:FnScope ["rows", "most", "kept"] ["rows", "most"] (JD DF):=JK
def zwo {k:Nat}(F:Fun K "form_within" "form_within" DF f fd)(m:Mg mg)(c_z3:zan P w K mg base "lowest" k ["rows", "enough"] (SpN K F_z3)):FnOk P w K mg base CX0 (k+1) f fd ["rows", "most"] (SpN K Ke):=by
 have sc:=zx8;refine fn_n (N:=["rows", "most", "kept"]) (ps:=["rows", "most"]) (g:=Bn) F sc λcdv A outer s H E hr=>?_;unfold Bn;exact(J9 (Qi (i:=2) sc.nd rfl (.inl rfl) (QN.qe (Q2 c_z3 hr rfl (J1 (J0 (pv 0)) (J1 (q_op Qr (J0 (pv 1)) J6) J2))))) (J9 (JN (JY o_gt (Qf (x:= "len") Q6 rfl m.len_ Qy (J1 (J0 (pv 2)) J2)) (J0 (pv 1)) (JX _)) (J5 Kc) JP) (J5 (V8 (BU (x:= "sorted") (Ct hr.units) rfl m.sorted_ XH (J1 (J0 (pv 2)) J2))))))
abbrev s_z8:Stmt:=top 18
def sc_z8:FnScope ["forms", "most", "told", "form"] ["forms", "most"] (JD s_z8):=JK
def ok_z8 {k:Nat}(F:Fun K "all_of" "all_of" s_z8 f fd)(m:Mg mg)(c_z11:zan P w K mg base "each_joined" k ["form", "other"] (SpN K X1))(c_z12:zan P w K mg base "form_within" k ["rows", "most"] (SpN K Ke)):FnOk P w K mg base CX0 (k+1) f fd ["forms", "most"] (SpD K F_z8):=by
 have sc:=sc_z8;refine fn_d (N:=["forms", "most", "told", "form"]) (ps:=["forms", "most"]) (g:=G_z8) F sc λcdv A outer s H E hr=>?_;unfold G_z8;exact(J9 (Qi (i:=2) sc.nd rfl (.inl rfl) (QN.qe (Q2 c_z12 hr rfl (J1 (Qs (Qd hr) (J0 (pv 0)) J6 (λ_ _=>rfl) (λ_ _=>rfl)) (J1 (J0 (pv 1)) J2))))) (J9 (Qj PassesOwn.never rfl (JU (QN.qe (Y7 (J0 (pv 0)) (WI J6) Ww Ww))) (JT (JM (i:=3) sc.nd rfl (.inl rfl))) (J5 (Qi (i:=2) sc.nd rfl (.inl rfl) (QN.qe (Q2 c_z12 hr rfl (J1 (QN.qe (Q2 c_z11 hr rfl (J1 (J0 (pv 2)) (J1 (J0 (pv 3)) J2)))) (J1 (J0 (pv 1)) J2))))))) (J5 (JZ (J0 (pv 2))))))
abbrev s_z7:Stmt:=top 17
def sc_z7:FnScope ["forms", "most", "told", "form"] ["forms", "most"] (JD s_z7):=JK
def ok_z7 {k:Nat}(F:Fun K "first_of" "first_of" s_z7 f fd)(m:Mg mg)(c_z12:zan P w K mg base "form_within" k ["rows", "most"] (SpN K Ke)):FnOk P w K mg base CX0 (k+1) f fd ["forms", "most"] (SpN K F_z7):=by
 have sc:=sc_z7;refine fn_n (N:=["forms", "most", "told", "form"]) (ps:=["forms", "most"]) (g:=G_z7) F sc λcdv A outer s H E hr=>?_;unfold G_z7;exact(J9 (QZ (i:=2) sc.nd rfl (.inl rfl) (Q2 c_z12 hr rfl (J1 (Qs (Qd hr) (J0 (pv 0)) J6 (λ_ _=>rfl) (λ_ _=>rfl)) (J1 (J0 (pv 1)) J2)))) (J9 (Qj PassesOwn.never rfl (JU (QN.qe (Y7 (J0 (pv 0)) (WI J6) Ww Ww))) (JT (JM (i:=3) sc.nd rfl (.inl rfl))) (J5 (WC [2] (QZ (i:=2) sc.nd rfl (.inl rfl) (Q2 c_z12 hr rfl (J1 (q_op Qr (J0 (pv 2)) (J0 (pv 3))) (J1 (J0 (pv 1)) J2))))))) (J5 (Wo (pv 2)))))
abbrev DG:Stmt:=top 32
def zuM:FnScope ["book", "how", "forms", "most", "known"] ["book", "how", "forms", "most", "known"] (JD DG):=JK
def zwP {k:Nat}(F:Fun K "made_form" "made_form" DG f fd)(m:Mg mg)(c_z8:zan P w K mg base "all_of" k ["forms", "most"] (SpD K F_z8))(c_z7:zan P w K mg base "first_of" k ["forms", "most"] (SpN K F_z7)):FnOk P w K mg base CX0 (k+1) f fd ["book", "how", "forms", "most", "known"] (SpD K Wf):=by
 have sc:=zuM;refine fn_d (N:=["book", "how", "forms", "most", "known"]) (ps:=["book", "how", "forms", "most", "known"]) (g:=ZF) F sc λcdv A outer s H E hr=>?_;unfold ZF;exact(J9 (JN (JY (o_eq hr.units) (J0 (pv 1)) Q4 (JX _)) (J5 (JZ (q_fn c_z8 hr rfl (J1 (J0 (pv 2)) (J1 (J0 (pv 3)) J2))))) JP) (J9 (JN (JY (o_eq hr.units) (J0 (pv 1)) Q4 (JX _)) (J5 (JZ (QN.qe (Q2 c_z7 hr rfl (J1 (J0 (pv 2)) (J1 (J0 (pv 3)) J2)))))) JP) (J9 Kc (J5 Kc))))
abbrev DH:Stmt:=top 26
def zxF:FnScope ["book", "name", "plan"] ["book", "name"] (JD DH):=JK
def zwm {k:Nat}(F:Fun K "plan_by" "plan_by" DH f fd)(m:Mg mg)  {D_Book:Addr}(k_Book:ClsD K mg "Book" D_Book ["plans"]){D_Plan:Addr}(k_Plan:ClsD K mg "Plan" D_Plan ["name", "givens", "rows"]):FnOk P w K mg base CX0 (k+1) f fd ["book", "name"] (SpD K Wg):=by
 have sc:=zxF;refine fn_d (N:=["book", "name", "plan"]) (ps:=["book", "name"]) (g:=Bo) F sc λcdv A outer s H E hr=>?_;unfold Bo;exact(J9 (Qj PassesOwn.never rfl (JU (Ql k_Book (by decide) (J0 (pv 0)))) (JT (JM (i:=2) sc.nd rfl (.inl rfl))) (J5 (JN (JY (o_eq hr.units) (Ql k_Plan (by decide) (J0 (pv 2))) (J0 (pv 1)) (JX _)) (J5 (JZ (J0 (pv 2)))) JP))) (J5 Kc))
abbrev s_z5:Stmt:=top 15
def sc_z5:FnScope ["thing"] ["thing"] (JD s_z5):=JK
def ok_z5 {k:Nat}(F:Fun K "thing_form" "thing_form" s_z5 f fd)(m:Mg mg)  : FnOk P w K mg base CX0 (k+1) f fd ["thing"] (SpN K F_z5):=by
 have sc:=sc_z5;refine fn_n (N:=["thing"]) (ps:=["thing"]) (g:=G_z5) F sc λcdv A outer s H E hr=>?_;unfold G_z5;exact(J5 (V8 (QJ (J1 (Q1 (J1 (Q1 (J1 (J0 (pv 0)) (J1 J6 J2))) J2)) J2))))
abbrev s_z2:Stmt:=top 11
def sc_z2:FnScope ["row", "wait"] ["row", "wait"] (JD s_z2):=JK
def ok_z2 {k:Nat}(F:Fun K "shifted" "shifted" s_z2 f fd)(m:Mg mg)  : FnOk P w K mg base CX0 (k+1) f fd ["row", "wait"] (SpD K F_z2):=by
 have sc:=sc_z2;refine fn_d (N:=["row", "wait"]) (ps:=["row", "wait"]) (g:=G_z2) F sc λcdv A outer s H E hr=>?_;unfold G_z2;exact(J5 (JZ (Wm (x:= "tuple") Xh rfl m.tuple_ WW (J1 (QN.qe (QM ["thing", "own", "wait"] [none,none,some 1] rfl rfl (JU (J0 (pv 0))) (λ_ _ _ _ _=>(Kb [0,1] (QX rfl (JW (pgn 0 (Qb ["thing", "own", "wait"])) (JW (pgn 1 (Qb ["thing", "own", "wait"])) QV))))) (λ_ _ _ _ _=>(Q1 (J1 (J0 (pv 0)) (J1 (q_op Qr (J0 (pv 1)) (J0 (pv 2))) J2)))))) J2))))
abbrev s_z6:Stmt:=top 16
def sc_z6:FnScope ["form", "wait"] ["form", "wait"] (JD s_z6):=JK
def ok_z6 {k:Nat}(F:Fun K "waited" "waited" s_z6 f fd)(m:Mg mg)(c_z2:zan P w K mg base "shifted" k ["row", "wait"] (SpD K F_z2)):FnOk P w K mg base CX0 (k+1) f fd ["form", "wait"] (SpN K F_z6):=by
 have sc:=sc_z6;refine fn_n (N:=["form", "wait"]) (ps:=["form", "wait"]) (g:=G_z6) F sc λcdv A outer s H E hr=>?_;unfold G_z6;exact(J5 (V8 (QM ["row", "wait"] [none,some 1] rfl rfl (JU (J0 (pv 0))) (λ_ _ _ _ _=>(JT (pgn 0 (Qb ["row", "wait"])))) (λ_ _ _ _ _=>(q_fn c_z2 hr rfl (J1 (J0 (pv 0)) (J1 (J0 (pv 1)) J2)))))))
abbrev DI:Stmt:=top 31
def zww:FnScope ["book", "name", "most", "known", "plan", "told", "made", "how", "items", "forms"] ["book", "name", "most", "known"] (JD DI):=JK
def zt8 {k:Nat}(F:Fun K "forms_knowing" "forms_knowing" DI f fd)(m:Mg mg)(c_z18:zan P w K mg base "made_form" k ["book", "how", "forms", "most", "known"] (SpD K Wf))(c_z13:zan P w K mg base "plan_by" k ["book", "name"] (SpD K Wg))(c_z5:zan P w K mg base "thing_form" k ["thing"] (SpN K F_z5))(c_z6:zan P w K mg base "waited" k ["form", "wait"] (SpN K F_z6)){D_Plan:Addr}(k_Plan:ClsD K mg "Plan" D_Plan ["name", "givens", "rows"]):FnOk P w K mg base CX0 (k+1) f fd ["book", "name", "most", "known"] (SpN K X2):=by
 have sc:=zww;refine fn_n (N:=["book", "name", "most", "known", "plan", "told", "made", "how", "items", "forms"]) (ps:=["book", "name", "most", "known"]) (g:=Bp) F sc λcdv A outer s H E hr=>?_;unfold Bp;exact(J9 (Qi (i:=4) sc.nd rfl (.inl rfl) (q_fn c_z13 hr rfl (J1 (J0 (pv 0)) (J1 (J0 (pv 1)) J2)))) (J9 (QZ (i:=5) sc.nd rfl (.inr rfl) (QM ["thing"] [none] rfl rfl (Ks rfl m.range_ (J1 (Qf (x:= "len") Q6 rfl m.len_ Qy (J1 (Ql k_Plan (by decide) (J0 (pv 4))) J2)) J2)) (λ_ _ _ _ _=>(JT (pgn 0 (Qb ["thing"])))) (λ_ _ _ _ _=>(QN.qe (Q2 c_z5 hr rfl (J1 (J0 (pv 0)) J2)))))) (J9 (Qj PassesOwn.never rfl (JU (Ql k_Plan (by decide) (J0 (pv 4)))) (Kb [6,7,8] (QX rfl (JW (JM (i:=6) sc.nd rfl (.inl rfl)) (JW (JM (i:=7) sc.nd rfl (.inl rfl)) (JW (JM (i:=8) sc.nd rfl (.inl rfl)) QV))))) (J9 (SC ["thing", "wait", "told"] [none,none,some 5] 2 sc.nd rfl (.inl rfl) rfl rfl (JU (J0 (pv 8))) (λ_ _ _ _ _=>(Kb [0,1] (QX rfl (JW (pgn 0 (Qb ["thing", "wait", "told"])) (JW (pgn 1 (Qb ["thing", "wait", "told"])) QV))))) (λ_ _ _ _ _=>(QN.qe (Q2 c_z6 hr rfl (J1 (Cm (Qd hr) (pv 2) (J0 (pv 0)) (λ_ _=>rfl) (λ_ _=>rfl)) (J1 (J0 (pv 1)) J2)))))) (J5 (Ki (pv 5) (q_fn c_z18 hr rfl (J1 (J0 (pv 0)) (J1 (J0 (pv 7)) (J1 (J0 (pv 9)) (J1 (J0 (pv 2)) (J1 (J0 (pv 3)) J2)))))) (λh1 h2=>QY Yr Ys Yt Kg h1 h2))))) (J5 (Wo (pv 5))))))
abbrev DJ:Stmt:=top 28
def zwy:FnScope ["book", "name", "most"] ["book", "name", "most"] (JD DJ):=JK
def ztT {k:Nat}(F:Fun K "forms_of" "forms_of" DJ f fd)(m:Mg mg)(c_z17:zan P w K mg base "forms_knowing" k ["book", "name", "most", "known"] (SpN K X2)):FnOk P w K mg base CX0 (k+1) f fd ["book", "name", "most"] (SpN K X3):=by
 have sc:=zwy;refine fn_n (N:=["book", "name", "most"]) (ps:=["book", "name", "most"]) (g:=Bq) F sc λcdv A outer s H E hr=>?_;unfold Bq;exact(J5 (V8 (Q2 c_z17 hr rfl (J1 (J0 (pv 0)) (J1 (J0 (pv 1)) (J1 (J0 (pv 2)) (J1 (QN.qe Cf) J2)))))))
abbrev DK:Stmt:=top 29
def zv5:FnScope ["book", "name", "most"] ["book", "name", "most"] (JD DK):=JK
def zvn {k:Nat}(F:Fun K "told_form" "told_form" DK f fd)(m:Mg mg)(c_z14:zan P w K mg base "forms_of" k ["book", "name", "most"] (SpN K X3)):FnOk P w K mg base CX0 (k+1) f fd ["book", "name", "most"] (SpD K ZG):=by
 have sc:=zv5;refine fn_d (N:=["book", "name", "most"]) (ps:=["book", "name", "most"]) (g:=Br) F sc λcdv A outer s H E hr=>?_;unfold Br;exact(J5 (JZ (Qs (Qd hr) (QN.qe (Q2 c_z14 hr rfl (J1 (J0 (pv 0)) (J1 (J0 (pv 1)) (J1 (J0 (pv 2)) J2))))) (q_un Ai J6) (λ_ _=>rfl) (λ_ _=>rfl))))
abbrev DM:Stmt:=top 50
def zt9:FnScope ["book", "how", "hours"] ["book", "how", "hours"] (JD DM):=JK
def zwD {k:Nat}(F:Fun K "made_hour" "made_hour" DM f fd)(m:Mg mg)  : FnOk P w K mg base CX0 (k+1) f fd ["book", "how", "hours"] (SpD K WR):=by
 have sc:=zt9;refine fn_d (N:=["book", "how", "hours"]) (ps:=["book", "how", "hours"]) (g:=ZH) F sc λcdv A outer s H E hr=>?_;unfold ZH;exact(J9 (JN (JY (o_eq hr.units) (J0 (pv 1)) Q4 (JX _)) (J5 (JZ (Qf (x:= "max") (Od rfl) rfl m.max_ BI (J1 (J0 (pv 2)) J2)))) JP) (J9 (JN (JY (o_eq hr.units) (J0 (pv 1)) Q4 (JX _)) (J5 (JZ (Qf (x:= "min") (FZ rfl) rfl m.min_ BJ (J1 (J0 (pv 2)) J2)))) JP) (J5 Kc)))
abbrev DN:Stmt:=top 48
def zv1:FnScope ["book", "name", "hours", "told", "made", "how", "items"] ["book", "name", "hours"] (JD DN):=JK
def zvP {k:Nat}(F:Fun K "hours_of" "hours_of" DN f fd)(m:Mg mg)(c_z31:zan P w K mg base "made_hour" k ["book", "how", "hours"] (SpD K WR))(c_z13:zan P w K mg base "plan_by" k ["book", "name"] (SpD K Wg)){D_Plan:Addr}(k_Plan:ClsD K mg "Plan" D_Plan ["name", "givens", "rows"]):FnOk P w K mg base CX0 (k+1) f fd ["book", "name", "hours"] (SpN K X4):=by
 have sc:=zv1;refine fn_n (N:=["book", "name", "hours", "told", "made", "how", "items"]) (ps:=["book", "name", "hours"]) (g:=Bt) F sc λcdv A outer s H E hr=>?_;unfold Bt;exact(J9 (QZ (i:=3) sc.nd rfl (.inr rfl) (V7 (x:= "list") Y1 rfl m.list_ XI (J1 (J0 (pv 2)) J2))) (J9 (Qj PassesOwn.never rfl (JU (Ql k_Plan (by decide) (q_fn c_z13 hr rfl (J1 (J0 (pv 0)) (J1 (J0 (pv 1)) J2))))) (Kb [4,5,6] (QX rfl (JW (JM (i:=4) sc.nd rfl (.inl rfl)) (JW (JM (i:=5) sc.nd rfl (.inl rfl)) (JW (JM (i:=6) sc.nd rfl (.inl rfl)) QV))))) (J5 (Ki (pv 3) (Wn [3] (q_fn c_z31 hr rfl (J1 (J0 (pv 0)) (J1 (J0 (pv 5)) (J1 (QN.qe (QM ["thing", "wait", "told"] [none,none,some 3] rfl rfl (JU (J0 (pv 6))) (λ_ _ _ _ _=>(Kb [0,1] (QX rfl (JW (pgn 0 (Qb ["thing", "wait", "told"])) (JW (pgn 1 (Qb ["thing", "wait", "told"])) QV))))) (λ_ _ _ _ _=>(q_op Qr (Qs (Qd hr) (J0 (pv 2)) (J0 (pv 0)) (λ_ _=>rfl) (λ_ _=>rfl)) (J0 (pv 1)))))) J2))))) (λh1 h2=>QY Yr Ys Yt Kg h1 h2)))) (J5 (Wo (pv 3)))))
abbrev DO:Stmt:=top 49
def zv0:FnScope ["book", "name", "hours"] ["book", "name", "hours"] (JD DO):=JK
def ztH {k:Nat}(F:Fun K "told_hour" "told_hour" DO f fd)(m:Mg mg)(c_z29:zan P w K mg base "hours_of" k ["book", "name", "hours"] (SpN K X4)):FnOk P w K mg base CX0 (k+1) f fd ["book", "name", "hours"] (SpD K WS):=by
 have sc:=zv0;refine fn_d (N:=["book", "name", "hours"]) (ps:=["book", "name", "hours"]) (g:=Bu) F sc λcdv A outer s H E hr=>?_;unfold Bu;exact(J5 (JZ (Qs (Qd hr) (QN.qe (Q2 c_z29 hr rfl (J1 (J0 (pv 0)) (J1 (J0 (pv 1)) (J1 (J0 (pv 2)) J2))))) (q_un Ai J6) (λ_ _=>rfl) (λ_ _=>rfl))))
abbrev DP:Stmt:=top 67
def zv4:FnScope ["script", "things", "form", "many", "name", "handed", "plan", "rows", "book", "cell", "hours"] ["script"] (JD DP):=JK
def zvW {k:Nat}(F:Fun K "law" "law" DP f fd)(m:Mg mg)(c_z33:zan P w K mg base "_law_cell_at" k ["script", "k"] (SpD K Kd))(c_z44:zan P w K mg base "_law_comes" k ["form", "hours"] (SpD K WO))(c_z42:zan P w K mg base "_law_forms" k ["cells", "many", "things"] (SpN K YV))(c_z45:zan P w K mg base "_law_hours" k ["cell", "things"] (SpN K Xx))(c_z41:zan P w K mg base "_law_thin" k ["rows"] (SpN K W4))(c_z35:zan P w K mg base "_law_turns" k ["script", "start", "most"] (SpN K YW))(c_z46:zan P w K mg base "_law_wide" k ["cell"] (SpN K Xz))(c_z20:zan P w K mg base "looked" k ["book"] (SpD K ZD))(c_z16:zan P w K mg base "planned" k ["name", "many", "form"] (SpN K ZE))(c_z15:zan P w K mg base "told_form" k ["book", "name", "most"] (SpD K ZG))(c_z30:zan P w K mg base "told_hour" k ["book", "name", "hours"] (SpD K WS)){D_Plan:Addr}(k_Plan:ClsD K mg "Plan" D_Plan ["name", "givens", "rows"])(ZI:MkD P w K mg base "Book" ["plans"] 1 ["self", "plans"] I_Book)(h2:2<=k):FnOk P w K mg base CX0 (k+1) f fd ["script"] (SpD K zkD):=by
 have sc:=zv4;refine fn_d (N:=["script", "things", "form", "many", "name", "handed", "plan", "rows", "book", "cell", "hours"]) (ps:=["script"]) (g:=Bv) F sc λcdv A outer s H E hr=>?_;unfold Bv
 exact(J9 (Qi (i:=1) sc.nd rfl (.inl rfl) (Qs (Qd hr) (QN.qe (QJ (J1 J6 (J1 J6 (J1 J6 (J1 J6 (J1 J6 (J1 J6 J2)))))))) (q_op Q9 (q_fn c_z33 hr rfl (J1 (J0 (pv 0)) (J1 J6 J2))) J6) (λ_ _=>rfl) (λ_ _=>rfl))) (J9 (Qi (i:=2) sc.nd rfl (.inr rfl) (Qs (Qd hr) (QN.qe (Q2 c_z42 hr rfl (J1 (QN.qe (Q2 c_z35 hr rfl (J1 (J0 (pv 0)) (J1 J6 (J1 J6 J2))))) (J1 J6 (J1 (J0 (pv 1)) J2))))) J6 (λ_ _=>rfl) (λ_ _=>rfl))) (J9 (JN (JY (o_eq hr.units) (q_op Q9 (q_op V9 (q_fn c_z33 hr rfl (J1 (J0 (pv 0)) (J1 J6 J2))) J6) J6) J6 (JX _)) (J9 (Qi (i:=1) sc.nd rfl (.inl rfl) J6) (J5 (Qi (i:=2) sc.nd rfl (.inr rfl) (QN.qe (Q2 c_z41 hr rfl (J1 (QN.qe (Q2 c_z46 hr rfl (J1 (q_fn c_z33 hr rfl (J1 (J0 (pv 0)) (J1 J6 J2))) J2))) J2)))))) JP) (J9 (Qi (i:=3) sc.nd rfl (.inr rfl) (q_op Qr (J0 (pv 1)) (q_op Q9 (q_op V9 (q_fn c_z33 hr rfl (J1 (J0 (pv 0)) (J1 J6 J2))) J6) (q_op Ag J6 (J0 (pv 1)))))) (J9 (Qi (i:=4) sc.nd rfl (.inl rfl) (Qs (Qd hr) (QN.qe (QJ (J1 Q4 (J1 Q4 (J1 Q4 (J1 Q4 (J1 Q4 (J1 Q4 J2)))))))) (q_op Q9 (q_fn c_z33 hr rfl (J1 (J0 (pv 0)) (J1 J6 J2))) J6) (λ_ _=>rfl) (λ_ _=>rfl))) (J9 (Qi (i:=5) sc.nd rfl (.inl rfl) (QN.qe (V7 (x:= "list") Y1 rfl m.list_ XI (J1 (J0 (pv 2)) J2)))) (J9 (Qi (i:=6) sc.nd rfl (.inl rfl) (QN.qe (Q2 c_z16 hr rfl (J1 (J0 (pv 4)) (J1 (J0 (pv 3)) (J1 (J0 (pv 5)) J2)))))) (J9 (Gm ["k", "form"] [none,some 2] sc.nd rfl (.inl rfl) rfl rfl (Ks rfl m.range_ (J1 (Qf (x:= "len") Q6 rfl m.len_ Qy (J1 (J0 (pv 2)) J2)) J2)) (λ_ _ _ _ _=>(JT (pgn 0 (Qb ["k", "form"])))) (λ_ _ _ _ _=>(Q1 (J1 (q_op Qr Q4 (Wm (x:= "str") HB rfl m.str_ ES (J1 (J0 (pv 0)) J2))) (J1 Q4 (J1 (Qs (Qd hr) (J0 (pv 1)) (J0 (pv 0)) (λ_ _=>rfl) (λ_ _=>rfl)) J2)))))) (J9 (Ki (pv 7) (Q1 (J1 Q4 (J1 Q4 (J1 (Wm (x:= "tuple") Xh rfl m.tuple_ WW (J1 (QN.qe (QM ["k", "many"] [none,some 3] rfl rfl (Ks rfl m.range_ (J1 (Qf (x:= "len") Q6 rfl m.len_ Qy (J1 (J0 (pv 2)) J2)) J2)) (λ_ _ _ _ _=>(JT (pgn 0 (Qb ["k", "many"])))) (λ_ _ _ _ _=>(Q1 (J1 (q_op Qr (J0 (pv 1)) (J0 (pv 0))) (J1 J6 J2)))))) J2)) J2)))) (λh1 h2=>QY Yr Ys Yt Kg h1 h2)) (J9 (JN (QW.qt (V6 (JY (o_ne hr.units) (J0 (pv 5)) (J0 (pv 2)) (JX _)) (V6 (JY (o_ne hr.units) (Ql k_Plan (by decide) (J0 (pv 6))) (J0 (pv 4)) (JX _)) (V6 (JY (o_ne hr.units) (Ql k_Plan (by decide) (J0 (pv 6))) (QN.qe (QM ["k"] [none] rfl rfl (Ks rfl m.range_ (J1 (J0 (pv 3)) J2)) (λ_ _ _ _ _=>(JT (pgn 0 (Qb ["k"])))) (λ_ _ _ _ _=>(q_op Qr Q4 (Wm (x:= "str") HB rfl m.str_ ES (J1 (J0 (pv 0)) J2)))))) (JX _)) (Xa (XR [7] (JY (o_ne hr.units) (Ql k_Plan (by decide) (J0 (pv 6))) (J0 (pv 7)) (JX _)))))))) (J5 (JZ K6)) JP) (J9 (Qi (i:=8) sc.nd rfl (.inl rfl) (QN.qe (HF ZI (hr.mono h2) rfl (J1 (QN.qe (QJ (J1 (J0 (pv 6)) J2))) J2)))) (J9 (JN (QW.qt (V6 (O1 (q_fn c_z20 hr rfl (J1 (J0 (pv 8)) J2))) (Xa (JY (o_ne hr.units) (q_fn c_z15 hr rfl (J1 (J0 (pv 8)) (J1 (J0 (pv 4)) (J1 J6 J2)))) (J0 (pv 2)) (JX _))))) (J5 (JZ K6)) JP) (J9 (Qj PassesOwn.never rfl (JU (QN.qe (Y7 (J0 (pv 0)) Ww (WI J6) Ww))) (JT (JM (i:=9) sc.nd rfl (.inl rfl))) (J9 (Qi (i:=10) sc.nd rfl (.inl rfl) (QN.qe (Q2 c_z45 hr rfl (J1 (J0 (pv 9)) (J1 (J0 (pv 3)) J2))))) (J5 (JN (JY (o_ne hr.units) (q_fn c_z30 hr rfl (J1 (J0 (pv 8)) (J1 (J0 (pv 4)) (J1 (J0 (pv 10)) J2)))) (q_fn c_z44 hr rfl (J1 (J0 (pv 2)) (J1 (J0 (pv 10)) J2))) (JX _)) (J5 (JZ K6)) JP)))) (J5 (JZ K6)))))))))))))))
end
def Bw (K:W.Frag):Sp:=λvs H Q _=>∃(a:Addr) (ns:Ye),vs=[.ref a]/\SqL K H a (ns.map V.int)/\ns.length<=63/\∀H',Q (.bl true) H'
def zsa (K:W.Frag)(vs:Yw)(H:Hp)(Q:VK)(E:XK)(h:Bw K vs H Q E):SpD K zkD vs H Q E:=by
 obtain⟨a,ns,rfl,hS,hl,q⟩:=h;refine⟨H,[.scr ns],Same.refl _,IsDs.mk (IsD.scr_iff.mpr ⟨a,rfl,hS⟩) .nil,?_⟩;rw[law_true ns hl];intro v F' H' e i;rw[IsD.bl_iff.mp i];exact q H'
def all_mk {l:W.OpenLaw}{w:World}{K:W.Frag}{h:Heap}{mg:Yc}{fa:Addr}(X:K.In h)(G:h.Ns mainGlobals mg)(hfa:mg "law" = some (.ref fa))
 {t_FIGURES:Tok}
 {p_KEPT_WORDS:Addr} {dd_KEPT_WORDS:Option Addr} {n_KEPT_WORDS:Nat} {sl_KEPT_WORDS:Array (Option Value)} {t0_KEPT_WORDS t1_KEPT_WORDS t2_KEPT_WORDS t3_KEPT_WORDS t4_KEPT_WORDS:Tok}
 {t_LETTERS:Tok}
 (d_z33:zaK K "_law_cell_at" Dl)
 (d_z43:zaK K "_law_done" Dm)
 (d_z44:zaK K "_law_comes" Dp)
 (d_z34:zaK K "_law_mixed" Dq)
 (d_z36:zaK K "_law_number" Dr)
 (d_z37:zaK K "_law_row" Ds)
 (d_z38:zaK K "_law_varied" Dt)
 (d_z39:zaK K "_law_list" Du)
 (d_z40:zaK K "_law_beneath" Dv)
 (d_z41:zaK K "_law_thin" Dw)
 (d_z42:zaK K "_law_forms" Dx)
 (d_z45:zaK K "_law_hours" Dy)
 (d_z35:zaK K "_law_turns" Dz)
 (d_z46:zaK K "_law_wide" D0)
 (d_z19:zaK K "is_name" D1)
 (d_z22:zaK K "are_names" D3)
 (d_z21:zaK K "look_at_names" D4)
 (d_z28:zaK K "is_part" D5)
 (d_z25:zaK K "look_at_parts" D6)
 (d_z24:zaK K "look_at_items" D7)
 (d_z23:zaK K "look_at_plans" D8)
 (d_z27:zaK K "weights" D9)
 (d_z26:zaK K "look_at_weights" DA)
 (d_z20:zaK K "looked" DB)
 (d_z16:zaK K "planned" DC)
 (d_z0:zaK K "fits_in" s_z0)
 (d_z4:zaK K "is_covered" s_z4)
 (d_z1:zaK K "joined" s_z1)
 (d_z11:zaK K "each_joined" DE)
 (d_z3:zaK K "lowest" s_z3)
 (d_z12:zaK K "form_within" DF)
 (d_z8:zaK K "all_of" s_z8)
 (d_z7:zaK K "first_of" s_z7)
 (d_z18:zaK K "made_form" DG)
 (d_z13:zaK K "plan_by" DH)
 (d_z5:zaK K "thing_form" s_z5)
 (d_z2:zaK K "shifted" s_z2)
 (d_z6:zaK K "waited" s_z6)
 (d_z17:zaK K "forms_knowing" DI)
 (d_z14:zaK K "forms_of" DJ)
 (d_z15:zaK K "told_form" DK)
 (d_z31:zaK K "made_hour" DM)
 (d_z29:zaK K "hours_of" DN)
 (d_z30:zaK K "told_hour" DO)
 (d_law:zaK K "law" DP)
 (g_FIGURES:W.nsIn K mainGlobals "FIGURES" = some (some (.str "0123456789" t_FIGURES)))
 (g_KEPT_WORDS:W.nsIn K mainGlobals "KEPT_WORDS" = some (some (.ref p_KEPT_WORDS))) (h_KEPT_WORDS:K.lookup p_KEPT_WORDS=some ⟨.type "tuple",dd_KEPT_WORDS,.seq #[.str "plan" t0_KEPT_WORDS,.str "given" t1_KEPT_WORDS,.str "all" t2_KEPT_WORDS,.str "first" t3_KEPT_WORDS,.str "part" t4_KEPT_WORDS] n_KEPT_WORDS,sl_KEPT_WORDS⟩)
 (g_LETTERS:W.nsIn K mainGlobals "LETTERS" = some (some (.str "abcdefghijklmnopqrstuvwxyz" t_LETTERS)))
 (l_Book:HG K "Book" "Book.__init__" ["plans"] ZI)
 (l_Plan:HG K "Plan" "Plan.__init__" ["name", "givens", "rows"] ZJ)
 (z_abs:W.nsIn K mainGlobals "abs" = some none)
 (z_all:W.nsIn K mainGlobals "all" = some none)
 (z_dict:W.nsIn K mainGlobals "dict" = some none)
 (z_enumerate:W.nsIn K mainGlobals "enumerate" = some none)
 (z_len:W.nsIn K mainGlobals "len" = some none)
 (z_list:W.nsIn K mainGlobals "list" = some none)
 (z_max:W.nsIn K mainGlobals "max" = some none)
 (z_min:W.nsIn K mainGlobals "min" = some none)
 (z_range:W.nsIn K mainGlobals "range" = some none)
 (z_set:W.nsIn K mainGlobals "set" = some none)
 (z_sorted:W.nsIn K mainGlobals "sorted" = some none)
 (z_str:W.nsIn K mainGlobals "str" = some none)
 (z_sum:W.nsIn K mainGlobals "sum" = some none)
 (z_tuple:W.nsIn K mainGlobals "tuple" = some none):
 ∃fd:FuncData,(∀(s:Shared) (v:Value),BindsTo s fd ⟨[v],[]⟩ [("script",v)])/\∀base:Heap,K.In base->base.Ns mainGlobals mg->FnOk l.prog w K mg base CX0 10 fa fd ["script"] (Bw K):=by
 obtain⟨f_law,fd_law,a_law,zkD⟩:=d_law;have e:=hfa.symm.trans (W.mg_of X G a_law);cases e;have m:Mg mg:=⟨W.mg_none_of X G z_abs,W.mg_none_of X G z_all,W.mg_none_of X G z_dict,W.mg_none_of X G z_enumerate,W.mg_none_of X G z_len,W.mg_none_of X G z_list,W.mg_none_of X G z_max,W.mg_none_of X G z_min,W.mg_none_of X G z_range,W.mg_none_of X G z_set,W.mg_none_of X G z_sorted,W.mg_none_of X G z_str,W.mg_none_of X G z_sum,W.mg_none_of X G z_tuple⟩;have w_FIGURES:=W.mg_of X G g_FIGURES;have y_KEPT_WORDS:KTup K mg "KEPT_WORDS" ["plan", "given", "all", "first", "part"]:=⟨_,W.mg_of X G g_KEPT_WORDS,λH=>.inr ⟨_,_,_,h_KEPT_WORDS,rfl,rfl,by show 5<=sizeLine;decide,.cons ⟨_,rfl⟩ (.cons ⟨_,rfl⟩ (.cons ⟨_,rfl⟩ (.cons ⟨_,rfl⟩ (.cons ⟨_,rfl⟩ .nil))))⟩⟩;have w_LETTERS:=W.mg_of X G g_LETTERS;obtain⟨D_Book,fI_Book,fdI_Book,l1_Book,l2_Book,l3_Book,l4_Book,l5_Book⟩:=l_Book;have k_Book:ClsD K mg "Book" D_Book ["plans"]:=⟨l1_Book,W.mg_of X G l1_Book,l2_Book,l3_Book⟩;obtain⟨D_Plan,fI_Plan,fdI_Plan,l1_Plan,l2_Plan,l3_Plan,l4_Plan,l5_Plan⟩:=l_Plan;have k_Plan:ClsD K mg "Plan" D_Plan ["name", "givens", "rows"]:=⟨l1_Plan,W.mg_of X G l1_Plan,l2_Plan,l3_Plan⟩;refine⟨fd_law,(by obtain⟨_,_,_,_,_,_,_,_,_,rfl,_,_⟩:=id zkD.ex;exact λs v=>.of_eq rfl),λbase _ _=>?_⟩
 have j_Book:MkD l.prog w K mg base "Book" ["plans"] 1 ["self", "plans"] My.I_Book:=⟨_,_,_,k_Book,l4_Book,ztc l5_Book m k_Book,l5_Book.binds λ_ _ _ _ _ _=>us2 λ_ _=>rfl⟩;have j_Plan:MkD l.prog w K mg base "Plan" ["name", "givens", "rows"] 1 ["self", "name", "givens", "rows"] My.I_Plan:=⟨_,_,_,k_Plan,l4_Plan,zr5 l5_Plan m k_Plan,l5_Plan.binds λ_ _ _ _ _ _=>us4 λ_ _ _ _=>rfl⟩;have C_z33:=d_z33.callee (P:=l.prog) (w:=w) (base:=base) X G (λF=>zvV (k:=0) F m) λ_ _ _ _ _ _=>us2 λ_ _=>rfl;have C_z43:=d_z43.callee (P:=l.prog) (w:=w) (base:=base) X G (λF=>zvy (k:=0) F m) λ_ _ _ _ _ _=>us2 λ_ _=>rfl;have C_z44:=d_z44.callee (P:=l.prog) (w:=w) (base:=base) X G (λF=>zuO (k:=1) F m (C_z43.mono (by decide))) λ_ _ _ _ _ _=>us2 λ_ _=>rfl;have C_z34:=d_z34.callee (P:=l.prog) (w:=w) (base:=base) X G (λF=>zue (k:=0) F m) λ_ _ _ _ _ _=>us2 λ_ _=>rfl;have C_z36:=d_z36.callee (P:=l.prog) (w:=w) (base:=base) X G (λF=>zvE (k:=1) F m (C_z34.mono (by decide))) λ_ _ _ _ _ _=>us2 λ_ _=>rfl;have C_z37:=d_z37.callee (P:=l.prog) (w:=w) (base:=base) X G (λF=>zwL (k:=2) F m (C_z34.mono (by decide)) (C_z36.mono (by decide))) λ_ _ _ _ _ _=>us2 λ_ _=>rfl;have C_z38:=d_z38.callee (P:=l.prog) (w:=w) (base:=base) X G (λF=>zvG (k:=2) F m (C_z34.mono (by decide)) (C_z36.mono (by decide))) λ_ _ _ _ _ _=>us3 λ_ _ _=>rfl
 have C_z39:=d_z39.callee (P:=l.prog) (w:=w) (base:=base) X G (λF=>zuv (k:=3) F m (C_z37.mono (by decide)) (C_z38.mono (by decide))) λ_ _ _ _ _ _=>us2 λ_ _=>rfl;have C_z40:=d_z40.callee (P:=l.prog) (w:=w) (base:=base) X G (λF=>zuu (k:=0) F m) λ_ _ _ _ _ _=>us2 λ_ _=>rfl;have C_z41:=d_z41.callee (P:=l.prog) (w:=w) (base:=base) X G (λF=>zxp (k:=1) F m (C_z40.mono (by decide))) λ_ _ _ _ _ _=>us1 λ_=>rfl;have C_z42:=d_z42.callee (P:=l.prog) (w:=w) (base:=base) X G (λF=>zuh (k:=4) F m (C_z39.mono (by decide)) (C_z41.mono (by decide))) λ_ _ _ _ _ _=>us3 λ_ _ _=>rfl;have C_z45:=d_z45.callee (P:=l.prog) (w:=w) (base:=base) X G (λF=>zvH (k:=2) F m (C_z36.mono (by decide))) λ_ _ _ _ _ _=>us2 λ_ _=>rfl;have C_z35:=d_z35.callee (P:=l.prog) (w:=w) (base:=base) X G (λF=>zx7 (k:=0) F m) λ_ _ _ _ _ _=>us3 λ_ _ _=>rfl;have C_z46:=d_z46.callee (P:=l.prog) (w:=w) (base:=base) X G (λF=>zuR (k:=2) F m (C_z36.mono (by decide))) λ_ _ _ _ _ _=>us1 λ_=>rfl;have C_z19:=d_z19.callee (P:=l.prog) (w:=w) (base:=base) X G (λF=>ztR (k:=0) F m w_FIGURES y_KEPT_WORDS w_LETTERS) λ_ _ _ _ _ _=>us1 λ_=>rfl;have C_z22:=d_z22.callee (P:=l.prog) (w:=w) (base:=base) X G (λF=>zv8 (k:=1) F m (C_z19.mono (by decide))) λ_ _ _ _ _ _=>us1 λ_=>rfl;have C_z21:=d_z21.callee (P:=l.prog) (w:=w) (base:=base) X G (λF=>zwS (k:=2) F m (C_z22.mono (by decide)) k_Book k_Plan) λ_ _ _ _ _ _=>us1 λ_=>rfl
 have C_z28:=d_z28.callee (P:=l.prog) (w:=w) (base:=base) X G (λF=>zum (k:=0) F m) λ_ _ _ _ _ _=>us1 λ_=>rfl;have C_z25:=d_z25.callee (P:=l.prog) (w:=w) (base:=base) X G (λF=>ztL (k:=1) F m (C_z28.mono (by decide)) k_Book k_Plan) λ_ _ _ _ _ _=>us1 λ_=>rfl;have C_z24:=d_z24.callee (P:=l.prog) (w:=w) (base:=base) X G (λF=>zuV (k:=0) F m k_Plan) λ_ _ _ _ _ _=>us1 λ_=>rfl;have C_z23:=d_z23.callee (P:=l.prog) (w:=w) (base:=base) X G (λF=>zxw (k:=1) F m (C_z24.mono (by decide)) k_Book k_Plan) λ_ _ _ _ _ _=>us1 λ_=>rfl;have C_z27:=d_z27.callee (P:=l.prog) (w:=w) (base:=base) X G (λF=>zul (k:=1) F m (C_z28.mono (by decide)) k_Book k_Plan) λ_ _ _ _ _ _=>us1 λ_=>rfl;have C_z26:=d_z26.callee (P:=l.prog) (w:=w) (base:=base) X G (λF=>zvK (k:=2) F m (C_z27.mono (by decide))) λ_ _ _ _ _ _=>us1 λ_=>rfl;have C_z20:=d_z20.callee (P:=l.prog) (w:=w) (base:=base) X G (λF=>zxf (k:=3) F m (C_z21.mono (by decide)) (C_z25.mono (by decide)) (C_z23.mono (by decide)) (C_z26.mono (by decide))) λ_ _ _ _ _ _=>us1 λ_=>rfl;have C_z16:=d_z16.callee (P:=l.prog) (w:=w) (base:=base) X G (λF=>zuy (k:=2) F m j_Plan (by decide)) λ_ _ _ _ _ _=>us3 λ_ _ _=>rfl;have C_z0:=d_z0.callee (P:=l.prog) (w:=w) (base:=base) X G (λF=>ok_z0 (k:=0) F m) λ_ _ _ _ _ _=>us2 λ_ _=>rfl;have C_z4:=d_z4.callee (P:=l.prog) (w:=w) (base:=base) X G (λF=>ok_z4 (k:=1) F m (C_z0.mono (by decide))) λ_ _ _ _ _ _=>us2 λ_ _=>rfl
 have C_z1:=d_z1.callee (P:=l.prog) (w:=w) (base:=base) X G (λF=>ok_z1 (k:=0) F m) λ_ _ _ _ _ _=>us2 λ_ _=>rfl;have C_z11:=d_z11.callee (P:=l.prog) (w:=w) (base:=base) X G (λF=>zuZ (k:=2) F m (C_z4.mono (by decide)) (C_z1.mono (by decide))) λ_ _ _ _ _ _=>us2 λ_ _=>rfl;have C_z3:=d_z3.callee (P:=l.prog) (w:=w) (base:=base) X G (λF=>ok_z3 (k:=2) F m (C_z4.mono (by decide))) λ_ _ _ _ _ _=>us2 λ_ _=>rfl;have C_z12:=d_z12.callee (P:=l.prog) (w:=w) (base:=base) X G (λF=>zwo (k:=3) F m (C_z3.mono (by decide))) λ_ _ _ _ _ _=>us2 λ_ _=>rfl;have C_z8:=d_z8.callee (P:=l.prog) (w:=w) (base:=base) X G (λF=>ok_z8 (k:=4) F m (C_z11.mono (by decide)) (C_z12.mono (by decide))) λ_ _ _ _ _ _=>us2 λ_ _=>rfl;have C_z7:=d_z7.callee (P:=l.prog) (w:=w) (base:=base) X G (λF=>ok_z7 (k:=4) F m (C_z12.mono (by decide))) λ_ _ _ _ _ _=>us2 λ_ _=>rfl;have C_z18:=d_z18.callee (P:=l.prog) (w:=w) (base:=base) X G (λF=>zwP (k:=5) F m (C_z8.mono (by decide)) (C_z7.mono (by decide))) λ_ _ _ _ _ _=>us5 λ_ _ _ _ _=>rfl;have C_z13:=d_z13.callee (P:=l.prog) (w:=w) (base:=base) X G (λF=>zwm (k:=0) F m k_Book k_Plan) λ_ _ _ _ _ _=>us2 λ_ _=>rfl;have C_z5:=d_z5.callee (P:=l.prog) (w:=w) (base:=base) X G (λF=>ok_z5 (k:=0) F m) λ_ _ _ _ _ _=>us1 λ_=>rfl;have C_z2:=d_z2.callee (P:=l.prog) (w:=w) (base:=base) X G (λF=>ok_z2 (k:=0) F m) λ_ _ _ _ _ _=>us2 λ_ _=>rfl
 have C_z6:=d_z6.callee (P:=l.prog) (w:=w) (base:=base) X G (λF=>ok_z6 (k:=1) F m (C_z2.mono (by decide))) λ_ _ _ _ _ _=>us2 λ_ _=>rfl;have C_z17:=d_z17.callee (P:=l.prog) (w:=w) (base:=base) X G (λF=>zt8 (k:=6) F m (C_z18.mono (by decide)) (C_z13.mono (by decide)) (C_z5.mono (by decide)) (C_z6.mono (by decide)) k_Plan) λ_ _ _ _ _ _=>us4 λ_ _ _ _=>rfl;have C_z14:=d_z14.callee (P:=l.prog) (w:=w) (base:=base) X G (λF=>ztT (k:=7) F m (C_z17.mono (by decide))) λ_ _ _ _ _ _=>us3 λ_ _ _=>rfl;have C_z15:=d_z15.callee (P:=l.prog) (w:=w) (base:=base) X G (λF=>zvn (k:=8) F m (C_z14.mono (by decide))) λ_ _ _ _ _ _=>us3 λ_ _ _=>rfl;have C_z31:=d_z31.callee (P:=l.prog) (w:=w) (base:=base) X G (λF=>zwD (k:=0) F m) λ_ _ _ _ _ _=>us3 λ_ _ _=>rfl;have C_z29:=d_z29.callee (P:=l.prog) (w:=w) (base:=base) X G (λF=>zvP (k:=1) F m (C_z31.mono (by decide)) (C_z13.mono (by decide)) k_Plan) λ_ _ _ _ _ _=>us3 λ_ _ _=>rfl;have C_z30:=d_z30.callee (P:=l.prog) (w:=w) (base:=base) X G (λF=>ztH (k:=2) F m (C_z29.mono (by decide))) λ_ _ _ _ _ _=>us3 λ_ _ _=>rfl;exact((zvW (k:=9) (P:=l.prog) (w:=w) (base:=base) zkD m (C_z33.mono (by decide)) (C_z44.mono (by decide)) (C_z42.mono (by decide)) (C_z45.mono (by decide)) (C_z41.mono (by decide)) (C_z35.mono (by decide)) (C_z46.mono (by decide)) (C_z20.mono (by decide)) (C_z16.mono (by decide)) (C_z15.mono (by decide)) (C_z30.mono (by decide)) k_Plan j_Book (by decide)).mono (by decide)).imp (zsa K)
def walk {l:W.OpenLaw}{q:Program}{loose:Yh}{XP:(Yc)->Heap->Prop}{YP:World->Heap->Prop}{d:DefRec}{K:Params->W.Frag}(hn:l.most=some 63)(hdf:d.params.defaults=[])
 (hY:∀(w:World) (h:Heap),YP w h->(K w.params).In h)
 (F:∀(w:World) (mg:Yc) (fa:Addr) (h:Heap),(K w.params).In h->h.Ns mainGlobals mg->mg d.name=some (.ref fa) ->
  ∃fd:FuncData,(∀(s:Shared) (u:Value),BindsTo s fd ⟨[u],[]⟩ [("script",u)])/\∀base:Heap,(K w.params).In base->base.Ns mainGlobals mg->FnOk l.prog w (K w.params) mg base CX0 10 fa fd ["script"] (Bw (K w.params))):
 W.WalkO q loose XP YP l.row.toRowW d [] (λf vs=>PySem.call f vs):=
 L2.walk_of (n:=63) (k:=10) (x:= "script") (CX:=λ_=>CX0) (sp:=λw=>Bw (K w.params)) hn (by decide) hdf ⟨rfl,by decide,by decide⟩ hY F (λ_ _ a ns hl _ hS=>⟨a,ns,rfl,hS,hl,λ_=>rfl⟩) λ_ _ _ _ _ z=>z
end My
end
open PySem PySem.W PyProof.Rows
def PySem.W.Fast.tw14034290482749893797:=()
def PySem.W.Fast.tw17917546665983881491:=()
def PySem.W.Fast.tw9369806887939352771:=()
def PySem.W.Fast.tw7086624997140502449:=()
def PySem.W.Fast.tw17321388411966802542:=()
def PySem.W.Fast.tw15019809613971760142:=()
def PySem.W.Fast.tw7697141507516838460:=()
def PySem.W.Fast.tw8781210128973600981:=()
def PySem.W.Fast.tw9521406093280303433:=()
def PySem.W.Fast.tw2812122196103576413:=()
def PySem.W.Fast.tw10097862008604025206:=()
def PySem.W.Fast.tw5805273131751941531:=()
def PySem.W.Fast.tw13521004697828567184:=()
def PySem.W.Fast.tw5396116883424430892:=()
def PySem.W.Fast.tw15835704454084571668:=()
def PySem.W.Fast.tw8196447693567146202:=()
def PySem.W.Fast.tw14180402948174492655:=()
def PySem.W.Fast.tw13677785200412200723:=()
def PySem.W.Fast.tw9782819554473249198:=()
def PySem.W.Fast.tw6522682760163621444:=()
def PySem.W.Fast.tw12107963297124736350:=()
def PySem.W.Fast.tw15589062259498778565:=()
def PySem.W.Fast.tw16143793716549895728:=()
def PySem.W.Fast.tw10754499974098194647:=()
def PySem.W.Fast.tw3617140598159819477:=()
def PySem.W.Fast.tw9447662494334344312:=()
set_option maxRecDepth 100000 in
set_option maxHeartbeats 0 in
theorem PySem.Challenge.cw_allfirst_k51_forms_as_plans_holds : PySem.Challenge.rw_allfirst_k51_forms_as_plans.Holds := by
 w_on;o_law;k_head;(case hw=>w_witness2)
 k_fill
 refine My.walk (l:=PySem.Challenge.rw_allfirst_k51_forms_as_plans) rfl rfl (fun w h Y=>PySem.W.kIn_of Y) ?F
 case F =>
  intro w mg fa h KX G hmg;refine' My.all_mk KX G hmg ?d_z33 ?d_z43 ?d_z44 ?d_z34 ?d_z36 ?d_z37 ?d_z38 ?d_z39 ?d_z40 ?d_z41 ?d_z42 ?d_z45 ?d_z35 ?d_z46 ?d_z19 ?d_z22 ?d_z21 ?d_z28 ?d_z25 ?d_z24 ?d_z23 ?d_z27 ?d_z26 ?d_z20 ?d_z16 ?d_z0 ?d_z4 ?d_z1 ?d_z11 ?d_z3 ?d_z12 ?d_z8 ?d_z7 ?d_z18 ?d_z13 ?d_z5 ?d_z2 ?d_z6 ?d_z17 ?d_z14 ?d_z15 ?d_z31 ?d_z29 ?d_z30 ?d_law ?g_FIGURES ?g_KEPT_WORDS ?h_KEPT_WORDS ?g_LETTERS ?l_Book ?l_Plan ?z_abs ?z_all ?z_dict ?z_enumerate ?z_len ?z_list ?z_max ?z_min ?z_range ?z_set ?z_sorted ?z_str ?z_sum ?z_tuple
  (case d_z33|d_z43|d_z44|d_z34|d_z36|d_z37|d_z38|d_z39|d_z40|d_z41|d_z42|d_z45|d_z35|d_z46|d_z19|d_z22|d_z21|d_z28|d_z25|d_z24|d_z23|d_z27|d_z26|d_z20|d_z16|d_z0|d_z4|d_z1|d_z11|d_z3|d_z12|d_z8|d_z7|d_z18|d_z13|d_z5|d_z2|d_z6|d_z17|d_z14|d_z15|d_z31|d_z29|d_z30|d_law=>refine' ⟨_,_,?a,L2.fun_mk ?l ?c ?k⟩;(case a=>k_is);(case l=>k_is);(case c=>k_is);(case k=>k_is))
  (case g_FIGURES|g_KEPT_WORDS|h_KEPT_WORDS|g_LETTERS=>k_is)
  (case l_Book=>refine' ⟨_,_,_,?ua,⟨?up,?uh,?uo,?us⟩,List.forall_mem_cons.mpr ⟨?uf0,List.forall_mem_nil _⟩,⟨?um,?ui,?un,?ue⟩,L2.fun_mk ?ul ?uc ?uk⟩;(case ua=>k_is);(case ui=>k_is);(case ul=>k_is);(case uc=>k_is);(case uk=>k_is);(case up=>k_is);(case uh=>k_is);(case uo=>k_is);(case us=>k_is);(case um=>k_is);(case un=>k_is);(case ue=>k_is);(case uf0=>show PySem.W.findIn _ _ _=_;k_is))
  (case l_Plan=>refine' ⟨_,_,_,?ua,⟨?up,?uh,?uo,?us⟩,List.forall_mem_cons.mpr ⟨?uf0,List.forall_mem_cons.mpr ⟨?uf1,List.forall_mem_cons.mpr ⟨?uf2,List.forall_mem_nil _⟩⟩⟩,⟨?um,?ui,?un,?ue⟩,L2.fun_mk ?ul ?uc ?uk⟩;(case ua=>k_is);(case ui=>k_is);(case ul=>k_is);(case uc=>k_is);(case uk=>k_is);(case up=>k_is);(case uh=>k_is);(case uo=>k_is);(case us=>k_is);(case um=>k_is);(case un=>k_is);(case ue=>k_is);(case uf0=>show PySem.W.findIn _ _ _=_;k_is);(case uf1=>show PySem.W.findIn _ _ _=_;k_is);(case uf2=>show PySem.W.findIn _ _ _=_;k_is))
  (case z_abs|z_all|z_dict|z_enumerate|z_len|z_list|z_max|z_min|z_range|z_set|z_sorted|z_str|z_sum|z_tuple=>k_is)
