import PyProof.Rows.All
import Wide.All
import OpenK.AllK
import Wide.FinOn
import Lean
import PyProof.EqAt
import PyProof.EqKinds
import PyProof.TupleCall
import PyProof.P3Eq
import PyProof.NeData
import PySem.Challenge.RW_allfirst_k64_whole_plan_and_form
set_option autoImplicit true
set_option relaxedAutoImplicit true
set_option Elab.async false
set_option linter.all false
set_option maxRecDepth 100000
open PySem PySem.Spec PyProof.Rows
theorem Zqi.{u} {α:Type u}{a b:α}(h:some a=some b):a=b:=Option.some.inj h
theorem Zqg.{u} {α:Type u}{l:List α}{i:Nat}(h:i<l.length):l[i]? = some l[i]:=List.getElem?_eq_getElem h
theorem Zqs.{u} {α:Type u}{a:α}{l:List α}:a∈a::l:=List.mem_cons_self
theorem Zqm.{u} {α:Type u}(y:α){a:α}{l:List α}(h:a∈l):a∈y::l:=List.mem_cons_of_mem y h
theorem Zql.{u,v} {α:Type u}{β:Type v}{l:List α}(f:α->β):(l.map f).length=l.length:=List.length_map f
abbrev Za:=@wpAny_bind
abbrev Zb:=@wpAny_pure
abbrev Zc:=@wpAny_mono
abbrev Zd:=@if_pos
abbrev Ze:=@if_neg
abbrev Zf:=@Nat.le_refl
abbrev Zg:=@Nat.lt_of_lt_of_le
abbrev Zh:=@Nat.le_trans
abbrev Zi:=@Nat.ne_of_lt
abbrev Zj:=@Bool.false_ne_true
abbrev Zk:=@Heap.lt_size
abbrev Zl:=@List.map_cons
abbrev Zm:=@List.size_toArray
abbrev Zn:=@absurd
abbrev Zo:=@decide_eq_false
abbrev Zp:=@decide_eq_true
abbrev Zq:=@Heap.get?_push_of_some
abbrev Zr:=@Heap.get?_push_size
abbrev Zs:=@iff_of_false
abbrev Zt:=@congrArg
abbrev Zu:=@List.length_cons
abbrev Zv:=@List.getElem?_map
abbrev Zw:=@List.map_map
abbrev Zx:=@List.getElem?_set_ne
abbrev Zy:=@Nat.lt_irrefl
abbrev Zz:=@Nat.le_of_lt
abbrev ZA:=@List.append_nil
abbrev ZB:=@List.length_range
abbrev ZC:=@List.length_nil
set_option maxHeartbeats 4000000
abbrev Ya:=PySem.Value->PySem.Shared->Prop
abbrev Yb:=List (PySem.Addr×PySem.Obj)
abbrev Yc:=List (Nat×Nat×Nat)
abbrev Yd:=Nat->Nat->Bool
abbrev Ye:=PySem.Str->Option PySem.Value
abbrev Yf:=List PySem.Value
abbrev Yg:=Option PySem.Value
abbrev Yh:=List Int
abbrev Yi:=Array Nat
abbrev Yj:=List Nat
abbrev Yk:=List PySem.Str
abbrev Yl:=List PySem.Addr
abbrev Ym:=List PySem.Expr
abbrev Yn:=Array PySem.Value
abbrev Yo:=@PyProof.Rows.wpS_bind
abbrev Yp:=@PyProof.Rows.wpS_pure
abbrev Yq:=@PyProof.Rows.wpS_mono
abbrev Yr:=@PyProof.Rows.wpS_forRange
abbrev Ys:=@beq_iff_eq
abbrev Yt:=@Unit.unit
abbrev Yu:=@Bool.eq_false_iff
abbrev Yv:=@Nat.lt_of_not_le
abbrev Yw:=@Nat.one_pos
abbrev Yx:=@Nat.le_of_eq
abbrev Yy:=@PySem.F.plainAttrs_list
abbrev Yz:=@PySem.F.slot_list_append
abbrev YA:=@PySem.F.type_list_append
abbrev YB:=PyProof.Rows.SortSt->Prop
abbrev YC:=PySem.Shared->Prop
abbrev YE:=PySem.SetTable
noncomputable section
local macro_rules | `(tactic| trivial) => `(tactic| first|exact .inl rfl|exact .inr rfl|assumption)
local macro_rules | `(()) => `(by first|lia|omega|(simp;done)|grind|simp_all)
abbrev Ua:=@Nat.zero_le
abbrev Ub:=@List.length_append
abbrev Uc:=@Bool.and_eq_true
abbrev Ud:=@List.map_append
abbrev Ue:=@Sum.inl
abbrev Uf:=@List.mem_of_getElem?
abbrev Ug:=@Nat.lt_trans
abbrev Uh:=@List.append_assoc
abbrev Ui:=@Array.length_toList
abbrev Uj:=@Array.size_map
abbrev Ul:=@Nat.le_add_right
abbrev Uo:=@Nat.le_of_lt_succ
abbrev Uq:=@List.mem_append_right
abbrev Ur:=@List.length_singleton
abbrev Us:=@List.getD_eq_getElem?_getD
abbrev Ut:=@List.drop_eq_getElem_cons
abbrev Uu:=@List.getElem_mem
abbrev Uv:=@List.length_take
abbrev Uw:=@Nat.le_of_succ_le
abbrev Uy:=@Array.getElem?_eq_getElem
abbrev Uz:=@Nat.mod_lt
abbrev UA:=@Nat.lt_of_le_of_ne
abbrev UB:=@Nat.lt_succ_of_lt
abbrev UC:=@Bool.false_eq_true
abbrev UD:=@List.all_cons
abbrev UE:=@Nat.blt
abbrev UF:=@Nat.blt_eq
abbrev UG:=@List.getElem_of_mem
abbrev UH:=@Nat.lt_succ_self
abbrev UI:=@Nat.lt_of_le_of_lt
abbrev UJ:=@Nat.not_lt_zero
abbrev UK:=@List.take_append_drop
abbrev UL:=@Nat.succ.inj
abbrev UM:=@List.length_set
abbrev UN:=@Sum.inr
abbrev UO:=@Array.getElem?_map
abbrev UP:=@Nat.ble
abbrev UQ:=@Nat.ble_eq
abbrev UR:=@Nat.mod_eq_of_lt
abbrev US:=@List.take_length
abbrev UT:=@List.filterMap_cons
abbrev UU:=@List.getElem?_set_self
abbrev UV:=@List.take_of_length_le
abbrev UW:=@Nat.lt_of_succ_lt
abbrev UX:=@List.getElem?_append_left
abbrev UY:=@List.getElem?_append_right
abbrev UZ:=@List.map_congr_left
abbrev U0:=@List.mem_cons
abbrev U4:=@List.pairwise_map
abbrev U5:=@Int.le_refl
abbrev U6:=@Nat.ne_of_gt
abbrev U7:=@Bool.or_eq_true
abbrev U8:=@Nat.sub_le
abbrev U9:=@Nat.exists_eq_add_of_le
abbrev Va:=@List.drop_length
abbrev Vb:=@Nat.succ_pos
abbrev Vc:=@Nat.lt_trichotomy
abbrev Vd:=@Nat.lt_or_ge
abbrev Ve:=@List.all_eq_true
abbrev Vf:=@Bool.eq_iff_iff
abbrev Vg:=@List.drop_eq_nil_of_le
abbrev Vh:=@List.foldl_cons
abbrev Vi:=@Nat.min_eq_left
abbrev Vj:=@Array.ext'
abbrev Vk:=@Nat.le_succ_of_le
abbrev Vl:=@Array.getElem?_toList
abbrev Vm:=@Nat.eq_zero_or_pos
abbrev Vn:=@List.not_mem_nil
abbrev Vo:=@Array.forIn_toList
abbrev Vp:=@List.foldl_append
abbrev Vq:=@List.getElem?_eq_none
abbrev Vr:=@Int.zero_add
abbrev Vs:=@Int.emod_nonneg
abbrev Vt:=@Int.emod_lt_of_pos
abbrev Vu:=@List.zip_cons_cons
abbrev Vv:=@List.take_succ
abbrev Vw:=@Nat.add_sub_of_le
abbrev Vx:=@List.Perm.trans
abbrev Vy:=@Nat.succ_le_succ
abbrev Vz:=@List.Perm.refl
abbrev VA:=@Nat.lt_of_add_lt_add_left
abbrev VB:=@List.nodup_nil
abbrev VC:=@List.take_add_one
abbrev VD:=@List.length_filter_le
abbrev VE:=@List.getElem?_replicate
abbrev VF:=@List.mem_append_left
abbrev VG:=@Array.swapIfInBounds_def
abbrev VH:=@List.pairwise_append
abbrev VI:=@Array.size_extract
abbrev VJ:=@Nat.add_sub_cancel_left
abbrev VL:=@List.getElem_map
abbrev VM:=@List.any_eq_true
abbrev VN:=@Array.mem_toList_iff
abbrev VO:=@Array.getElem_mem
abbrev VP:=@List.ext_getElem?
abbrev VQ:=@List.length_replicate
abbrev VR:=@List.getElem?_take_of_lt
abbrev VS:=@List.getElem?_zip_eq_some
abbrev VT:=@List.extract_eq_drop_take
abbrev VU:=@Nat.le_of_add_le_add_left
abbrev VV:=@Array.getElem?_eq_none
abbrev VW:=@List.pairwise_singleton
abbrev VX:=@Array.getD_eq_getD_getElem?
abbrev VY:=@List.Nodup.length_le_of_subset
abbrev Ja:=@List.mem_map
abbrev Jb:=@List.mem_append
abbrev Jc:=@List.getElem?_eq_some_iff
abbrev Jd:=@List.mem_singleton
abbrev Je:=@List.map_eq_nil_iff
abbrev Jf:=@List.mem_filter
abbrev Jg:=@Option.bind_eq_some_iff
abbrev Jh:=@List.pairwise_cons
abbrev Ji:=@List.pairwise_iff_getElem
abbrev Jj:=@List.mem_range
abbrev Jk:=@Option.map_eq_some_iff
abbrev Jl:=@List.mem_iff_getElem?
abbrev Jm:=@List.nodup_cons
abbrev Jn:=@Nat.lt_succ_iff
abbrev Jo:=@Array.perm_iff_toList_perm
abbrev Jp:=@List.length_eq_zero_iff
abbrev Jq:=@List.mem_filterMap
abbrev Jr:=@Option.isSome_iff_exists
abbrev Js:=@Bool.and_eq_true_iff
abbrev Jt:=@List.mem_iff_getElem
abbrev Ju:=@Array.getElem?_eq_some_iff
abbrev Jv:=@List.length_pos_iff
abbrev Jw:=@List.find?_range_eq_none
abbrev Jx:=@List.append_eq_nil_iff
abbrev Jy:=List (Int×Int)
abbrev Jz:=List Jy
namespace L2
abbrev j7:=Sum Int Str
def Wz:j7->Value->Bool
 | .inl k,v=>Value.isInt k v
 | .inr x,v=>Value.isStrOf x v
def m8 (w:World):j7->Int
 | .inl k=>hashInt k
 | .inr x=>hashStr w x
def KI:∀{k:j7} {v:Value},Wz k v=true->(∃i t,k=Ue i/\v=Value.int i t)\/(∃x t,k=UN x/\v=Value.str x t)
 | .inl i,v,h=>by
  obtain⟨t,e⟩:=Value.isInt_shape h;exact .inl ⟨i,t,rfl,e⟩
 | .inr x,v,h=>by
  obtain⟨t,e⟩:=Value.isStrOf_shape h;exact .inr ⟨x,t,rfl,e⟩
def DM (i)(t):Wz (.inl i) (.int i t)=true:=by simp[Wz,Value.isInt]
def Lx (x)(t):Wz (.inr x) (.str x t)=true:=by simp[Wz,Value.isStrOf]
def Ly (a b):decide ((Ue a:j7)=Ue b)=(a == b):=()
def Lz (a b):decide ((UN a:j7)=UN b)=decide (a=b):=()
def L0 (a)(b):decide ((Ue a:j7)=UN b)=false:=rfl
def L1 (a)(b):decide ((UN a:j7)=Ue b)=false:=rfl
def Q3 (prog:Program)(w:World):PySem.KeyKind prog w j7 where
 is:=Wz
 hash:=m8 w
 inj:=λv a b g f=>by
  rcases KI g with ⟨i,t,rfl,rfl⟩|⟨x,t,rfl,rfl⟩
  .rcases KI f with ⟨j,u,rfl,e⟩|⟨y,u,rfl,e⟩
   .injection e with e1 _;rw[e1]
   .exact nomatch e
  .rcases KI f with ⟨j,u,rfl,e⟩|⟨y,u,rfl,e⟩
   .exact nomatch e
   .injection e with e1 _;rw[e1]
 byValue:=λk v h=>by
  rcases KI h with ⟨i,t,rfl,rfl⟩|⟨x,t,rfl,rfl⟩<;>rfl
 pyHash:=λc h=>by
  rcases KI c with ⟨i,t,rfl,rfl⟩|⟨x,t,rfl,rfl⟩
  .exact wpAny_pyHash_int h
  .exact wpAny_pyHash_str h
 eqBool:=λl c h=>by
  rcases KI l with ⟨i,t,rfl,rfl⟩|⟨x,t,rfl,rfl⟩
  .rcases KI c with ⟨j,u,rfl,rfl⟩|⟨y,u,rfl,rfl⟩
   .rw[Ly] at h;exact wpAny_eqBool_int h
   .rw[L0] at h;exact SeqAt.EqAt.int_str i t y u _ _ _ _ h
  .rcases KI c with ⟨j,u,rfl,rfl⟩|⟨y,u,rfl,rfl⟩
   .rw[L1] at h;exact SeqAt.EqAt.str_int x t j u _ _ _ _ h
   .rw[Lz] at h;exact wpAny_eqBool_str h
 «strs»:=λk x t v h=>by
  rcases KI h with ⟨i,u,rfl,e⟩|⟨y,u,rfl,e⟩
  .exact nomatch e
  .injection e with e1 _
   subst e1;cases v<;>rfl
def L4 (prog)(w)(i)(t):(Q3 prog w).is (.inl i) (.int i t)=true:=DM i t
def L5 (prog)(w)(x)(t):(Q3 prog w).is (.inr x) (.str x t)=true:=Lx x t
inductive V where
 |non|bl (b:Bool)|int (i:Int)|str (x:Str)|byt (b:Array UInt8)|flt (b:UInt64)|ref (a:Addr)|ty (n:String)
 deriving DecidableEq
abbrev _root_.YF:=List V
abbrev _root_.YG:=Option V
def jv:V->Value->Prop
 | .non,u=>u=Value.none
 | .bl b,u=>u=Value.bool b
 | .int i,u=>∃t,u=Value.int i t
 | .str x,u=>∃t,u=Value.str x t
 | .byt b,u=>∃t,u=Value.bytes b t
 | .flt b,u=>∃t,u=Value.float b t
 | .ref a,u=>u=Value.ref a
 | .ty n,u=>u=Value.type n
abbrev ju:YF->List Value->Prop:=Paired jv
theorem ju.length {a:YF}{b:Yf}(r:ju a b):a.length=b.length:=Paired.length r
theorem ju.get:∀{a:YF} {b:Yf} {i:Nat} {x:V},ju a b->a[i]? = some x->∃u,b[i]? = some u/\jv x u
 |_,_,_,_,.nil,e=>by simp at e
 |_,_,0,_,.cons r _,e=>by simp_all
 |_,_,i+1,x,.cons _ t,e=>by
  obtain⟨u,c,f⟩:=ju.get t (by simpa using e)
  simp_all
theorem ju.set {x:V}{u:Value}(r:jv x u):∀{a:YF} {b:Yf} i,ju a b->ju (a.set i x) (b.set i u)
 |_,_,_,.nil=>.nil
 |_,_,0,.cons _ t=>.cons r t
 |_,_,i+1,.cons q t=>.cons q (ju.set r i t)
def ju.append:∀{a ys:YF} {b c:Yf},ju a b->ju ys c->ju (a++ys) (b++c):=λh s=>by
 induction h with
 |nil=>exact s
 |cons r _ e=>exact .cons r e
def ju.none_of:∀{a:YF} {b:Yf} {i:Nat},ju a b->a[i]? = none->b[i]? = none:=λ{a b i} r e=>by
 have c:=r.length
 simp_all
def xh:YG->Option Value->Prop
 |some v,some u=>jv v u
 |none,none=>True
 |_,_=>False
def KV {κ: Type}:List (κ × V)->List (κ × Value)->Prop:=Paired λ(p:κ × V) (q:κ × Value)=>p.1=q.1/\jv p.2 q.2
def kV:j7->V
 | .inl i=>.int i
 | .inr x=>.str x
inductive HO where
 |lst (xs:YF)
 |tup (xs:YF)
 |dK (kvs:List (j7×V))|dT (kvs:List (List j7×V))
 |set (S:Int->Bool) (n:Nat)
 |ins (C dx:Addr) (fs:List (Str×V))
 |own (x:Addr)
 |xd (fs:List (Str×V))
 |met (f x:Addr)
 |rng (lo hi:Int)
 |frz (o:Obj) (u:HO)
 |tbl (ps:Yn)
 |ext (φ: Heap->Prop)
abbrev Hp:=Addr->Option HO
def jB (H:Hp)(a:Addr)(o:HO):Hp:=λb=>if b=a then some o else H b
def JM {H:Hp}{a:Addr}{o:HO}:jB H a o a=some o:=by simp_all [jB]
def JJ {H:Hp}{a b:Addr}{o:HO}(h:b≠a):jB H a o b=H b:=by simp_all [jB]
def Kd {H:Hp}{a b:Addr}{o:HO}(h:H a=some o)(c:H b=none):a≠b:=()
section
variable (P:Program)(w:World)
def xL (H:Hp)(h:Heap)(a:Addr):HO->Prop
 | .lst b=>b.length<=sizeLine/\∃(its:Yf) (n:Nat),ju b its/\h.get? a=some { cls:=.type "list",data:=.seq its.toArray n }
 | .tup b=>(b.length<=sizeLine/\∃o,h.get? a=some o/\o.dict=none)/\∃its:Yf,ju b its/\IsTup h a its.toArray
 | .dK kvs=>kvs.length<=sizeLine/\(a == sysModules)=false/\∃c,KV kvs c/\h.DictOf (Q3 P w) a c
 | .dT kvs=>kvs.length<=sizeLine/\(a == sysModules)=false/\∃b:List (List j7×Addr×Value),
  Paired (λ(p:List j7×V) (q:List j7×Addr×Value)=>p.1=q.1/\H q.2.1=some (.tup (p.1.map kV))/\jv p.2 q.2.2) kvs b /\
  ∃o es ep,h.get? a=some o/\o.ExactDict/\o.data=.dict es ep/\es.toList=b.map (entryOfKey (tupleKind (Q3 P w)))/\(b.map (·.1)).Nodup
 | .set S n=>h.SetOf (intKind P w) a S n
 | .ins C dx fs=>H dx=some (.own a)/\fs.length<=1000/\dx≠a/\h.get? a=some (W.instObj C dx) /\
  ∃mA,h.Ns1 dx mA/\(∀f,xh (fs.lookup f) (mA f))/\PySem.Within mA (fs.map (·.1))
 | .own _=>∃o,h.get? a=some o
 | .xd fs=>∃mA,h.Ns1 a mA/\∀f,xh (fs.lookup f) (mA f)
 | .rng lo hi=>∃t u v,h.get? a=some { cls:=.type "range",data:=.fields #[.int lo t,.int hi u,.int 1 v] }
 | .frz o u=>h.get? a=some o/\xL H h a u
 | .tbl ps=>h.get? a=some { cls:=.none,data:=.fields ps }
 | .met f x=>h.get? a=some (W.methodObj (.ref f) (.ref x))
 | .ext φ => φ h/\(∃o,h.get? a=some o)/\∀e g:Heap,φ e->(∀o,e.get? a=some o->g.get? a=some o) -> φ g
def qH (H:Hp)(h:Heap):Prop:=∀a o,H a=some o->xL P w H h a o
end
section
variable {P:Program}{w:World}{H H':Hp}{h h':Heap}{a:Addr}{o:HO}
theorem xL.lt (x:xL P w H h a o):a<h.objs.size:=by
 cases o with
 |lst c=>obtain⟨_,_,_,_,e⟩:=x;exact Zk e
 |tup c=>obtain⟨_,_,_,p⟩:=x;exact p.lt
 |dK b=>obtain⟨_,_,_,_,o,_,_,e,_⟩:=x;exact Zk e
 |dT b=>obtain⟨_,_,_,_,o,_,_,e,_⟩:=x;exact Zk e
 |set S n=>obtain⟨o,_,_,_,e,_⟩:=x;exact Zk e
 |ins C g fs=>exact Zk x.2.2.2.1
 |own y=>obtain⟨_,e⟩:=x;exact Zk e
 |xd fs=>obtain⟨_,⟨_,_,_,e,_⟩,_⟩:=x;exact Zk e
 |rng lo i=>obtain⟨_,_,_,e⟩:=x;exact Zk e
 |frz j u=>exact Zk x.1
 |tbl ps=>exact Zk (x)
 |met f y=>exact Zk (x)
 |ext φ => obtain⟨_,⟨_,e⟩,_⟩:=x;exact Zk e
def x4 {α β: Type}{F G:α -> β -> Prop}:∀{l₁:List α} {l₂:List β},Paired F l₁ l₂->(∀a b,F a b->G a b)->Paired G l₁ l₂:=λh f=>by
 induction h with
 |nil=>exact .nil
 |cons r _ c=>exact .cons (f _ _ r) c
def xL.stay (x:xL P w H h a o)(k:∀b u,(b=a\/H b=some (.own a))->h.get? b=some u->h'.get? b=some u)
 (m:∀b,H b=some (.own a)->H' b=some (.own a)) (E:∀b i,H b=some (.tup i)->H' b=some (.tup i)):xL P w H' h' a o:=by
 induction o with
 |lst i=>obtain⟨z,its,n,r,e⟩:=x;exact⟨z,its,n,r,k _ _ (.inl rfl) e⟩
 |tup i=>obtain⟨⟨z,j,F,dd⟩,its,r,g,e,c⟩:=x;exact⟨(),its,r,g,k _ _ (.inl rfl) e,c⟩
 |dK l=>have ⟨z,y,s,r,g,es,ep,e,c⟩:=x;exact⟨z,y,s,r,g,es,ep,k _ _ (.inl rfl) e,c⟩
 |dT l =>
  obtain⟨z,y,i,r,g,es,ep,e,c⟩:=x;exact⟨z,y,i,x4 r (),g,es,ep,k _ _ (.inl rfl) e,c⟩
 |set S n=>have ⟨g,es,ep,t,e,c⟩:=x;exact⟨g,es,ep,t,k _ _ (.inl rfl) e,c⟩
 |ins C G fs =>
  obtain⟨d,z,ne,e,mA,⟨j,es,ep,A,c⟩,r⟩:=x;exact⟨m _ d,z,ne,k _ _ (.inl rfl) e,mA,⟨j,es,ep,k _ _ (.inr d) A,c⟩,r⟩
 |own y=>have ⟨g,e⟩:=x;exact⟨g,k _ _ (.inl rfl) e⟩
 |xd fs=>obtain⟨mA,⟨j,es,ep,e,c⟩,r⟩:=x;exact⟨mA,⟨j,es,ep,k _ _ (.inl rfl) e,c⟩,r⟩
 |rng lo I=>have ⟨t,u,v,e⟩:=x;exact⟨t,u,v,k _ _ (.inl rfl) e⟩
 |frz g u B=>exact⟨k _ _ (.inl rfl) x.1,B x.2⟩
 |tbl ps =>
  exact k a _ (.inl rfl) x
 |met f y =>
  exact k a _ (.inl rfl) x
 |ext φ => have ⟨p,⟨o,e⟩,st⟩:=x;exact⟨st _ _ p λo q=>k _ _ (.inl rfl) q,⟨o,k _ _ (.inl rfl) e⟩,st⟩
theorem qH.lt (x:qH P w H h)(e:H a=some o):a<h.objs.size:=(x a o e).lt
def qH.fresh (x:qH P w H h)(e:h.objs.size<=a):H a=none:=by
 cases q:H a with
 |none=>rfl
 |some u=>exact Zn (Zg (x.lt q) e) (Zy _)
def qH.kept (x:qH P w H h)(k:∀b u,h.get? b=some u->h'.get? b=some u):qH P w H h':=λa o e =>
 (x a o e).stay () (λ_ q=>q) λ_ _ q=>q
def qH.laid (x:qH P w H h)(k:∀b u,h.get? b=some u->h'.get? b=some u)(hp:h.objs.size<=a)(new:xL P w (jB H a o) h' a o):qH P w (jB H a o) h':=λb u e=>by
 have f:=x.fresh hp;by_cases g:b=a
 .simp_all [JM]
 .rw[JJ g] at e;exact(x b u e).stay () (λc q=>by rwa [JJ (Kd q f)]) λc i q=>by rwa [JJ (Kd q f)]
end
def Rd (H:Hp)(a:Addr)(u:HO):Prop:=H a=some u\/∃o,H a=some (.frz o u)
def Rd.ok {P:Program}{w:World}{H:Hp}{h:Heap}{a:Addr}{u:HO}(r:Rd H a u)(x:qH P w H h):xL P w H h a u:=by
 rcases r with r|⟨o,r⟩
 .exact x a u r
 .obtain⟨_,q⟩:=x a _ r;exact q
def f8:Option HO->Prop
 |some (.lst _)=>True
 |some (.dK _)=>True
 |some (.dT _)=>True
 |some (.set _ _)=>True
 |some (.ins _ _ _)=>True
 |some (.ext _)=>True
 |_=>False
section
variable {P:Program}{w:World}{H:Hp}{h h':Heap}{x e:Addr}{o':HO}
def qH.write (ok:qH P w H h)(l:f8 (H x))(o:e=x\/H e=some (.own x))(k:∀b u,b≠e->h.get? b=some u->h'.get? b=some u)(i:∃u,h'.get? e=some u)
 (new:xL P w (jB H x o') h' x o'):qH P w (jB H x o') h':=λb u q=>by
 have a:∀c y,H c=some (.own y)->c≠x:=λc y r z=>by subst z;rwa [r] at l
 have f:∀c g,H c=some (.tup g)->c≠x:=λc g r z=>by subst z;rwa [r] at l
 by_cases n:b=x
 .simp_all [JM]
 .rw[JJ n] at q;by_cases j:b=e
  .have m:H b=some (.own x):=by
    simp_all
   rw[q] at m;cases m;obtain⟨v,p⟩:=i;exact⟨v,by rwa [j]⟩
  .refine(ok b u q).stay (λc v s r=>k c v ?_ r) (λc r=>by rwa [JJ (a c b r)]) λc g r=>by rwa [JJ (f c g r)]
   grind
end
structure Un (fs ex:Yl)(H H':Hp)(h h':Heap):Prop where
 keep:∀b o,h.get? b=some o->H b=none->b∉fs->b∉ex->h'.get? b=some o
 slot:∀b o,h.get? b=some o->H b=none->b∈fs->b∉ex->∃sl,h'.get? b=some { o with slots:=sl }
 free:∀b o,h.get? b=some o->H b=none->b∉ex->H' b=none
 there:∀b o,h.get? b=some o->b∉ex->∃o',h'.get? b=some o'
 tups:∀b xs,H b=some (.tup xs)->H' b=some (.tup xs)
 frzs:∀b o u,H b=some (.frz o u)->H' b=some (.frz o u)
 tbls:∀b ps,H b=some (.tbl ps)->∃more,H' b=some (.tbl (ps++more))
section
variable {fs fs' ex ex':Yl}{H H1 H2:Hp}{h h1 h2 h':Heap}{a x e:Addr}{o:HO}
def Un.any (u:Un fs ex H H1 h h1){b:Addr}{c:Obj}(q:h.get? b=some c)(n:H b=none)(f:b∉ex):∃i,h1.get? b=some { c with slots:=i }:=by
 by_cases g:b∈fs
 .exact u.slot b c q n g f
 .exact⟨c.slots,u.keep b c q n g f⟩
def Un.kept (k:∀b u,h.get? b=some u->h'.get? b=some u):Un fs ex H H h h':=
 ⟨(),λb c q _ _ _=>⟨c.slots,k b c q⟩,λ_ _ _ n _=>n,(),λ_ _ q=>q,λ_ _ _ q=>q,λ_ ps q=>⟨#[],by rw[q];simp⟩⟩
theorem Un.refl:Un fs ex H H h h:=Un.kept λ_ _ q=>q
def Un.laid (k:∀b u,h.get? b=some u->h'.get? b=some u)(hp:h.objs.size<=a)(c:H a=none):Un fs ex H (jB H a o) h h' where
 keep:=by grind
 slot:=λb u q _ _ _=>⟨u.slots,k b u q⟩
 free:=λb u q n _=>by rwa [JJ (Zi (Zg (Zk q) hp))]
 there:=by grind
 tups:=λb f q=>by rwa [JJ (Kd q c)]
 frzs:=λb u f q=>by rwa [JJ (Kd q c)]
 tbls:=λb ps q=>⟨#[],by rw[JJ (Kd q c),q];simp⟩
def Un.write (f:f8 (H x))(m:e=x\/H e=some (.own x))(k:∀b u,b≠e->h.get? b=some u->h'.get? b=some u)(g:∃u,h'.get? e=some u):Un fs ex H (jB H x o) h h':=by
 have i:∀b,H b=none->b≠x:=λb n z=>by subst z;rwa [n] at f
 have j:∀b,H b=none->b≠e:=by grind
 have c:∀b u,H b=some u->¬f8 (some u)->b≠x:=by grind
 refine⟨(),λb u q n _ _=>⟨u.slots,k b u (j b n) q⟩,λb u q n _=>by rwa [JJ (i b n)],λb u q _=>?_,
  λb l q=>by rwa [JJ (c b _ q λz=>z)],λb u l q=>by rwa [JJ (c b _ q λz=>z)],λb ps q=>⟨#[],by rw[JJ (c b _ q λz=>z),q];simp⟩⟩
 grind
end
def trk (h:Heap)(H:Hp):Yl:=(List.range h.objs.size).filter λa=>(H a).isSome
def yf (h:Heap)(H:Hp):Heap:=W.hideAll h (trk h H)
def L6 (h)(H):(yf h H).objs.size=h.objs.size:=W.hideAll_size _ _
def L8 {h:Heap}{H:Hp}{b:Addr}{o:Obj}(e:h.get? b=some o)(n:H b=none):(yf h H).get? b=some o:=
 W.hideAll_get _ e λa=>by
  have q:=(Jf.mp a).2
  simp_all
def L9 {h:Heap}{H:Hp}{b:Addr}{o:Obj}(e:(yf h H).get? b=some o):h.get? b=some o/\H b=none:=by
 have a:=W.of_hideAll (trk h H) e;refine⟨a,?_⟩;cases q:H b with
 |none=>rfl
 |some x =>
  have c:b∈trk h H:=Jf.mpr ⟨Jj.mpr (Zk a),by simp[q]⟩;have z:(yf h H).get? b=none:=W.hideAll_none (trk h H) c
  simp_all
structure Mod (K:W.Frag)(mg:Ye)(base:Heap):Prop where
 kin:K.In base
 glob:base.Ns mainGlobals mg
 blt:∃mb,base.Ns builtinsNs mb/\∀x:Str,x ≠ "__name__" -> mb x=bootBuiltins x
 nolimit:base.NoLimit
structure Cx where
 prog:Program
 w:World
 K:W.Frag
 mg:Ye
 base:Heap
 A:Around
 N:Yk
 s₀:Shared
 H₀:Hp
 env:Env
 outer:List Env
 stack:List Env
 ex:Yl
 fn:Str->Bool
 calm:Bool
 pn:Yb
 xe:Ya
abbrev _root_.YJ(X:Cx){α:Type}(m:Sem α):=wpAny (model X.prog X.w) X.A m
abbrev _root_.YK(P:Program)(w:World)(A:Around){α:Type}(m:Sem α):=wpAny (model P w) A m
abbrev _root_.YL(P:Program)(w:World)(A:Around)(E:Value->Shared->Prop)(s:Shared){α:Type}(m:StateT PyProof.Rows.SortSt Sem α):=PyProof.Rows.wpS (model P w) A E s m
def xa (l:List Env):Yl:=l.filterMap (·.frame)
abbrev Cx.fs (X:Cx):Yl:=xa X.outer
def b4 (a:Scope)(x:Str):Prop:=a.names.lookup x=some .local\/a.names.lookup x=some .cell\/a.names.lookup x=some .free
def yG (a:Scope)(x:Str):Prop:=a.names.lookup x=some .local\/a.names.lookup x=some .cell
def nO (env:Env)(h:Heap)(m:Ye)(x:Str)(u:Value):Prop:=
 (env.kindOf x=some .local/\m x=some u)\/((env.kindOf x=some .cell\/env.kindOf x=some .free)/\∃c,env.cells.lookup x=some c/\h.IsCell c (some u))
structure Cx.Ok (X:Cx):Prop where
 mod:Mod X.K X.mg X.base
 kind:X.env.scope.kind=.function
 glob:X.env.globals=mainGlobals
 blt:X.env.builtins=builtinsNs
 above:X.s₀.heap.objs.size<=X.env.locals
 inj:∀x y c,X.env.cells.lookup x=some c->X.env.cells.lookup y=some c->x=y
 has:∀x,(X.env.kindOf x=some .cell\/X.env.kindOf x=some .free)->∃c,X.env.cells.lookup x=some c
 cab:∀x c,X.fn x=true->X.env.cells.lookup x=some c->X.s₀.heap.objs.size<=c
 hd:X.calm=true->X.A.handled=none
 frames:X.A.frames=some X.stack
 stk:X.stack=X.outer\/(X.stack=X.env::X.outer/\X.env.frame=some X.env.locals)
 exf:∀b∈X.ex,b≠X.env.locals/\∀x c,X.env.cells.lookup x=some c->c≠b
 bs:∀b o,X.base.get? b=some o->X.s₀.heap.get? b=some o/\X.H₀ b=none
 bsz:X.base.objs.size<=X.s₀.heap.objs.size
 noex:∀b o,X.base.get? b=some o->b∉X.ex
 exfs:∀b∈X.ex,b∉X.fs
 funs:X.s₀.heap.FunFrames X.base X.outer
 frf:∀b∈X.fs,X.H₀ b=none
structure Inv (X:Cx)(Y:Yb)(Z: List YG)(H:Hp)(s:Shared):Prop where
 ok:X.Ok
 os:s.os=X.s₀.os
 bare:AllBare s.gens
 base:Un X.fs X.ex X.H₀ H X.s₀.heap s.heap
 loc:∃m,s.heap.Ns X.env.locals m/\∀(i:Nat) (x:Str) (v:V),X.N[i]? = some x -> Z[i]? = some (some v)->b4 X.env.scope x->∃u,jv v u/\nO X.env s.heap m x u
 cell:∀x c,X.env.cells.lookup x=some c->∃v,s.heap.IsCell c v
 free:H X.env.locals=none
 freeC:∀x c,X.env.cells.lookup x=some c->H c=none
 pin:∀p∈X.pn++Y,s.heap.get? p.1=some p.2/\H p.1=none/\p.1≠X.env.locals/\p.1∉X.fs/\∀v,p.2.data ≠ .cell v
 hok:qH X.prog X.w H s.heap
 len:Z.length=X.N.length
section
variable {X:Cx}{Y:Yb}{Z: List YG}{H H':Hp}{s:Shared}{h':Heap}
def Cx.Ok.nofr (ok:X.Ok){b:Addr}{o:Obj}(e:X.base.get? b=some o):b∉X.fs:=λa=>by
 have:=(ok.funs.mem a).1
 simp_all
theorem Inv.bs (I:Inv X Y Z H s):∀b o,X.base.get? b=some o->s.heap.get? b=some o/\H b=none:=λb o e =>
 ⟨I.base.keep b o (I.ok.bs b o e).1 (I.ok.bs b o e).2 (I.ok.nofr e) (I.ok.noex b o e),I.base.free b o (I.ok.bs b o e).1 (I.ok.bs b o e).2 (I.ok.noex b o e)⟩
def Inv.bk (I:Inv X Y Z H s):∀b o,X.base.get? b=some o->s.heap.get? b=some o:=λb o e=>(I.bs b o e).1
theorem Inv.mod (I:Inv X Y Z H s):Mod X.K X.mg X.base:=I.ok.mod
def Inv.kIn (I:Inv X Y Z H s):X.K.In s.heap:=I.ok.mod.kin.keeps I.bk
theorem Inv.lt (I:Inv X Y Z H s):X.env.locals<s.heap.objs.size:=let ⟨_,hn,_⟩:=I.loc;hn.lt
theorem Inv.sz (I:Inv X Y Z H s):X.s₀.heap.objs.size<=s.heap.objs.size:=Zh I.ok.above (Zz I.lt)
def Inv.nofs (I:Inv X Y Z H s){a:Addr}(h:s.heap.objs.size<=a):a∉X.fs:=λb=>by
 obtain⟨_,o,c,_⟩:=I.ok.funs.mem b;exact Zn (Zg (Zk c) (Zh I.sz h)) (Zy _)
def Inv.cne (I:Inv X Y Z H s):∀x c,X.env.cells.lookup x=some c->c≠X.env.locals:=λx c e z=>by
 obtain⟨v,o,f,g⟩:=I.cell x c e;obtain⟨m,⟨h,es,ep,a,b,_⟩,_⟩:=I.loc
 simp_all
theorem Inv.funs (I:Inv X Y Z H s):s.heap.FunFrames X.base X.outer:=by
 have all:∀l,(∀b∈xa l,b∈X.fs)->X.s₀.heap.FunFrames X.base l->s.heap.FunFrames X.base l:=by
  intro l
  induction l with
  |nil=>intro _ _;trivial
  |cons env r f =>
   intro hs g;obtain⟨h,⟨L,o,i,j,m,n⟩,p⟩:=g;have a:L∈X.fs:=hs L (by simp_all [xa,UT]);obtain⟨q,e⟩:=I.base.slot L o m (I.ok.frf L a) a λz=>I.ok.exfs L z a;exact⟨h,⟨L,_,i,j,e,n⟩,f (λb c=>hs b (by simp_all [xa,UT])) p⟩
 exact all X.outer (λ_ c=>c) I.ok.funs
theorem Inv.stack (I:Inv X Y Z H s):s.heap.FunFrames X.base X.stack:=by
 rcases I.ok.stk with e|⟨e,hf⟩
 .rw[e];exact I.funs
 .rw[e];have ⟨m,a,_⟩:=I.loc;exact .cons (by rw[I.ok.kind];decide) hf a (Heap.get?_none_of_le (Zh I.ok.bsz I.ok.above)) I.funs
def Inv.stkSub (I:Inv X Y Z H s):∀b∈xa X.stack,b∈X.env.locals::X.fs:=λb a=>by
 rcases I.ok.stk with e|⟨e,hf⟩
 .simp_all
 simp_all [xa]
def Inv.stkFree (I:Inv X Y Z H s):∀b∈xa X.stack,H b=none:=λb hb=>by
 rcases U0.mp (I.stkSub b hb) with e|hb
 .rw[e];exact I.free
 .obtain⟨_,o,a,_⟩:=I.ok.funs.mem hb;exact I.base.free b o a (I.ok.frf b hb) λz=>I.ok.exfs b z hb
def Inv.step {P:Array GenState}{t':Nat}{T:Drawn}{ch:Yl}(I:Inv X Y Z H s)
 (y:∀b∈ch,(b∈X.ex\/X.s₀.heap.objs.size<=b)/\b≠X.env.locals/\(∀x c,X.env.cells.lookup x=some c->c≠b)/\∀p∈X.pn++Y,p.1≠b)
 (keep:∀b o,b≠X.env.locals->b∉X.fs->b∉ch->s.heap.get? b=some o->H b=none->h'.get? b=some o)
 (j:∀b o,b≠X.env.locals->b∈X.fs->b∉ch->s.heap.get? b=some o->H b=none->∃K,h'.get? b=some { o with slots:=K }) (free:∀b o,b∉ch->s.heap.get? b=some o->H b=none->H' b=none)
 (A:∀b o,b∉ch->s.heap.get? b=some o->∃E,h'.get? b=some E)
 (F:∀b t,H b=some (.tup t)->H' b=some (.tup t)) (G:∀b o u,H b=some (.frz o u)->H' b=some (.frz o u)) (Q:∀b ps,H b=some (.tbl ps)->∃more,H' b=some (.tbl (ps++more)))
 (ns:∀m,s.heap.Ns X.env.locals m->h'.Ns X.env.locals m) (L:qH X.prog X.w H' h') (U:AllBare P):
 Inv X Y Z H' { s with heap:=h',gens:=P,drawn:=T,toks:=t' }:=by
 have J:∀b o,X.s₀.heap.get? b=some o->b≠X.env.locals:=λb o e=>Zi (Zg (Zk e) I.ok.above);have h:∀b o,X.s₀.heap.get? b=some o->b∉X.ex->b∉ch:=λb o e a B=>by
  rcases(y b B).1 with z|z
  .exact a z
  .exact Zn (Zg (Zk e) z) (Zy _)
 have f:∀x c,X.env.cells.lookup x=some c->∀v,s.heap.IsCell c v->h'.IsCell c v:=λx c e v zh=>by
  obtain⟨o,C,M⟩:=zh;have g:c∉ch:=by grind
  by_cases R:c∈X.fs
  .obtain⟨K,q⟩:=j c o (I.cne x c e) R g C (I.freeC x c e);exact⟨_,q,M⟩
  .exact⟨o,keep c o (I.cne x c e) R g C (I.freeC x c e),M⟩
 refine⟨I.ok,I.os,U,⟨λb o e n B a=>?_,λb o e n B a=>?_,λb o e n a=>?_,λb o e a=>?_,λb t e=>F b t (I.base.tups b t e),λb o t e=>G b o t (I.base.frzs b o t e),λb ps e=>?_⟩,?_,λx c e=>?_,?_,λx c e=>?_,λp hp=>?_,L,I.len⟩
 .exact keep b o (J b o e) B (h b o e a) (I.base.keep b o e n B a) (I.base.free b o e n a)
 .obtain⟨K,w⟩:=I.base.slot b o e n B a;obtain⟨N,O⟩:=j b _ (J b o e) B (h b o e a) w (I.base.free b o e n a);exact⟨N,O⟩
 .obtain⟨E,w⟩:=I.base.there b o e a;exact free b E (h b o e a) w (I.base.free b o e n a)
 .obtain⟨E,w⟩:=I.base.there b o e a;exact A b E (h b o e a) w
 .obtain⟨m1,w⟩:=I.base.tbls b ps e
  grind
 .obtain⟨m,hn,hl⟩:=I.loc;refine⟨m,ns m hn,λi x v w O e3=>?_⟩;obtain⟨u,r,l⟩:=hl i x v w O e3;refine⟨u,r,?_⟩;rcases l with l|⟨k,c,e,z⟩
  .exact .inl l
  .exact .inr ⟨k,c,e,f x c e _ z⟩
 .obtain⟨v,z⟩:=I.cell x c e;exact⟨v,f x c e v z⟩
 .obtain⟨m,⟨o,_,_,C,_⟩,_⟩:=I.loc;exact free _ o (λz=>(y _ z).2.1 rfl) C I.free
 .obtain⟨v,o,C,M⟩:=I.cell x c e;exact free c o () C (I.freeC x c e)
 .obtain⟨e,n,ne,S,d⟩:=I.pin p hp;have g:=λz=>(y p.1 z).2.2.2 p hp rfl;exact⟨keep p.1 p.2 ne S g e n,free p.1 p.2 g e n,ne,S,d⟩
def Inv.un {t':Nat}(I:Inv X Y Z H s)(u:Un X.fs [] H H' s.heap h')(c:qH X.prog X.w H' h'):Inv X Y Z H' { s with heap:=h',toks:=t' }:=have ⟨m,⟨o,es,ep,h,r⟩,_⟩:=id I.loc;have ⟨p,i⟩:=u.any h I.free ();I.step (ch:=[]) () (λb o _ f _ e n=>u.keep b o e n f ()) (λb o _ f _ e n=>u.slot b o e n f ()) (λb o _ e n=>u.free b o e n ()) (λb o _ e=>u.there b o e ()) u.tups u.frzs u.tbls (λq j=>by
 obtain⟨t,es',g,a,l⟩:=j;rw[h] at a;cases a;exact⟨_,es',g,i,l⟩) c I.bare
def Inv.call {l:Array GenState}{t':Nat}{t:Drawn}{ch:Yl}(I:Inv X Y Z H s)(u:Un (xa X.stack) ch H H' s.heap h')(g:qH X.prog X.w H' h')(v:AllBare l)
 (h:∀b∈ch,(b∈X.ex\/X.s₀.heap.objs.size<=b)/\b≠X.env.locals/\(∀x c,X.env.cells.lookup x=some c->c≠b)/\∀p∈X.pn++Y,p.1≠b):
 Inv X Y Z H' { s with heap:=h',gens:=l,drawn:=t,toks:=t' }:=have ⟨m,⟨o,es,ep,q,r⟩,_⟩:=id I.loc;have ⟨B,i⟩:=u.any q I.free ();I.step h (λb o i w a e n=>u.keep b o e n (λz=>(U0.mp (I.stkSub b z)).elim i w) a) (λb o _ _ a e n=>u.any e n a) (λb o a e n=>u.free b o e n a) (λb o a e=>u.there b o e a) u.tups u.frzs u.tbls (λC y=>by
 obtain⟨E,es',j,f,A⟩:=y;rw[q] at f;cases f;exact⟨_,es',j,i,A⟩) g v
def Inv.turned {t':Nat}{it:Addr}(I:Inv X Y Z H s)(k:∀b o,b≠it->s.heap.get? b=some o->h'.get? b=some o)(i:H it=none)(f:it≠X.env.locals)
 (j:it∈X.ex\/X.s₀.heap.objs.size<=it) (l:∀x c,X.env.cells.lookup x=some c->c≠it) (t:∀p∈X.pn++Y,p.1≠it):Inv X Y Z H { s with heap:=h',toks:=t' }:=by
 refine I.step (ch:=[it]) (λb w=>?_) () (λb o _ _ a e _=>⟨o.slots,k b o (λz=>a (by simp[z])) e⟩) (λ_ _ _ _ n=>n)
  () (λ_ _ e=>e) (λ_ _ _ e=>e) (λb ps e=>⟨#[],by rw[e];simp⟩) (λm g=>?_) (λb u e=>?_) I.bare
 .grind
 .have ⟨o,es,ep,h,r⟩:=g;exact⟨o,es,ep,k _ o (Ne.symm f) h,r⟩
 .refine(I.hok b u e).stay (λc v a q=>k c v ?_ q) (λ_ q=>q) λ_ _ q=>q
  grind
def Inv.tok (I:Inv X Y Z H s)(t):Inv X Y Z H { s with toks:=t }:=I.un Un.refl I.hok
theorem Inv.kept {t':Nat}(I:Inv X Y Z H s)(k:∀b u,s.heap.get? b=some u->h'.get? b=some u):Inv X Y Z H { s with heap:=h',toks:=t' }:=I.un (Un.kept k) (I.hok.kept k)
theorem Inv.laid {a:Addr}{o:HO}{t':Nat}(I:Inv X Y Z H s)(k:∀b u,s.heap.get? b=some u->h'.get? b=some u)(hp:s.heap.objs.size<=a)(new:xL X.prog X.w (jB H a o) h' a o):
 Inv X Y Z (jB H a o) { s with heap:=h',toks:=t' }:=I.un (Un.laid k hp (I.hok.fresh hp)) (I.hok.laid k hp new)
theorem Inv.write {x e:Addr}{o:HO}{t':Nat}(I:Inv X Y Z H s)(c:f8 (H x))(f:e=x\/H e=some (.own x))(k:∀b u,b≠e->s.heap.get? b=some u->h'.get? b=some u)(a:∃u,h'.get? e=some u)
 (new:xL X.prog X.w (jB H x o) h' x o):Inv X Y Z (jB H x o) { s with heap:=h',toks:=t' }:=I.un (Un.write c f k a) (I.hok.write c f k a new)
def Inv.pins_of {Y':Yb}(I:Inv X Y Z H s)(h:∀p∈Y',s.heap.get? p.1=some p.2/\H p.1=none/\p.1≠X.env.locals/\p.1∉X.fs/\∀v,p.2.data ≠ .cell v):Inv X Y' Z H s:=
 ⟨I.ok,I.os,I.bare,I.base,I.loc,I.cell,I.free,I.freeC,λp hp=>(Jb.mp hp).elim (λz=>I.pin p ()) (h p),I.hok,I.len⟩
def DN {N:Yk}(c:N.Nodup){i j:Nat}{x:Str}(a:N[i]? = some x)(b:N[j]? = some x):i=j:=by
 obtain⟨g,e⟩:=Jc.mp a;obtain⟨h,f⟩:=Jc.mp b;exact(List.getElem_inj c).mp (e.trans f.symm)
def LA {M:Model}{A:Around}{E:Ya}{i:Nat}{x:Str}{v:V}{u:Value}{Q:Unit->YC}(I:Inv X Y Z H s)(hN:X.N.Nodup)(B:X.N[i]? = some x)(l:yG X.env.scope x)(r:jv v u)
 (h:∀s',Inv X Y (Z.set i (some v)) H s'->(∃a,Heap.SameBut a s.heap s'.heap/\(a=X.env.locals\/X.env.cells.lookup x=some a))->Q Yt s') (hf:X.fn x=true\/X.env.scope.names.lookup x=some .local:=by trivial):wpAny M A (storeName X.env x u) Q E s:=by
 obtain⟨m,R,hl⟩:=id I.loc;have J:(X.env.scope.kind == .class||(X.env.scope.kind == .module&&X.env.locals != X.env.globals))=false:=by rw[I.ok.kind];rfl
 have hiσ: i < Z.length:=by rw[I.len];exact(Jc.mp B).1
 have cne:=I.cne;have f:∀{a:Addr} {h':Heap},(∃o,s.heap.get? a=some o/\H a=none)->Heap.SameBut a s.heap h'->qH X.prog X.w H h':=λ{a h'} ha hs b ob e=>by
  obtain⟨_,_,S⟩:=ha;refine(I.hok b ob e).stay (λc O t q=>(hs.2 c ?_).trans q) (λ_ q=>q) λ_ _ q=>q
  grind
 rcases l with hk|hk
 .refine wpAny_storeName_local hk R (λh' T hs=>?_) J;obtain⟨oL,_,_,U,_⟩:=id R;refine h _ ⟨I.ok,I.os,I.bare,⟨λb o e n C l=>?_,λb o e n C l=>?_,I.base.free,λb o e l=>?_,I.base.tups,I.base.frzs,I.base.tbls⟩,⟨_,T,λj y v' g w e3=>?_⟩,λy c e=>?_,I.free,I.freeC,λp hp=>?_,f ⟨oL,U,I.free⟩ hs,by simpa using I.len⟩ ⟨_,hs,.inl rfl⟩
  .exact(hs.2 b (Zi (Zg (Zk e) I.ok.above))).trans (I.base.keep b o e n C l)
  .obtain⟨sl,g⟩:=I.base.slot b o e n C l;exact⟨sl,(hs.2 b (Zi (Zg (Zk e) I.ok.above))).trans g⟩
  .obtain⟨o',g⟩:=I.base.there b o e l;exact⟨o',(hs.2 b (Zi (Zg (Zk e) I.ok.above))).trans g⟩
  .by_cases F:j=i
   .subst F;rw[B] at g;cases g;rw[UU hiσ] at w;cases w;exact⟨u,r,.inl ⟨hk,()⟩⟩
   .rw[Zx (Ne.symm F)] at w;obtain⟨u',r',q⟩:=hl j y v' g w e3;refine⟨u',r',?_⟩;rcases q with ⟨k,e⟩|⟨k,c,e,z⟩
    .refine .inl ⟨k,?_⟩;have:y≠x:=λe=>F (DN hN g (e ▸ B));simp[this,e]
    .exact .inr ⟨k,c,e,z.sameBut hs (cne y c e)⟩
  .obtain⟨O,z⟩:=I.cell y c e;exact⟨O,z.sameBut hs (cne y c e)⟩
  .obtain⟨e,n,ne,nf,d⟩:=I.pin p hp;exact⟨(hs.2 p.1 ne).trans e,n,ne,nf,d⟩
 .have G:X.fn x=true:=by
   rcases hf with z|z
   .exact z
   .rw[z] at hk;cases hk
  obtain⟨c,t⟩:=I.ok.has x (.inl hk);obtain⟨O,z⟩:=I.cell x c t;refine wpAny_storeName_cell I.ok.kind hk t z (λh' K hs=>?_);obtain⟨oc,L,hocd⟩:=id z;refine h { s with heap:=h' } ⟨I.ok,I.os,I.bare,⟨λb o e n C l=>?_,λb o e n C l=>?_,I.base.free,λb o e l=>?_,I.base.tups,I.base.frzs,I.base.tbls⟩,⟨m,R.sameBut hs (Ne.symm (cne x c t)),λj y v' g w e3=>?_⟩,λy P e=>?_,I.free,I.freeC,λp hp=>?_,f ⟨oc,L,I.freeC x c t⟩ hs,by simpa using I.len⟩ ⟨c,hs,.inr t⟩
  .exact(hs.2 b (Zi (Zg (Zk e) (I.ok.cab x c G t)))).trans (I.base.keep b o e n C l)
  .obtain⟨sl,g⟩:=I.base.slot b o e n C l;exact⟨sl,(hs.2 b (Zi (Zg (Zk e) (I.ok.cab x c G t)))).trans g⟩
  .obtain⟨o',g⟩:=I.base.there b o e l;exact⟨o',(hs.2 b (Zi (Zg (Zk e) (I.ok.cab x c G t)))).trans g⟩
  .by_cases F:j=i
   .subst F;rw[B] at g;cases g;rw[UU hiσ] at w;cases w;exact⟨u,r,.inr ⟨.inl hk,c,t,K⟩⟩
   .rw[Zx (Ne.symm F)] at w;obtain⟨u',r',q⟩:=hl j y v' g w e3;refine⟨u',r',?_⟩;rcases q with q|⟨k,P,e,z'⟩
    .exact .inl q
    .refine .inr ⟨k,P,e,z'.sameBut hs ?_⟩;rintro rfl;exact F (DN hN g (I.ok.inj _ _ _ e t ▸ B))
  .by_cases N:P=c
   .subst N;exact⟨_,K⟩
   .obtain⟨w2,z2⟩:=I.cell y P e;exact⟨w2,z2.sameBut hs N⟩
  .obtain⟨e,n,ne,nf,d⟩:=I.pin p hp;refine⟨(hs.2 p.1 ?_).trans e,n,ne,nf,d⟩;intro q;rw[q,L] at e;have q':=Zqi e;exact d O (by rwa [<- q'])
def ZK {M:Model}{A:Around}{E:Ya}{i:Nat}{x:Str}{v:V}{u:Value}{Q:Unit->YC}(I:Inv X Y Z H s)(a:X.N.Nodup)(b:X.N[i]? = some x)(c:yG X.env.scope x)(r:jv v u)
 (h:∀s',Inv X Y (Z.set i (some v)) H s'->Q Yt s') (e:X.fn x=true\/X.env.scope.names.lookup x=some .local:=by trivial):wpAny M A (storeName X.env x u) Q E s:=
 LA I a b c r (λs' f _=>h s' f) e
def Inv.call' {s':Shared}{ch:Yl}(I:Inv X Y Z H s)(f:s'.os=s.os)(u:Un (xa X.stack) ch H H' s.heap s'.heap)(a:qH X.prog X.w H' s'.heap)(g:AllBare s'.gens)
 (e:∀b∈ch,(b∈X.ex\/X.s₀.heap.objs.size<=b)/\b≠X.env.locals/\(∀x c,X.env.cells.lookup x=some c->c≠b)/\∀p∈X.pn++Y,p.1≠b):Inv X Y Z H' s':=by
 obtain⟨h',h,i,t',j⟩:=s';subst f;exact I.call u a g e
end
abbrev XK:=Value->Option Addr->Hp->Prop
abbrev St:=List YG
abbrev VK:=V->Hp->Prop
abbrev TE:=St->Hp->VK->Prop
abbrev TT:=St->Hp->(Bool->Hp->Prop)->Prop
abbrev TA:=St->Hp->(YF->Hp->Prop)->Prop
structure Ends where
 nx:St->Hp->Prop
 rt:VK
 bk:St->Hp->Prop:=λ_ _=>False
 ct:St->Hp->Prop:=λ_ _=>False
abbrev TS:=Ends->St->Hp->Prop
def EP (X:Cx)(Y:Yb)(Z: St)(Q:VK)(u:Value)(s':Shared):Prop:=∃v a,Inv X Y Z a s'/\jv v u/\Q v a
def TP (X:Cx)(Y:Yb)(Z: St)(Q:Bool->Hp->Prop)(b:Bool)(s':Shared):Prop:=∃a,Inv X Y Z a s'/\Q b a
def AP (X:Cx)(Y:Yb)(Z: St)(Q:YF->Hp->Prop)(c:Yf)(s':Shared):Prop:=∃a b,Inv X Y Z b s'/\ju a c/\Q a b
def SP (X:Cx)(Y:Yb)(D:Ends)(f:Flow)(s':Shared):Prop:=
 match f with
 | .next=>∃b a,Inv X Y b a s'/\D.nx b a
 | .brk=>∃b a,Inv X Y b a s'/\D.bk b a
 | .cont=>∃b a,Inv X Y b a s'/\D.ct b a
 | .ret u=>∃v b a,Inv X Y b a s'/\jv v u/\D.rt v a
def PE (X:Cx)(e:Expr)(t:TE):Prop:=
 ∀(Y:Yb) (s:Shared) (Z: St) (H:Hp) (Q:VK),Inv X Y Z H s->t Z H Q->YJ X (eval e X.env) (EP X Y Z Q) X.xe s
def PT (X:Cx)(e:Expr)(t:TT):Prop:=
 ∀(Y:Yb) (s:Shared) (Z: St) (H:Hp) (Q:Bool->Hp->Prop),Inv X Y Z H s->t Z H Q->YJ X (isTrue e X.env (eval e X.env)) (TP X Y Z Q) X.xe s
def PW (X:Cx)(e:Expr)(t:TT):Prop:=
 ∀(a:Sem Value) (Y:Yb) (s:Shared) (Z: St) (H:Hp) (Q:Bool->Hp->Prop),Inv X Y Z H s->t Z H Q->YJ X (isTrue e X.env a) (TP X Y Z Q) X.xe s
def f5 {X:Cx}{e:Expr}{t:TT}(h:PW X e t):PT X e t:=h _
def PA (X:Cx)(es:Ym)(t:TA):Prop:=
 ∀(a:Pos) (Y:Yb) (s:Shared) (Z: St) (H:Hp) (Q:YF->Hp->Prop),Inv X Y Z H s->t Z H Q->YJ X (spliced (backTo a (starEach es X.env))) (AP X Y Z Q) X.xe s
def PS (X:Cx)(st:Stmt)(t:TS):Prop:=
 ∀(Y:Yb) (s:Shared) (Z: St) (H:Hp) (D:Ends),Inv X Y Z H s->t D Z H->YJ X (exec st X.env) (SP X Y D) X.xe s
def qG (X:Cx)(st:List Stmt)(t:TS):Prop:=
 ∀(Y:Yb) (s:Shared) (Z: St) (H:Hp) (D:Ends),Inv X Y Z H s->t D Z H->YJ X (execs st X.env) (SP X Y D) X.xe s
def jJ {α: Type}{t:Sem α}{Q b: α -> YC}{M:Model}{A:Around}{E:Ya}{s:Shared}(h:wpAny M A t Q E s)(c:∀a s,Q a s->b a s):wpAny M A t b E s:=Zc h c λ_ _ x=>x
section
variable {X:Cx}
def xC (i:Nat):TE:=λZ H Q=>∃v,Z[i]? = some (some v)/\Q v H
def tC (v:V):TE:=λ_ H Q=>Q v H
def LB {i:Nat}{x:Str}{f:Pos}(o:X.N[i]? = some x)(p:b4 X.env.scope x)(g:(x == ("__debug__" : Str))=false:=by decide)(j:(x == ("__classdict__" : Str))=false:=by decide):PE X (.Name x f) (xC i):=by
 intro Y s Z H Q I h;obtain⟨v,e,h⟩:=h;obtain⟨m,q,t⟩:=I.loc;obtain⟨u,r,l⟩:=t i x v o e p;have b:EP X Y Z Q u s:=⟨v,H,I,r,h⟩;rcases l with ⟨hk,w⟩|⟨hk,c,n,a⟩
 .exact wpAny_Name (wpAny_loadName_local I.ok.kind hk q w b) g
 .rcases hk with hk|hk
  .exact wpAny_Name (wpAny_loadName_cell I.ok.kind hk n a b) g
  .exact wpAny_Name (wpAny_loadName_free I.ok.kind hk n a b j) g
def LC {i j pos}:PE X (.Constant (.int i) j pos) (tC (.int i)):=λ_ _ _ H _ I h=>wpAny_Constant_int ⟨.int i,H,I.tok _,⟨_,rfl⟩,h⟩
def uI {b j pos}:PE X (.Constant (.bool b) j pos) (tC (.bl b)):=λ_ _ _ H _ I h=>Constant_bool ⟨.bl b,H,I,rfl,h⟩
def LD {j pos}:PE X (.Constant .none j pos) (tC .non):=λ_ _ _ H _ I h=>Constant_none ⟨.non,H,I,rfl,h⟩
def DO {x j pos}:PE X (.Constant (.str x) j pos) (tC (.str x)):=λ_ _ _ H _ I h=>Calls.Constant_str ⟨.str x,H,I.tok _,⟨_,rfl⟩,h⟩
def Gl (X:Cx)(x:Str):Prop:=X.env.kindOf x=some .globalImplicit
def X8 {E:Ya}{Y:Yb}{s:Shared}{Z: St}{H:Hp}{x:Str}{u:Value}{a:Pos}{Q:Ya}(I:Inv X Y Z H s)(b:Gl X x)(c:X.mg x=some u)(h:Q u s)
 (e:(x == ("__debug__" : Str))=false:=by decide):YJ X (eval (.Name x a) X.env) Q E s:=
 Calls.Name_function_global I.ok.kind b (Calls.loadGlobal_global (by rw[I.ok.glob];exact I.mod.glob.keeps I.bk) c h) e
def WT {E:Ya}{Y:Yb}{s:Shared}{Z: St}{H:Hp}{x:Str}{u:Value}{a:Pos}{Q:Ya}(I:Inv X Y Z H s)(b:Gl X x)(c:X.mg x=none)(e:bootBuiltins x=some u)(h:Q u s)
 (f:x ≠ "__name__" := by decide) (g:(x == ("__debug__" : Str))=false:=by decide):YJ X (eval (.Name x a) X.env) Q E s:=by
 obtain⟨l,i,j⟩:=I.mod.blt;exact Calls.Name_function_global I.ok.kind b (Calls.loadGlobal_builtin (by rw[I.ok.glob];exact I.mod.glob.keeps I.bk) c (by rw[I.ok.blt];exact i.keeps I.bk) ((j x f).trans e) h) g
def LF {x:Str}{v:V}{u:Value}{a:Pos}(b:Gl X x)(c:X.mg x=none)(e:bootBuiltins x=some u)(r:jv v u)(f:x ≠ "__name__" := by decide)(g:(x == ("__debug__" : Str))=false:=by decide):PE X (.Name x a) (tC v):=
 λ_ _ _ H _ I h=>WT I b c e ⟨v,H,I,r,h⟩ f g
variable {a b:Expr}{ta tb:TE}{pos:Pos}
def PC (X:Cx)(op:CmpOp)(a b:Expr)(t:TE):Prop:=
 ∀(Y:Yb) (s:Shared) (Z: St) (H:Hp) (Q:VK),Inv X Y Z H s->t Z H Q ->
  YJ X (eval a X.env) (λv s₁=>YJ X (eval b X.env) (λu s₂=>YJ X (compareOp op v u) (EP X Y Z Q) X.xe s₂) X.xe s₁) X.xe s
def LG (b){op:CmpOp}(h:op ≠ .In)(c:op ≠ .NotIn):behindInMarks op b=false:=by
 cases b<;>first|rfl|(show(_&&(_||_)&&_)=false;simp_all)
def vN (ta:TE):TE:=λZ H Q=>ta Z H λx c=>Q (.bl (decide (x=.non))) c
def DP (ta:TE):TE:=λZ H Q=>ta Z H λx c=>Q (.bl (!decide (x=.non))) c
def jv.none_iff {x:V}{v:Value}(r:jv x v):(v == Value.none)=decide (x=.non):=by
 cases x with
 |non=>cases r;rfl
 |bl _=>cases r;rfl
 |int _=>obtain⟨t,rfl⟩:=r;rfl
 |str _=>obtain⟨t,rfl⟩:=r;rfl
 |byt _=>obtain⟨t,rfl⟩:=r;rfl
 |flt _=>obtain⟨t,rfl⟩:=r;rfl
 |ref _=>cases r;rfl
 |ty _=>cases r;rfl
def LH {j pos'}(c:PE X a ta):PC X .Is a (.Constant .none j pos') (vN ta):=λY s Z H Q I h=>jJ (c Y s Z H _ I h) λv l ⟨x,e,f,g,i⟩=>(Constant_none (is_none_gen ⟨.bl _,e,f,by rw[g.none_iff];rfl,i⟩))
def LJ {j pos'}(c:PE X a ta):PC X .IsNot a (.Constant .none j pos') (DP ta):=λY s Z H Q I h=>jJ (c Y s Z H _ I h) λv l ⟨x,e,f,g,i⟩=>(Constant_none (isnot_none_gen ⟨.bl _,e,f,by rw[g.none_iff];rfl,i⟩))
def tB (t:TE):TT:=λZ H Q=>t Z H λx e=>∃c,x=.bl c/\Q c e
def Bv {op:CmpOp}{t:TE}(h:PC X op a b t)(e:behindInMarks op b=false:=by first|exact LG _ (by decide) (by decide)|rfl):PT X (.Compare a [op] [b] pos) (tB t):=by
 intro Y s Z H Q I f;refine wpAny_isTrue_Compare1 (jJ (h Y s Z H _ I f) λv n e=>jJ e λu o g=>jJ g λc p ⟨x,i,j,l,m⟩=>?_) e;obtain⟨d,rfl,q⟩:=m;cases l;exact wpAny_truthy_bool ⟨i,j,q⟩
def LK {e:Expr}{t:TE}(h:PE X e t)(f:∀c,isTrue e X.env c=(do let v <- c;standAt e.pos;holding [v] (truthy v)):=by intro _;rfl):PT X e (tB t):=by
 intro Y s Z H Q I g;refine isTrue_plain (jJ (h Y s Z H _ I g) λv n ⟨x,i,j,l,m⟩=>?_) (f _);obtain⟨d,rfl,q⟩:=m;cases l;exact wpAny_truthy_bool ⟨i,j,q⟩
variable {tA tB':TT}{rest:Ym}
def bV (t u:TT):TT:=λZ H Q=>t Z H λc e=>if c=true then u Z e Q else Q false e
def dj (t u:TT):TT:=λZ H Q=>t Z H λc e=>if c=true then Q true e else u Z e Q
def bO (t:TT):TT:=λZ H Q=>t Z H λc e=>Q (!c) e
def LL (f:PT X a tA):PW X (.BoolOp .And [a] pos) tA:=by
 intro g Y s Z H Q I h;refine isTrue_and (jJ (f Y s Z H Q I h) λc i e=>?_)
 grind[isTrue_and_nil]
def LM (f:PT X a tA):PW X (.BoolOp .Or [a] pos) tA:=by
 intro g Y s Z H Q I h;refine isTrue_or (jJ (f Y s Z H Q I h) λc i e=>?_)
 grind[isTrue_or_nil]
def LN (i:PT X a tA)(j:PW X (.BoolOp .And (b::rest) pos) tB'):PW X (.BoolOp .And (a::b::rest) pos) (bV tA tB'):=by
 intro l Y s Z H Q I h;refine isTrue_and (jJ (i Y s Z H _ I h) λc m ⟨e,f,g⟩=>?_);cases c with
 |true=>exact j l Y m Z e Q f g
 |false=>exact⟨e,f,g⟩
def uB (i:PT X a tA)(j:PW X (.BoolOp .Or (b::rest) pos) tB'):PW X (.BoolOp .Or (a::b::rest) pos) (dj tA tB'):=by
 intro l Y s Z H Q I h;refine isTrue_or (jJ (i Y s Z H _ I h) λc m ⟨e,f,g⟩=>?_);cases c with
 |true=>exact⟨e,f,g⟩
 |false=>exact j l Y m Z e Q f g
def LO (e:PT X a tA):PT X (.UnaryOp .Not a pos) (bO tA):=λY s Z H Q I h=>isTrue_not (e Y s Z H (λc f=>Q (!c) f) I h)
def vV (ta tb:TE):TE:=λZ H Q=>ta Z H λx e=>∃c,x=.bl c/\if c=true then tb Z e Q else Q (.bl false) e
def vK (ta:TE):TE:=λZ H Q=>ta Z H λx e=>∃c,x=.bl c/\Q (.bl (!c)) e
def LQ {op}{t:TE}(h:PE X a t):PE X (.BoolOp op [a] pos) t:=λY s Z H Q I c=>BoolOp_one (h Y s Z H Q I c)
def LR (i:PE X a ta)(j:PE X (.BoolOp .And (b::rest) pos) tb):PE X (.BoolOp .And (a::b::rest) pos) (vV ta tb):=by
 intro Y s Z H Q I h;refine BoolOp_and (jJ (i Y s Z H _ I h) λv l ⟨x,f,g,m,e⟩=>?_);obtain⟨c,rfl,e⟩:=e;cases m;refine wpAny_truthy_bool ?_;cases c with
 |true=>exact j Y l Z f Q g e
 |false=>exact⟨.bl false,f,g,rfl,e⟩
def LS (f:PE X a ta):PE X (.UnaryOp .Not a pos) (vK ta):=by
 intro Y s Z H Q I h;refine UnaryOp_ (jJ (f Y s Z H _ I h) λv l ⟨x,g,i,j,e⟩=>?_);obtain⟨c,rfl,e⟩:=e;cases j;exact not_of (wpAny_truthy_bool ⟨.bl (!c),g,i,rfl,e⟩)
end
def xb (K:W.Frag)(H:Hp)(a:Addr)(b:YF):Prop:=
 Rd H a (.lst b) \/
  ∃(o:Obj) (its:Yn) (n:Nat),K.lookup a=some o/\o.cls=.type "list" /\ o.dict=none/\o.data=.seq its n/\its.size<=sizeLine/\ju b its.toList
def yi (K:W.Frag)(H:Hp)(a:Addr)(b:YF):Prop:=
 Rd H a (.tup b) \/
  ∃(o:Obj) (its:Yn) (n:Nat),K.lookup a=some o/\o.cls=.type "tuple" /\ o.data=.seq its n/\its.size<=sizeLine/\ju b its.toList
def nI:Value->YG
 | .none=>some .non
 | .bool b=>some (.bl b)
 | .int i _=>some (.int i)
 | .str x _=>some (.str x)
 | .bytes b _=>some (.byt b)
 | .float b _=>some (.flt b)
 | .ref a=>some (.ref a)
 | .type n=>some (.ty n)
 |_=>none
def jv.abs {x:V}{u:Value}(r:jv x u):nI u=some x:=by
 cases x with
 |non=>cases r;rfl
 |bl _=>cases r;rfl
 |int _=>obtain⟨t,rfl⟩:=r;rfl
 |str _=>obtain⟨t,rfl⟩:=r;rfl
 |byt _=>obtain⟨t,rfl⟩:=r;rfl
 |flt _=>obtain⟨t,rfl⟩:=r;rfl
 |ref _=>cases r;rfl
 |ty _=>cases r;rfl
def jv.inj {x y:V}{u:Value}(r:jv x u)(q:jv y u):x=y:=Zqi (r.abs.symm.trans q.abs)
theorem ju.inj:∀{a ys:YF} {b:Yf},ju a b->ju ys b->a=ys:=λ{a ys b} g h=>by
 induction g generalizing ys with
 |nil=>cases h;rfl
 |cons r _ c =>
  cases h with
  |cons e t'=>rw[r.inj e,c t']
section
variable {X:Cx}{Y:Yb}{Z: St}{H:Hp}{s:Shared}{a:Addr}{xs ys:YF}
def xb.of {K:W.Frag}(h:H a=some (.lst xs)):xb K H a xs:=.inl (.inl h)
def yi.of {K:W.Frag}(h:H a=some (.tup xs)):yi K H a xs:=.inl (.inl h)
def Inv.list (I:Inv X Y Z H s)(h:xb X.K H a xs):∃its:Yf,ju xs its/\PlainL s.heap a its.toArray/\xs.length<=sizeLine:=by
 rcases h with h|⟨o,its,n,hk,hc,hd,hs,hz,r⟩
 .obtain⟨z,its,n,r,e⟩:=h.ok I.hok;exact⟨its,r,⟨_,n,e,rfl,rfl,rfl⟩,z⟩
 .refine⟨its.toList,r,⟨o,n,I.kIn a o hk,hc,hd,()⟩,?_⟩;have e:=r.length
  simp_all
def Inv.tuple (I:Inv X Y Z H s)(h:yi X.K H a xs):∃its:Yf,ju xs its/\IsTup s.heap a its.toArray/\xs.length<=sizeLine:=by
 rcases h with h|⟨o,its,n,hk,hc,hs,hz,r⟩
 .obtain⟨z,its,r,p⟩:=h.ok I.hok;exact⟨its,r,p,z.1⟩
 .refine⟨its.toList,r,⟨o,I.kIn a o hk,hc,n,()⟩,?_⟩;have e:=r.length
  simp_all
def Inv.list_inj (I:Inv X Y Z H s)(h:xb X.K H a xs)(c:xb X.K H a ys):xs=ys:=by
 obtain⟨its,r,⟨o,n,e,_,_,d⟩,_⟩:=I.list h;obtain⟨b,f,⟨g,i,j,_,_,l⟩,_⟩:=I.list c;have:its=b:=by simp_all
 subst this;exact r.inj f
def Inv.tuple_inj (I:Inv X Y Z H s)(h:yi X.K H a xs)(c:yi X.K H a ys):xs=ys:=by
 obtain⟨its,r,⟨o,e,_,n,d⟩,_⟩:=I.tuple h;obtain⟨b,f,⟨g,i,_,j,l⟩,_⟩:=I.tuple c;have:its=b:=by simp_all
 subst this;exact r.inj f
end
abbrev Cx.wish (X:Cx)(E:Ya):Cx:={ X with xe:=E }
abbrev Cx.nox (X:Cx):Cx:=X.wish λ_ _=>False
theorem Cx.Ok.wish {X:Cx}(ok:X.Ok)(E:Ya):(X.wish E).Ok:=
 ⟨ok.mod,ok.kind,ok.glob,ok.blt,ok.above,ok.inj,ok.has,ok.cab,ok.hd,ok.frames,ok.stk,ok.exf,ok.bs,ok.bsz,ok.noex,ok.exfs,ok.funs,ok.frf⟩
def Cx.Ok.unwish {X:Cx}{E:Ya}(ok:(X.wish E).Ok):X.Ok:=
 ⟨ok.mod,ok.kind,ok.glob,ok.blt,ok.above,ok.inj,ok.has,ok.cab,ok.hd,ok.frames,ok.stk,ok.exf,ok.bs,ok.bsz,ok.noex,ok.exfs,ok.funs,ok.frf⟩
section
variable {X:Cx}{Y:Yb}{Z: St}{H:Hp}{s:Shared}{E:Ya}
theorem Inv.wish (I:Inv X Y Z H s)(E):Inv (X.wish E) Y Z H s:=⟨I.ok.wish E,I.os,I.bare,I.base,I.loc,I.cell,I.free,I.freeC,I.pin,I.hok,I.len⟩
theorem Inv.unwish (I:Inv (X.wish E) Y Z H s):Inv X Y Z H s:=⟨I.ok.unwish,I.os,I.bare,I.base,I.loc,I.cell,I.free,I.freeC,I.pin,I.hok,I.len⟩
theorem SP.unwish {D:Ends}{f:Flow}{s':Shared}(h:SP (X.wish E) Y D f s'):SP X Y D f s':=by
 cases f with
 |next=>obtain⟨a,b,I,q⟩:=h;exact⟨a,b,I.unwish,q⟩
 |brk=>obtain⟨a,b,I,q⟩:=h;exact⟨a,b,I.unwish,q⟩
 |cont=>obtain⟨a,b,I,q⟩:=h;exact⟨a,b,I.unwish,q⟩
 |ret u=>obtain⟨v,a,b,I,r,q⟩:=h;exact⟨v,a,b,I.unwish,r,q⟩
theorem qG.nox {st:List Stmt}{t:TS}(h:qG X.nox st t):qG X st t:=λY s Z H D I a =>
 Zc (h Y s Z H D (I.wish _) a) (λ_ _ q=>q.unwish) ()
end
section
variable {X:Cx}{st:Stmt}{rest:List Stmt}{t u:TS}{e:Expr}{te:TE}{pos:Pos}
def vL:TS:=λD Z H=>D.nx Z H
def bM (t u:TS):TS:=λD Z H=>t { D with nx:=u D } Z H
def ZL:qG X [] vL:=λ_ _ Z H _ I h=>wpAny_execs_nil ⟨Z,H,I,h⟩
def X9 (a:PS X st t)(b:qG X rest u):qG X (st::rest) (bM t u):=by
 intro Y s Z H D I h;refine wpAny_execs_cons (jJ (a Y s Z H { D with nx:=u D } I h) λf c q=>?_);cases f with
 |next =>
  obtain⟨g,i,j,q⟩:=q;exact b Y c g i D j q
 |ret v=>exact q
 |brk=>exact q
 |cont=>exact q
def Bw (a:PS X st t):qG X [st] t:=by
 intro Y s Z H D I h;refine wpAny_execs_cons (jJ (a Y s Z H D I h) λf b q=>?_)
 grind[wpAny_execs_nil]
def LU:TS:=λD Z H=>D.bk Z H
def LV:PS X (.Break pos) LU:=λ_ _ Z H _ I h=>wpAny_Break ⟨Z,H,I,h⟩
def Inv.quiet {Y:Yb}{Z: St}{H:Hp}{s:Shared}(I:Inv X Y Z H s):interactive X.env=false:=by simp[interactive,I.ok.kind]
def vO (te:TE):TS:=λD Z H=>te Z H λ_ a=>D.nx Z a
def Bx (a:PE X e te)(hs:swapsWith e none pos.line X.env=pure false:=by rfl):PS X (.Expr e pos) (vO te):=λY s Z H D I h=>wpAny_Expr_any (jJ (a Y s Z H _ I h) λv g ⟨x,b,c,i,f⟩=>⟨Z,b,c,f⟩) I.quiet hs
def bN (te:TE):TS:=λD Z H=>te Z H D.rt
def ZM (a:PE X e te):PS X (.Return (some e) pos) (bN te):=λY s Z H D I h=>wpAny_Return_some (jJ (a Y s Z H _ I h) λv i ⟨x,b,c,f,g⟩=>⟨x,Z,b,c,f,g⟩)
def bQ (c:TT)(t u:TS):TS:=λD Z H=>c Z H λb a=>if b=true then t D Z a else u D Z a
def Bz {c:Expr}{a b:List Stmt}{f:TT}(m:PT X c f)(n:qG X a t)(o:qG X b u):PS X (.If c a b pos) (bQ f t u):=by
 intro Y s Z H D I h;refine wpAny_If (jJ (m Y s Z H _ I h) λd g ⟨i,j,l⟩=>?_);cases d with
 |true=>exact n Y g Z i D j l
 |false=>exact o Y g Z i D j l
end
abbrev TG:=V->St->Hp->(St->Hp->Prop)->Prop
abbrev wU:=YF->St->Hp->(St->Hp->Prop)->Prop
def PG (X:Cx)(a:Expr)(t:TG):Prop:=
 ∀(Y:Yb) (s:Shared) (Z: St) (H:Hp) (v:V) (u:Value) (Q:St->Hp->Prop),Inv X Y Z H s->jv v u->t v Z H Q ->
  YJ X (assign a X.env u) (λ_ s'=>∃b c,Inv X Y b c s'/\Q b c) X.xe s
def b5 (X:Cx)(f:Ym)(t:wU):Prop:=
 ∀(Y:Yb) (s:Shared) (Z: St) (H:Hp) (a:YF) (b:Yf) (Q:St->Hp->Prop),Inv X Y Z H s->ju a b->t a Z H Q ->
  YJ X (assignInOrder ((assignEach f X.env).map (·.2)) b) (λ_ s'=>∃c e,Inv X Y c e s'/\Q c e) X.xe s
abbrev vm:=V->V->V->Hp->(Hp->Prop)->Prop
def f6 (X:Cx)(t:vm):Prop:=
 ∀(Y:Yb) (s:Shared) (Z: St) (H:Hp) (o i v:V) (a b u:Value) (Q:Hp->Prop),Inv X Y Z H s->jv o a->jv i b->jv v u->t o i v H Q ->
  YJ X (setItem a b u) (λ_ s'=>∃c,Inv X Y Z c s'/\Q c) X.xe s
section
variable {X:Cx}{pos:Pos}
def KJ (i:Nat):TG:=λv Z H Q=>Q (Z.set i (some v)) H
def JW {i:Nat}{x:Str}(a:X.N.Nodup)(b:X.N[i]? = some x)(c:yG X.env.scope x)(e:X.fn x=true\/X.env.scope.names.lookup x=some .local:=by trivial):PG X (.Name x pos) (KJ i):=λY s Z H v u Q I r h=>wpAny_assign_Name (ZK I a b c r (λs' f=>⟨_,H,f,h⟩) e)
def kF:wU:=λa Z H Q=>a=[]/\Q Z H
def DQ (t:TG)(u:wU):wU:=λa Z H Q=>∃v r,a=v::r/\t v Z H λb c=>u r b c Q
def Wd:b5 X [] kF:=λY s Z H a b Q I r h=>have ⟨e,h⟩:=h;assignInOrder_nil ⟨Z,H,I,h⟩
def QD {e:Expr}{es:Ym}{t:TG}{u:wU}(a:PG X e t)(b:b5 X es u)
 (hs:(assignEach (e::es) X.env).map (·.2)=assign e X.env::(assignEach es X.env).map (·.2):=by rfl):b5 X (e::es) (DQ t u):=by
 intro Y s Z H n o Q I r h;obtain⟨v,p,c,h⟩:=h;subst c;cases r with
 |cons r f =>
  rw[hs];exact assignInOrder_cons (jJ (a Y s Z H _ _ _ I r h) λ_ g ⟨i,j,l,m⟩=>(b Y g i j _ _ Q l f m))
def kB (K:W.Frag)(n:Nat)(t:wU):TG:=λv Z H Q=>∃a b,v=.ref a/\yi K H a b/\b.length=n/\t b Z H Q
def We {es:Ym}{k:Nat}{t:wU}{n:Nat}(g:X.calm=true)(h:b5 X es t)
 (i:(assignEach es X.env).length=n:=by rfl) (c:(assignEach es X.env).findIdx? (·.1)=none:=by rfl):PG X (.Tuple es k pos) (kB X.K n t):=by
 intro Y s Z H v u Q I r f;obtain⟨a,j,l,m,p,f⟩:=f;subst l;cases r;obtain⟨its,q,w,hz⟩:=I.tuple m;refine assign_Tuple_tuple (I.ok.hd g) w (by simp[i,<- p,q.length]) c λx y=>?_;have z:Inv X Y Z H { s with heap:=x }:=I.kept λb o e=>y b o (Zi (Zk e)) e;exact h Y _ Z H j _ Q z () f
def y0 (a b:TE)(t:vm):TG:=λv Z H Q=>a Z H λo c=>b Z c λi e=>t o i v e λf=>Q Z f
def LW {o i:Expr}{c e:TE}{t:vm}(f:PE X o c)(g:PE X i e)(hs:f6 X t)
 (G:∀v,assign (.Subscript o i pos) X.env v=(do
  let a <- holding [v] (eval o X.env)
  let b <- holding [v,a] (eval i X.env)
  standAt pos
  holding [v,a,b] (setItem a b v)
  release [v,a,b] []):=by intro _;rfl):PG X (.Subscript o i pos) (y0 c e t):=λY s Z H v u Q I r h=>Za (wpAny_holding (jJ (f Y s Z H _ I h) λa j ⟨x,l,m,n,p⟩=>(Za (wpAny_holding (jJ (g Y j Z l _ m p) λb q ⟨y,w,z,A,B⟩=>(Za (wpAny_standAt (Za (wpAny_holding (jJ (hs Y q Z w x y v a b u _ z n A r B) λ_ J ⟨C,E,F⟩=>(wpAny_release ⟨Z,C,E,F⟩)))))))))))
def yY (a:TE)(g:TG):TS:=λD Z H=>a Z H λx b=>g x Z b D.nx
def LX {tg e:Expr}{a:TE}{g:TG}(b:PE X e a)(c:PG X tg g)(hs:swapsWithSole [tg] e pos.line X.env=pure false:=by rfl)(f:swappedStores [tg] e X.env=pure none:=by rfl)
 (i:(assignEach [tg] X.env).map (·.2)=[assign tg X.env]:=by rfl):PS X (.Assign [tg] e pos) (yY a g):=by
 intro Y s Z H D I h;refine wpAny_Assign_stores (jJ (b Y s Z H _ I h) λv j ⟨x,l,m,n,o⟩=>?_) hs f;rw[i];exact jJ (c Y j Z l x v _ m n o) λ_ p q=>q
def DR {i:Nat}{x:Str}{e:Expr}{b:TE}{a:Pos}(c:X.N.Nodup)(f:X.N[i]? = some x)(g:yG X.env.scope x)(j:PE X e b)(hs:swapsWith e (some (.Name x a)) pos.line X.env=pure false:=by rfl)(l:X.fn x=true\/X.env.scope.names.lookup x=some .local:=by trivial):
 PS X (.Assign [.Name x a] e pos) (yY b (KJ i)):=λY s Z H D I h=>wpAny_Assign_Name (jJ (j Y s Z H _ I h) λv r ⟨y,m,n,o,p⟩=>(ZK n c f g o (λt q=>⟨_,m,q,p⟩) l)) hs
end
structure It where
 go:Nat->Hp->Prop
 yld:Nat->Hp->V->Hp->Prop
 stop:Nat->Hp->Prop
def xZ (X:Cx)(Y:Yb)(H:Hp)(b:Addr):Prop:=
 H b=none/\b≠X.env.locals/\b∉X.fs/\(b∈X.ex\/X.s₀.heap.objs.size<=b)/\(∀x c,X.env.cells.lookup x=some c->c≠b)/\∀p∈X.pn++Y,p.1≠b
def Inv.fpOk {X:Cx}{Y:Yb}{Z: St}{H f:Hp}{s:Shared}{b:Addr}(I:Inv X Y Z H s)(a:s.heap.objs.size<=b)(g:f b=none):xZ X Y f b:=by
 refine⟨g,U6 (Zg I.lt a),I.nofs a,.inr (Zh I.sz a),λx c e z=>?_,λp hp z=>?_⟩
 .obtain⟨v,q⟩:=I.cell x c e;exact Zn (Zg q.lt (by rwa [z])) (Zy _)
 .exact Zn (Zg (Zk (I.pin p hp).1) (by rwa [z])) (Zy _)
structure Turn (P:Program)(w:World)(K:W.Frag)(tg:Expr)(J:It)(fp:Yl)(it:Addr)(tn:Nat->Heap->Prop):Prop where
 mem:it∈fp
 obj:∀i h,tn i h->∀b∈fp,∃o,h.get? b=some o/\∀v,o.data ≠ .cell v
 keep:∀i h h',tn i h->(∀b∈fp,∀o,h.get? b=some o->h'.get? b=some o)->tn i h'
 item:∀(X:Cx),X.prog=P->X.w=w->X.K=K->X.calm=true->∀(i:Nat) (Y:Yb) (s:Shared) (Z: St) (H:Hp) (E:Ya),Inv X Y Z H s->(∀b∈fp,xZ X Y H b)->tn i s.heap->J.go i H ->
  wpAny (model P w) X.A (pyNext (.ref it)) (λr s1=>∃u,r=some u /\
   wpAny (model P w) X.A (letOwnedTupleGo tg (.ref it) u) (λ_ s2=>∃x H',Inv X Y Z H' s2/\jv x u/\J.yld i H x H'/\tn (i+1) s2.heap/\∀b∈fp,H' b=none) E s1) E s
 done:∀(X:Cx),X.prog=P->X.w=w->X.K=K->X.calm=true->∀(i:Nat) (Y:Yb) (s:Shared) (Z: St) (H:Hp) (E:Ya),Inv X Y Z H s->(∀b∈fp,xZ X Y H b)->tn i s.heap->J.stop i H ->
  wpAny (model P w) X.A (pyNext (.ref it)) (λr s1=>r=none/\Inv X Y Z H s1) E s
 self:∀(A:Around) (i:Nat) (s:Shared) (Q:Ya) (E:Ya),tn i s.heap->Q (.ref it) s->wpAny (model P w) A (pyIter (.ref it)) Q E s
abbrev TI:=St->Hp->(It->Hp->Prop)->Prop
def rQ (X:Cx)(Y:Yb)(Z: St)(tg:Expr)(R:It->Hp->Prop)(a:Value)(e:Shared):Prop:=
 ∃(it:Addr) (f:Yl) (g:Nat->Heap->Prop) (J:It) (c:Hp),a=.ref it/\Inv X Y Z c e/\Turn X.prog X.w X.K tg J f it g/\g 0 e.heap/\(∀b∈f,xZ X Y c b)/\R J c
def PI (X:Cx)(tg a:Expr)(wi:TI):Prop:=
 ∀(Y:Yb) (s:Shared) (Z: St) (H:Hp) (R:It->Hp->Prop),Inv X Y Z H s->wi Z H R ->
  YJ X (eval a X.env) (λv b=>YJ X (pyIter v) (rQ X Y Z tg R) X.xe b) X.xe s
def B0 {M:Model}{A:Around}{E:Ya}{s:Shared}{tg:Expr}{it:Addr}{u:Value}{o:Obj}{n:String}{b:Yn}{Q:Unit->YC}(c:s.heap.get? it=some o)(e:o.cls=.type n)(f:o.data=.fields b)
 (g: ["enumerate", "zip", "dict_itemiterator", "dict_reverseitemiterator", "odict_iterator", "itertools.zip_longest", "itertools.pairwise"].contains n=false) (a:Q Yt s):wpAny M A (letOwnedTupleGo tg (.ref it) u) Q E s:=by
 cases tg<;>first
  |exact Zb a
  | (cases u<;>first
   |exact Zb a
   | (
    refine Za (wpAny_load c ?_);rw[e,f];show wpAny M A (if(["enumerate", "zip", "dict_itemiterator", "dict_reverseitemiterator", "odict_iterator", "itertools.zip_longest", "itertools.pairwise"].contains n&&b[0]? == some (rawInt _))=true then _ else _) Q E s;rw[Ze (by intro h;rw[g,Bool.false_and] at h;cases h)];exact Zb a))
def rV (K:W.Frag)(a:Addr):It:=
 ⟨λi H=>∃b x,xb K H a b/\b[i]? = some x,λi H x c=>c=H/\∀b,xb K H a b->b[i]? = some x,λi H=>∃b,xb K H a b/\b.length<=i⟩
def rT (K:W.Frag)(a:Addr):It:=
 ⟨λi H=>∃b x,yi K H a b/\b[i]? = some x,λi H x c=>c=H/\∀b,yi K H a b->b[i]? = some x,λi H=>∃b,yi K H a b/\b.length<=i⟩
def b7 (lo:Int)(n:Nat):It:=⟨λi _=>i<n,λi H x a=>a=H/\x=.int (lo+i),λi _=>n<=i⟩
def LY {P:Program}{w:World}{K:W.Frag}{tg:Expr}(a it):Turn P w K tg (rV K a) [it] it (λi h=>h.IsListIter it a i) where
 mem:=by simp
 obj:=λi h st b f=>by
  obtain⟨o,e,c,d⟩:=st
  simp_all
 keep:=λi h m st k=>st.at λo e=>k it () o e
 item:=by
  intro X n q r F i Y s Z H E I j st t;subst n q r;obtain⟨J,x,l,G⟩:=t;obtain⟨its,v,p,hz⟩:=I.list l;obtain⟨u,S,L⟩:=v.get G;obtain⟨y,z,M,A,B,C⟩:=j it ();refine wpAny_pyNext_list_item st p.isList (x:=u) () λm g N=>?_;have O:Inv X Y Z H { s with heap:=m }:=I.turned (λb o f e=>(N.2 b f).trans e) y z A B C;obtain⟨o,e,c,d⟩:=id g;exact⟨u,rfl,B0 e c d (by decide) ⟨x,H,O,L,⟨rfl,λys Q=>by rwa [I.list_inj Q l]⟩,g,λb f=>(j b f).1⟩⟩
 done:=by
  intro X n q r F i Y s Z H E I j st t;subst n q r;obtain⟨J,l,G⟩:=t;obtain⟨its,v,p,hz⟩:=I.list l;obtain⟨y,z,M,A,B,C⟩:=j it ();have T:=v.length;exact wpAny_pyNext_list_end (I.ok.hd F) st p.isList (by simp;lia) λm R=>⟨rfl,I.turned (λb o f e=>R b o f e) y z A B C⟩
 self:=λ_ _ _ _ _ st h=>wpAny_pyIter_listiter st h
def LZ {P:Program}{w:World}{K:W.Frag}{tg:Expr}(a it):Turn P w K tg (rT K a) [it] it (λi h=>h.IsTupleIter it a i) where
 mem:=by simp
 obj:=λi h st b g=>by
  obtain⟨o,e,c,d⟩:=st
  simp_all
 keep:=λi h l st k=>st.at ()
 item:=by
  intro X m n q F i Y s Z H E I r st t;subst m n q;obtain⟨J,x,j,G⟩:=t;obtain⟨its,v,p,hz⟩:=I.tuple j;obtain⟨u,L,M⟩:=v.get G;obtain⟨y,z,N,A,B,C⟩:=r it ();refine wpAny_pyNext_tuple_item st (p) (by simpa using L) λl f O=>?_;have Q:Inv X Y Z H { s with heap:=l }:=I.turned (λb o g e=>(O.2 b g).trans e) y z A B C;obtain⟨o,e,c,d⟩:=id f;exact⟨u,rfl,B0 e c d (by decide) ⟨x,H,Q,M,⟨rfl,λys R=>by rwa [I.tuple_inj R j]⟩,f,()⟩⟩
 done:=by
  intro X m n q F i Y s Z H E I r st t;subst m n q;have ⟨J,j,G⟩:=t;have ⟨its,v,p,hz⟩:=I.tuple j;have ⟨y,z,N,A,B,C⟩:=r it ();have T:=v.length;exact wpAny_pyNext_tuple_end (I.ok.hd F) st (p) (by simp;lia) λl S=>⟨rfl,I.turned (λb o g e=>S b o g e) y z A B C⟩
 self:=λ_ _ _ _ _ st h=>wpAny_pyIter_tupleiter st h
def Ma {P:Program}{w:World}{K:W.Frag}{tg:Expr}(it)(lo)(n):Turn P w K tg (b7 lo n) [it] it (λi h=>IsRangeIter h it (lo+(i:Nat)*1) ((n:Int)-(i:Nat)) 1) where
 mem:=by simp
 obj:=by grind
 keep:=by grind
 item:=by
  intro X u x y c i Y s Z H E I f st g;obtain⟨j,l,z,m,p,q⟩:=f it ();refine(Walks.range (I.ok.hd c) it lo 1 n).item i s _ _ g st λv r tk A a G=>?_;obtain⟨t,rfl⟩:=A;have B:Inv X Y Z H { s with heap:=r,toks:=tk }:=I.turned () j l m p q;refine⟨_,rfl,B0 a rfl rfl (by decide) ⟨.int (lo+i),H,B,⟨t,?_⟩,⟨rfl,rfl⟩,a,()⟩⟩;simp
 done:=by
  intro X u x y c i Y s Z H E I f st g;obtain⟨j,l,z,m,p,q⟩:=f it ();exact wpAny_pyNext_range_end (I.ok.hd c) st (by have:n<=i:=g;lia) λr C=>⟨rfl,I.turned (λb o F e=>C b o F e) j l m p q⟩
 self:=λ_ _ _ _ _ st h=>wpAny_pyIter_rangeiter st h
section
variable {X:Cx}{tg:Expr}
def kr (K:W.Frag)(c:TE):TI:=λZ H R=>c Z H λx b=>∃a,x=.ref a/\(∃e,xb K b a e)/\R (rV K a) b
def mD (K:W.Frag)(c:TE):TI:=λZ H R=>c Z H λx b=>∃a,x=.ref a/\(∃e,yi K b a e)/\R (rT K a) b
def Mb {l:Expr}{g:TE}(i:PE X l g):PI X tg l (kr X.K g):=by
 intro Y s Z H R I h;refine jJ (i Y s Z H _ I h) λv f ⟨x,j,c,m,n⟩=>?_;obtain⟨a,e,⟨u,r⟩,q⟩:=n;subst e;cases m;obtain⟨its,w,p,hz⟩:=c.list r;refine wpAny_pyIter_list p.isList (⟨f.heap.objs.size,[f.heap.objs.size],_,_,j,rfl,c.kept λb o e=>Zq _ e,LY a _,⟨_,Zr _ rfl,rfl,rfl⟩,λb t=>?_,q⟩);have e:b=f.heap.objs.size:=by simpa using t
 subst e;exact c.fpOk (Zf _) (c.hok.fresh (Zf _))
def Mc {l:Expr}{g:TE}(i:PE X l g):PI X tg l (mD X.K g):=by
 intro Y s Z H R I h;refine jJ (i Y s Z H _ I h) λv f ⟨x,j,c,m,n⟩=>?_;obtain⟨a,e,⟨u,r⟩,q⟩:=n;subst e;cases m;obtain⟨its,w,p,hz⟩:=c.tuple r;refine wpAny_pyIter_tuple (p) (⟨f.heap.objs.size,[f.heap.objs.size],_,_,j,rfl,c.kept λb o e=>Zq _ e,LZ a _,⟨_,Zr _ rfl,rfl,rfl⟩,λb t=>?_,q⟩);have e:b=f.heap.objs.size:=by simpa using t
 subst e;exact c.fpOk (Zf _) (c.hok.fresh (Zf _))
def Md {Y:Yb}{Z: St}{H:Hp}{s:Shared}{R:It->Hp->Prop}{E:Ya}{lo a:Int}{t u v:Tok}{tk:Nat}(I:Inv X Y Z H s)(f: -(2 ^ 62)<=lo)(g:lo<2 ^ 62)(h: -(2 ^ 62)<=a)(i:a<2 ^ 62)
 (q:R (b7 lo (a-lo).toNat) H):YJ X (pyIter (.ref s.heap.objs.size)) (rQ X Y Z tg R) E { s with heap:=s.heap.push { cls:=.type "range",data:=.fields #[.int lo t,.int a u,.int 1 v] },toks:=tk }:=by
 refine wpAny_pyIter_range (IsRange.new ..) (small_one f g h i) ?_;have c:Inv X Y Z H { s with heap:=s.heap.push { cls:=.type "range",data:=.fields #[.int lo t,.int a u,.int 1 v] },toks:=tk }:=I.kept λb o e=>Zq _ e;refine⟨(s.heap.push { cls:=.type "range",data:=.fields #[.int lo t,.int a u,.int 1 v] }).objs.size,[(s.heap.push { cls:=.type "range",data:=.fields #[.int lo t,.int a u,.int 1 v] }).objs.size],_,_,H,rfl,
  c.kept λb o e=>Zq _ e,Ma _ lo (a-lo).toNat,?_,λb m=>?_,q⟩
 .have j:lo+((0:Nat):Int)*1=lo:=by simp
  have l:(((a-lo).toNat:Nat):Int)-((0:Nat):Int)=Builtin.Range.rangeSize lo a 1:=by grind[rangeSize_one]
  rw[j,l];exact Zr _ rfl
 .have e:b=(s.heap.push { cls:=.type "range",data:=.fields #[.int lo t,.int a u,.int 1 v] }).objs.size:=by simp_all
  subst e;exact c.fpOk (Zf _) (c.hok.fresh (Zf _))
def kq (a:TA):TI:=λZ H R=>a Z H λb c=>∃j:Int,b=[.int j] /\ -(2 ^ 62)<=j/\j<2 ^ 62/\R (b7 0 j.toNat) c
def Me {a:Expr}{f:TA}{p b:Pos}(g:Gl X "range")(i:X.mg "range" = none)(l:PA X [a] f)(hs:starEach [a] X.env=[(false,eval a X.env)]:=by rfl):PI X tg (.Call (.Name "range" p) [a] [] b) (kq f):=by
 intro Y s Z H R I h;refine Call_ (WT I g i boot_range (PyProof.Rows.callWith_type1 (jJ (l b Y s Z H _ I h) λv w ⟨x,y,m,n,c⟩=>?_) hs rfl));obtain⟨j,e,c,o,q⟩:=c;subst e;cases n with
 |cons r u =>
  cases u;obtain⟨t,rfl⟩:=r;exact call_range_1 (Md m () () c o (by simpa using q))
def bR (wi:TI)(g:TG)(e:TS):TS:=λD Z H=>wi Z H λJ f=>∃W:Nat->Nat->St->Hp->Prop,(∃m,W 0 m Z f)/\∀i m Z H,W i m Z H ->
 (J.stop i H/\D.nx Z H)\/(J.go i H/\∃N:St->Hp->Prop,(∀b a,N b a->∃c,c<m/\W (i+1) c b a)/\∀x a,J.yld i H x a->g x Z a λh j=>e { D with nx:=N,ct:=N,bk:=D.nx } h j)
def XA (a:Yl)(h:Heap):Yb:=a.filterMap λb=>(h.get? b).map λo=>(b,o)
def ZN {a:Yl}{h:Heap}{b:Addr}{o:Obj}(c:b∈a)(e:h.get? b=some o):(b,o)∈XA a h:=Jq.mpr ⟨b,c,by rw[e];rfl⟩
def Mf {a:Yl}{h:Heap}{p:Addr×Obj}(hp:p∈XA a h):p.1∈a/\h.get? p.1=some p.2:=by
 obtain⟨b,c,e⟩:=Jq.mp hp;cases q:h.get? b with
 |none=>simp_all
 |some o =>
  grind
def Inv.pinned {Y:Yb}{Z: St}{H:Hp}{s:Shared}{a:Yl}(I:Inv X Y Z H s)(c:∀b∈a,xZ X Y H b)(g:∀b∈a,∃o,s.heap.get? b=some o/\∀v,o.data ≠ .cell v):Inv X (Y++XA a s.heap) Z H s:=
 I.pins_of λp hp=>(Jb.mp hp).elim (λz=>I.pin p ()) λz=>by
  obtain⟨f,e⟩:=Mf z;obtain⟨h,i,j,_⟩:=c p.1 f
  grind
def Inv.unpinned {Y pl:Yb}{Z: St}{H:Hp}{s:Shared}(I:Inv X (Y++pl) Z H s):Inv X Y Z H s:=I.pins_of λp hp=>I.pin p ()
def DS {a:Expr}{t:List Stmt}{wi:TI}{g:TG}{S:TS}{L:Pos}(hp:PassesOwn (model X.prog X.w) X.A X.env X.xe)(U:X.calm=true)(hi:PI X tg a wi)(hg:PG X tg g)(c:qG X t S)
 (hs:∀x,foldedSetIterable a X.env x=pure x:=by intro _;rfl):PS X (.For tg a t [] L) (bR wi g S):=by
 intro Y s Z H D I h;refine wpAny_For (jJ (hi Y s Z H _ I h) λv s1 h1=>jJ h1 λitv s2 h2=>?_) hs;obtain⟨it,y,tn,J,H2,e,I2,T,M,f2,W,⟨m0,w0⟩,z⟩:=h2;subst e;have j:∀{q:Hp},(∀b∈y,q b=none)->∀b∈y,xZ X Y q b:=λhn b c=>⟨hn b c,(f2 b c).2⟩;refine codeAny_forLoop_any (λn s'=>∃i A q,Inv X Y A q s'/\tn i s'.heap/\(∀b∈y,q b=none)/\W i n A q) ?_ m0 ⟨0,Z,H2,I2,M,λb c=>(f2 b c).1,w0⟩;rintro n s3 ⟨i,B,K,I3,C,E,w3⟩;rcases z i n B K w3 with ⟨F,qn⟩|⟨go,N,hN,step⟩
 .refine wpAny_passesOwn hp (jJ (T.done X rfl rfl rfl U i Y s3 B K X.xe I3 (j E) C F) λr s4 ⟨O,I4⟩=>?_);subst O;exact wpAny_execs_nil ⟨B,K,I4,qn⟩
 .refine wpAny_passesOwn hp (jJ (T.item X rfl rfl rfl U i Y s3 B K X.xe I3 (j E) C go) λr s4 ⟨u,O,h4⟩=>?_);subst O;refine wpAny_passesOwn hp (jJ h4 λ_ s5 ⟨x,H5,I5,r5,y5,wn,P⟩=>?_);have Q:=I5.pinned (j P) (T.obj _ _ wn);refine wpAny_passesOwn hp (jJ (hg _ s5 B H5 x u _ Q r5 (step x H5 y5)) λ_ s6 ⟨Z6,H6,I6,q6⟩=>?_);refine wpAny_passesOwn hp (jJ (c _ s6 Z6 H6 _ I6 q6) λf R w=>?_);have again:∀{l:St} {H7:Hp},Inv X (Y++XA y s5.heap) l H7 R->N l H7->∃m,m<n/\∃i A q,Inv X Y A q R/\tn i R.heap/\(∀b∈y,q b=none)/\W i m A q:=λ{l H7} p G=>by
   obtain⟨m',hm,w7⟩:=hN l H7 G;refine⟨m',hm,i+1,l,H7,p.unpinned,T.keep _ _ _ wn λb c o e=>(p.pin (b,o) (Uq _ (Uq _ (ZN c e)))).1,λb c=>?_,w7⟩;obtain⟨o,e,d⟩:=T.obj _ _ wn b c;exact(p.pin (b,o) (Uq _ (Uq _ (ZN c e)))).2.1
  cases f with
  |next=>obtain⟨l,H7,p,G⟩:=w;exact again p G
  |cont=>obtain⟨l,H7,p,G⟩:=w;exact again p G
  |brk=>obtain⟨l,H7,p,w⟩:=w;exact⟨l,H7,p.unpinned,w⟩
  |ret v=>obtain⟨x7,l,H7,p,r7,w⟩:=w;exact⟨x7,l,H7,p.unpinned,r7,w⟩
end
abbrev R2:=V->V->Hp->VK->Prop
def xi (X:Cx)(f:Value->Value->Sem Value)(r:R2):Prop:=
 ∀(Y:Yb) (s:Shared) (Z: St) (H:Hp) (x y:V) (v u:Value) (Q:VK),Inv X Y Z H s->jv x v->jv y u->r x y H Q ->
  YJ X (f v u) (EP X Y Z Q) X.xe s
def w5 (X:Cx)(f:Value->Sem Value)(r:V->Hp->VK->Prop):Prop:=
 ∀(Y:Yb) (s:Shared) (Z: St) (H:Hp) (x:V) (v:Value) (Q:VK),Inv X Y Z H s->jv x v->r x H Q ->
  YJ X (f v) (EP X Y Z Q) X.xe s
def jU (X:Cx)(f:Value)(r:YF->Hp->VK->Prop):Prop:=
 ∀(Y:Yb) (s:Shared) (Z: St) (H:Hp) (a:YF) (b:Yf) (Q:VK),Inv X Y Z H s->ju a b->r a H Q ->
  YJ X (call f b) (EP X Y Z Q) X.xe s
def wP (r:R2)(a b:TE):TE:=λZ H Q=>a Z H λx c=>b Z c λy e=>r x y e Q
def nZ (r:V->Hp->VK->Prop)(a:TE):TE:=λZ H Q=>a Z H λx b=>r x b Q
def rI (C:Int->Int->Prop)(g:Int->Int->V):R2:=λx y H Q=>∃i j,x=.int i/\y=.int j/\C i j/\Q (g i j) H
def v0 (g:Int->Int->V):R2:=λx y H Q=>∃i j,x=.int i/\y=.int j/\Q (g i j) H
def rU (g:Int->V):V->Hp->VK->Prop:=λx H Q=>∃i,x=.int i/\Q (g i) H
section
variable {X:Cx}{a b c:Expr}{ta tb tc:TE}{pos:Pos}
def vk (j:PE X a ta)(l:PE X b tb){Y:Yb}{s:Shared}{Z: St}{H:Hp}{R:V->V->Hp->Prop}(I:Inv X Y Z H s)
 (h:ta Z H λx i=>tb Z i λy e=>R x y e) {Q:Ya} {f:Value->Value->Sem Value}
 (m:∀v u g x y e,Inv X Y Z e g->jv x v->jv y u->R x y e->YJ X (f v u) Q X.xe g):
 YJ X (eval a X.env) (λv s₁=>YJ X (eval b X.env) (λu s₂=>YJ X (f v u) Q X.xe s₂) X.xe s₁) X.xe s:=jJ (j Y s Z H _ I h) λv n ⟨x,i,o,p,q⟩=>(jJ (l Y n Z i _ o q) λu g ⟨y,e,r,t,w⟩=>(m v u g x y e r p t w))
def DT {op:Operator}{r:R2}(e:xi X (binaryOp op) r)(f:PE X a ta)(g:PE X b tb):PE X (.BinOp a op b pos) (wP r ta tb):=λY s Z H Q I h=>wpAny_BinOp (vk f g I h λv u i x y j l m n q=>e Y i Z j x y v u Q l m n q)
def uH {op:UnaryOp}{r:V->Hp->VK->Prop}(e:w5 X (unaryOp op) r)(f:PE X a ta):PE X (.UnaryOp op a pos) (nZ r ta):=λY s Z H Q I h=>UnaryOp_ (jJ (f Y s Z H _ I h) λv g ⟨x,i,j,l,m⟩=>e Y g Z i x v Q j l m)
def fQ {f:Value->Value->Sem Value}{C:Int->Int->Prop}{g:Int->Int->Int}
 (rule:∀i j t u s Q E,C i j->Q (.int (g i j) s.toks) { s with toks:=s.toks+1 }->YJ X (f (.int i t) (.int j u)) Q E s):
 xi X f (rI C λi j=>.int (g i j)):=by
 intro Y s Z H x y v u Q I e l h;obtain⟨i,j,rfl,rfl,m,q⟩:=h;obtain⟨t,rfl⟩:=e;obtain⟨t',rfl⟩:=l;exact rule i j t t' s _ _ m ⟨.int (g i j),H,I.tok _,⟨_,rfl⟩,q⟩
def uS {f:Value->Value->Sem Value}{g:Int->Int->Int}
 (rule:∀i j t u s Q E,Q (.int (g i j) s.toks) { s with toks:=s.toks+1 }->YJ X (f (.int i t) (.int j u)) Q E s):
 xi X f (v0 λi j=>.int (g i j)):=by
 intro Y s Z H x y v u Q I e l h;obtain⟨i,j,rfl,rfl,q⟩:=h;obtain⟨t,rfl⟩:=e;obtain⟨t',rfl⟩:=l;exact rule i j t t' s _ _ ⟨.int (g i j),H,I.tok _,⟨_,rfl⟩,q⟩
def mq {f:Value->Value->Sem Value}{g:Int->Int->Bool}
 (rule:∀i j t u s Q E,Q (.bool (g i j)) s->YJ X (f (.int i t) (.int j u)) Q E s):
 xi X f (v0 λi j=>.bl (g i j)):=by
 intro Y s Z H x y v u Q I e l h;obtain⟨i,j,rfl,rfl,q⟩:=h;obtain⟨t,rfl⟩:=e;obtain⟨t',rfl⟩:=l;exact rule i j t t' s _ _ ⟨.bl (g i j),H,I,rfl,q⟩
def fF (i j:Int):Prop:=0<j/\j<1073741824
def fE (i j:Int):Prop:=0<=j/\j<=1000000/\i.natAbs<2 ^ 64
def Mg:xi X (binaryOp .Add) (v0 λi j=>.int (i+j)):=uS λ_ _ _ _ _ _ _ q=>add_int q
def Mh:xi X (binaryOp .Sub) (v0 λi j=>.int (i-j)):=uS λ_ _ _ _ _ _ _ q=>sub_int q
def Mi:xi X (binaryOp .FloorDiv) (rI fF λi j=>.int (i / j)):=fQ λi j _ _ _ _ _ e q=>have f:=e.1;have g:=e.2;floordiv_int () (by rwa [Int.fdiv_eq_ediv_of_nonneg i ()]) (.inl (PyProof.noPylong_small ()))
def Mj:xi X (binaryOp .Mod) (rI (λ_ j=>0<j) λi j=>.int (i % j)):=fQ λi j _ _ _ _ _ e q=>mod_int' () (by rwa [Int.fmod_eq_emod_of_nonneg i ()])
def Ml:xi X (binaryOp .Pow) (rI fE λi j=>.int (i ^ j.toNat)):=fQ λ_ _ _ _ _ _ _ e q=>pow_int_small e.1 e.2.1 e.2.2 q
def di {f:Value->Sem Value}{g:Int->Int}
 (rule:∀i t s Q E,Q (.int (g i) s.toks) { s with toks:=s.toks+1 }->YJ X (f (.int i t)) Q E s):
 w5 X f (rU λi=>.int (g i)):=by
 intro Y s Z H x v Q I e h;obtain⟨i,rfl,q⟩:=h;obtain⟨t,rfl⟩:=e;exact rule i t s _ _ ⟨.int (g i),H,I.tok _,⟨_,rfl⟩,q⟩
def Mm:w5 X (unaryOp .USub) (rU λi=>.int (-i)):=di λ_ _ _ _ _ q=>neg_int q
end
def scal:V->V->Bool
 | .non,.non=>true | .non,.int _=>true | .int _,.non=>true | .non,.bl _=>true | .bl _,.non=>true | .non,.str _=>true | .str _,.non=>true
 | .int _,.int _=>true | .bl _,.bl _=>true | .str _,.str _=>true | .byt _,.byt _=>true
 | .int _,.str _=>true | .str _,.int _=>true | .bl _,.str _=>true | .str _,.bl _=>true
 |_,_=>false
def dw:R2:=λx y H Q=>scal x y=true/\Q (.bl (decide (x=y))) H
def du:R2:=λx y H Q=>scal x y=true/\Q (.bl (!decide (x=y))) H
def DU {i j:Int}:decide (V.int i=V.int j)=(i == j):=by
 rw[Vf];simp
def DV {i j:Bool}:decide (V.bl i=V.bl j)=(i == j):=by
 rw[Vf];simp
def DW {i j:Str}:decide (V.str i=V.str j)=(i == j):=by
 rw[Vf];simp
def DX {i j:Array UInt8}:decide (V.byt i=V.byt j)=(i.toList == j.toList):=by
 rw[Vf];simp
section
variable {X:Cx}{a b c:Expr}{ta tb tc:TE}{pos:Pos}
def Qb {Y:Yb}{Z: St}{H:Hp}{s:Shared}{Q:VK}{k f:Bool}(I:Inv X Y Z H s)(q:Q (.bl k) H)(e:k=f):EP X Y Z Q (.bool f) s:=by
 subst e;exact⟨.bl k,H,I,rfl,q⟩
def uR:xi X (compareOp .Eq) dw:=by
 intro Y s Z H x y v u Q I f e h;obtain⟨hs,q⟩:=h;cases x with
 |non =>
  cases f;cases y with
  |non=>cases e;exact PySem.EqNone.eq_none_none (Qb I q ())
  |bl j=>cases e;exact PySem.EqNone.eq_none_bool (Qb I q ())
  |int j=>obtain⟨t',rfl⟩:=e;exact PySem.EqNone.eq_none_int (Qb I q ())
  |str j=>obtain⟨t',rfl⟩:=e;exact PySem.EqNone.eq_none_str (Qb I q ())
  |_=>exact Zn (show false=true from hs) Zj
 |bl i =>
  cases f;cases y with
  |non=>cases e;exact PySem.EqNone.eq_bool_none (Qb I q ())
  |bl j=>cases e;exact eq_bool (Qb I q DV)
  |str j=>obtain⟨t',rfl⟩:=e;exact PySem.EqMixed.eq_bool_str (Qb I q ())
  |_=>exact Zn (show false=true from hs) Zj
 |int i =>
  obtain⟨t,rfl⟩:=f;cases y with
  |non=>cases e;exact PySem.EqNone.eq_int_none (Qb I q ())
  |int j=>obtain⟨t',rfl⟩:=e;exact eq_int (Qb I q DU)
  |str j=>obtain⟨t',rfl⟩:=e;exact PySem.EqMixed.eq_int_str (Qb I q ())
  |_=>exact Zn (show false=true from hs) Zj
 |str i =>
  obtain⟨t,rfl⟩:=f;cases y with
  |non=>cases e;exact PySem.EqNone.eq_str_none (Qb I q ())
  |bl j=>cases e;exact PySem.EqMixed.eq_str_bool (Qb I q ())
  |int j=>obtain⟨t',rfl⟩:=e;exact PySem.EqMixed.eq_str_int (Qb I q ())
  |str j=>obtain⟨t',rfl⟩:=e;exact eq_str (Qb I q DW)
  |_=>exact Zn (hs) Zj
 |byt i =>
  obtain⟨t,rfl⟩:=f;cases y with
  |byt j=>obtain⟨t',rfl⟩:=e;exact W.eq_bytes (Qb I q DX)
  |_=>exact Zn (show false=true from hs) Zj
 |_=>cases y<;>exact Zn (show false=true from hs) Zj
def uP:xi X (compareOp .NotEq) du:=by
 intro Y s Z H x y v u Q I f e h;obtain⟨hs,q⟩:=h;cases x with
 |non =>
  cases f;cases y with
  |non=>cases e;exact PySem.EqNone.ne_none_none (Qb I q ())
  |bl j=>cases e;exact PySem.EqNone.ne_none_bool (Qb I q ())
  |int j=>obtain⟨t',rfl⟩:=e;exact PySem.EqNone.ne_none_int (Qb I q ())
  |str j=>obtain⟨t',rfl⟩:=e;exact PySem.EqNone.ne_none_str (Qb I q ())
  |_=>exact Zn (show false=true from hs) Zj
 |bl i =>
  cases f;cases y with
  |non=>cases e;exact PySem.EqNone.ne_bool_none (Qb I q ())
  |bl j=>cases e;exact ne_bool (Qb I q (Zt not DV))
  |str j=>obtain⟨t',rfl⟩:=e;exact PySem.EqMixed.ne_bool_str (Qb I q ())
  |_=>exact Zn (show false=true from hs) Zj
 |int i =>
  obtain⟨t,rfl⟩:=f;cases y with
  |non=>cases e;exact PySem.EqNone.ne_int_none (Qb I q ())
  |int j=>obtain⟨t',rfl⟩:=e;exact ne_int (Qb I q (Zt not DU))
  |str j=>obtain⟨t',rfl⟩:=e;exact PySem.EqMixed.ne_int_str (Qb I q ())
  |_=>exact Zn (show false=true from hs) Zj
 |str i =>
  obtain⟨t,rfl⟩:=f;cases y with
  |non=>cases e;exact PySem.EqNone.ne_str_none (Qb I q ())
  |bl j=>cases e;exact PySem.EqMixed.ne_str_bool (Qb I q ())
  |int j=>obtain⟨t',rfl⟩:=e;exact PySem.EqMixed.ne_str_int (Qb I q ())
  |str j=>obtain⟨t',rfl⟩:=e;exact ne_str (Qb I q (Zt not DW))
  |_=>exact Zn (show false=true from hs) Zj
 |byt i =>
  obtain⟨t,rfl⟩:=f;cases y with
  |byt j=>obtain⟨t',rfl⟩:=e;exact W.ne_bytes (Qb I q (Zt not DX))
  |_=>exact Zn (hs) Zj
 |_=>cases y<;>exact Zn (show false=true from hs) Zj
def uQ:xi X (compareOp .Gt) (v0 λi j=>.bl (decide (j<i))):=mq λ_ _ _ _ _ _ _ q=>gt_int q
def Qm (b){op:CmpOp}(h:op ≠ .In:=by decide)(e:op ≠ .NotIn:=by decide):behindInMarks op b=false:=by
 cases b<;>first|rfl|(show(_&&(_||_)&&_)=false;simp_all)
def Mn {op:CmpOp}{r:R2}(e:xi X (compareOp op) r)(f:PE X a ta)(g:PE X b tb)(i:behindInMarks op b=false):PE X (.Compare a [op] [b] pos) (wP r ta tb):=λY s Z H Q I h=>wpAny_Compare1 (vk f g I h λv u j x y l m n o q=>e Y j Z l x y v u Q m n o q) i
def vI (t:TE):TT:=λZ H Q=>t Z H λx e=>∃k,x=.bl k/\Q k e
def DY {op:CmpOp}{r:R2}(f:xi X (compareOp op) r)(g:PE X a ta)(i:PE X b tb)(j:behindInMarks op b=false):PT X (.Compare a [op] [b] pos) (vI (wP r ta tb)):=by
 intro Y s Z H Q I h;refine wpAny_isTrue_Compare1 (jJ (g Y s Z H _ I h) λv l ⟨x,m,n,o,p⟩=>jJ (i Y l Z m _ n p) λu q ⟨y,t,w,A,B⟩ =>
  jJ (f Y q Z t x y v u _ w o A B) λc J ⟨z,C,E,F,k,e,G⟩=>?_) j
 subst e;cases F;exact wpAny_truthy_bool ⟨C,E,G⟩
def WU:(sizeLine:Nat)<2 ^ 63:=by decide
def Mo:xi X (binaryOp .Add) (λx y H Q=>∃i j,x=.str i/\y=.str j/\i.length+j.length<=sizeLine/\Q (.str (i++j)) H):=by
 intro Y s Z H x y v u Q I e f h;obtain⟨i,j,rfl,rfl,hz,q⟩:=h;obtain⟨t,rfl⟩:=e;obtain⟨t',rfl⟩:=f;exact add_str (λt' tk=>⟨.str (i++j),H,I.tok _,⟨_,rfl⟩,q⟩) hz
def QU {x:V}{e:Yf}(r:ju [x] e):∃u,e=[u]/\jv x u:=by
 cases r with
 |cons f g=>cases g;exact⟨_,rfl,f⟩
def ZO {x y:V}{e:Yf}(r:ju [x,y] e):∃u f,e=[u,f]/\jv x u/\jv y f:=by
 cases r with
 |cons g h =>
  cases h with
  |cons i j=>cases j;exact⟨_,_,rfl,g,i⟩
def Mp:jU X (.builtin "abs") (λe H Q=>∃i,e=[.int i]/\Q (.int (if i<0 then -i else i)) H):=by
 intro Y s Z H e f Q I r h;obtain⟨i,rfl,q⟩:=h;obtain⟨u,rfl,t,rfl⟩:=QU r;exact call_abs_int λu tk=>⟨.int (if i<0 then -i else i),H,I.tok _,⟨_,rfl⟩,q⟩
def Mq (g:X.calm=true):jU X (.builtin "max") (λf H Q=>∃i j,f=[.int i,.int j]/\Q (.int (if j > i then j else i)) H):=by
 intro Y s Z H f l Q I r h;obtain⟨i,j,rfl,q⟩:=h;obtain⟨u,m,rfl,⟨t,rfl⟩,⟨t',rfl⟩⟩:=ZO r;refine max_two_ints (I.ok.hd g) λn tk k=>⟨_,H,I.kept k,?_,q⟩;by_cases e:j > i
 .rw[Zd e,Zd e];exact⟨_,rfl⟩
 .rw[Ze e,Ze e];exact⟨_,rfl⟩
def Mr:jU X (.type "str") (λe H Q=>∃i,e=[.int i]/\i.natAbs.log2<1920/\Q (.str (toString i)) H):=by
 intro Y s Z H e f Q I r h;obtain⟨i,rfl,hz,q⟩:=h;obtain⟨u,rfl,t,rfl⟩:=QU r;exact PySem.P.str_of_int hz ⟨.str _,H,I.tok _,⟨_,rfl⟩,q⟩
end
structure ObjM (h:Heap)(x dx C:Addr)(mA:Ye):Prop where
 obj:h.get? x=some (W.instObj C dx)
 ns:h.Ns1 dx mA
 ne:dx≠x
def Ms {h:Heap}{c:Addr}{mA:Ye}(n:h.Ns1 c mA):∃f,h.get? c=some f/\∀name,W.lookIn name f=some (mA name):=by
 obtain⟨o,es,ep,g,i,j,_,l⟩:=n;refine⟨o,g,λname=>?_⟩;have e:=l name;unfold nsFind findBy at e;rw[<- Array.find?_toList] at e;unfold W.lookIn;rw[i];dsimp only
 split
 .simp_all
 .have a:es.toList.any (·.refKey)=false:=by
   rw[List.any_eq_false];intro y m;have ⟨z,t,b⟩:=j y ();simp[DictEntry.refKey,b]
  simp_all
def ObjM.look {h:Heap}{x b C:Addr}{mA:Ye}(I:ObjM h x b C mA):∃a,W.InstAt h x (W.instObj C b) C (some a)/\∀name,W.lookIn name a=some (mA name):=
 let ⟨a,ho,hl⟩:=Ms I.ns
 ⟨a,⟨I.obj,rfl,rfl,ho⟩,hl⟩
section
variable {prog:Program}{w:World}{A:Around}{E:Ya}{s:Shared}{K:W.Frag}{x dx C f:Addr}{mA:Ye}{name:Str}{v:Value}
def Mt {a:Bool}{Q:Ya}(X:K.In s.heap)(I:ObjM s.heap x dx C mA)(c:W.plainGet K C name=true)(e:W.hasDictIn K C=true)
 (g:W.findIn K (.ref C) name=some none) (i:mA name=some v) (b:W.handedIn v=true) (h:Q v { s with toks:=s.toks+1 }):
 YK prog w A (getAttr (.ref x) name a) Q E s:=by
 obtain⟨l,J,j⟩:=I.look;exact W.get_value X J (W.plainGet_of c).1 (W.findObj_own e g rfl (by rw[j,i])) b h
def Mu {ns:Yk}{Q:Unit->YC}(X:K.In s.heap)(I:ObjM s.heap x dx C mA)
 (hs:W.findIn K (.ref C) "__setattr__" = some (some (.builtin "object.__setattr__"))) (hp:W.plainOver K C=true) (l:W.takerIn K C name=some none) (m:W.hasDictIn K C=true)
 (n:PySem.Within mA ns) (hsz:ns.length<=sizeLine)
 (h:∀e,ObjM e x dx C (λy=>if y=name then some v else mA y)->Heap.SameBut dx s.heap e->Q Yt { s with heap:=e,toks:=s.toks+2 }):
 YK prog w A (setAttr (.ref x) name v) Q E s:=by
 obtain⟨t,J,u⟩:=I.look;refine W.set_plain X J hs (W.osa_open X J hp l λb=>?_);obtain⟨z,o,g⟩:=W.any_some m;refine Za (Zb (Za (Za (wpAny_loadPart I.obj (Za (W.Looks.here (W.looks_clsIn X o) ?_))))));rw[g];refine Zb (Za (Zb (Za (wpAny_nsSet1 I.ns λe a c=>?_))));obtain⟨B,p,q,i,j,r⟩:=a.count (PySem.Within.cons name v n);exact Za (wpAny_lookBehind i (by rw[j];exact pastItsLine_dict ()) (Zb (h _ ⟨(c.2 _ (Ne.symm I.ne)).trans I.obj,a,I.ne⟩ c)))
def Mv {R:Result->YC}{b:Yf}{c:List (Str×Value)}(X:K.In s.heap)(e:W.makesIn K C=true)
 (g:W.findIn K (.ref C) "__init__" = some (some (.ref f))) (i:W.typeIn K (.ref f)=some (.type "function"))
 (h:codeAny (model prog w) (A.under (.builtin "type.__call__" ⟨.ref C::b,c⟩)) (.call (.ref f) ⟨.ref (s.heap.objs.size+1)::b,c⟩) (W.InitBack (s.heap.objs.size+1) R)
  { s with heap:=(s.heap.push W.emptyDict).push (W.instObj C s.heap.objs.size) }):
 codeAny (model prog w) A (.call (.ref C) ⟨b,c⟩) R s:=W.make_core (W.makes_of X e) (W.looks_findIn X g) (λa=>W.bind_fn X a i) (.inl rfl) h
end
def qJ (f:Str)(v:V):List (Str×V)->List (Str×V)
 | []=>[(f,v)]
 | (g,x)::r=>if g=f then(g,v)::r else(g,x)::qJ f v r
theorem DZ (f g)(v):∀fs:List (Str×V),(qJ f v fs).lookup g=if g=f then some v else fs.lookup g
 | []=>by
  show List.lookup g [(f,v)]=_
  grind
 | (k,x)::r=>by
  have a:=DZ f g v r;rw[show qJ f v ((k,x)::r)=(if k=f then(k,v)::r else(k,x)::qJ f v r) from rfl]
  grind
theorem B2 (f)(v):∀fs:List (Str×V),f∈(qJ f v fs).map (·.1)/\∀g,g∈fs.map (·.1)->g∈(qJ f v fs).map (·.1)
 | []=>⟨by simp[qJ],()⟩
 | (k,x)::r=>by
  have ⟨a,b⟩:=B2 f v r;rw[show qJ f v ((k,x)::r)=(if k=f then(k,v)::r else(k,x)::qJ f v r) from rfl]
  grind
theorem Ea (f)(v):∀fs:List (Str×V),(qJ f v fs).length<=fs.length+1
 | []=>by simp[qJ]
 | (k,x)::r=>by
  have a:=Ea f v r;rw[show qJ f v ((k,x)::r)=(if k=f then(k,v)::r else(k,x)::qJ f v r) from rfl]
  grind
def qA {v:V}{o:Yg}(r:xh (some v) o):∃u,o=some u/\jv v u:=by
 cases o with
 |none=>exact(r).elim
 |some u=>exact⟨u,rfl,r⟩
def Mw {v:V}{u:Value}(r:jv v u):W.handedIn u=true:=by
 cases v with
 |non=>cases (r);rfl
 |bl b=>cases (r);rfl
 |int i=>have ⟨t,e⟩:=(r);cases e;rfl
 |str x=>have ⟨t,e⟩:=(r);cases e;rfl
 |byt b=>have ⟨t,e⟩:=(r);cases e;rfl
 |flt b=>have ⟨t,e⟩:=(r);cases e;rfl
 |ref a=>cases (r);rfl
 |ty n=>cases (r);rfl
section
variable {P:Program}{w:World}{H H':Hp}{h h':Heap}{a C dx:Addr}{fs fs':List (Str×V)}
def B4 (b:qH P w H h)(e:H a=some (.ins C dx fs)):∃mA,ObjM h a dx C mA/\(∀f,xh (fs.lookup f) (mA f))/\PySem.Within mA (fs.map (·.1))/\fs.length<=1000/\H dx=some (.own a):=have ⟨d,z,ne,c,mA,n,r,q⟩:=(b a _ e);⟨mA,⟨c,n,ne⟩,r,q,z,d⟩
end
structure Cls (K:W.Frag)(C:Addr):Prop where
 pg:W.plainGet K C Str.empty=true
 hd:W.hasDictIn K C=true
 po:W.plainOver K C=true
 sa:W.findIn K (.ref C) "__setattr__" = some (some (.builtin "object.__setattr__"))
def Cls.get {K:W.Frag}{C:Addr}(c:Cls K C)(f):W.plainGet K C f=true:=c.pg
def wO (K:W.Frag)(C:Addr)(f:Str):Prop:=W.findIn K (.ref C) f=some none
def wO.taker {K:W.Frag}{C:Addr}{f:Str}(n:wO K C f):W.takerIn K C f=some none:=by
 unfold W.takerIn;rw[n];rfl
section
variable {X:Cx}{Y:Yb}{Z: St}{H:Hp}{s:Shared}{a C dx:Addr}{fs:List (Str×V)}{f:Str}{v:V}{A:Around}{E:Ya}
def Mx {b:Bool}{Q:Ya}(I:Inv X Y Z H s)(e:H a=some (.ins C dx fs))(c:Cls X.K C)(n:wO X.K C f)(l:fs.lookup f=some v)
 (h:∀u s',Inv X Y Z H s'->jv v u->Q u s'):wpAny (model X.prog X.w) A (getAttr (.ref a) f b) Q E s:=by
 obtain⟨mA,O,r,_,_,_⟩:=B4 I.hok e;obtain⟨u,i,g⟩:=qA (by rw[<- l];exact r f);exact Mt I.kIn O (c.get f) c.hd n i (Mw g) (h u _ (I.tok _) g)
def Mz {y:V}{u:Value}{Q:Unit->YC}(I:Inv X Y Z H s)(e:H a=some (.ins C dx fs))(c:Cls X.K C)(n:wO X.K C f)(x:fs.length<1000)(B:jv y u)
 (h:∀s',Inv X Y Z (jB H a (.ins C dx (qJ f y fs))) s'->Q Yt s'):wpAny (model X.prog X.w) A (setAttr (.ref a) f u) Q E s:=by
 obtain⟨mA,O,r,wi,_,j⟩:=B4 I.hok e;have hz:(fs.map (·.1)).length<=sizeLine:=by rw[Zql,sizeLine_eq];lia
 refine Mu I.kIn O c.sa c.po n.taker c.hd wi hz λl i m=>h _ ?_;have p:∃o,l.get? dx=some o:=let ⟨o,_,_,e',_⟩:=i.ns;⟨o,e'⟩
 refine I.write (by rw[e];exact True.intro) (.inr j) (λb q t z=>(m.2 b t).trans z) p ⟨by rwa [JJ O.ne],?_,O.ne,i.obj,_,i.ns,λg=>?_,λg w=>?_⟩
 .have:=Ea f y fs;lia
 .rw[DZ];by_cases q:g=f
  .rwa [Zd q,Zd q]
  simp_all
 .by_cases q:g=f
  .rw[q];exact(B2 f y fs).1
  .refine(B2 f y fs).2 g (wi g λz=>w ?_)
   simp_all
def Inv.made (I:Inv X Y Z H s):Inv X Y Z (jB (jB H s.heap.objs.size (.own (s.heap.objs.size+1))) (s.heap.objs.size+1) (.ins C s.heap.objs.size []))
 { s with heap:=(s.heap.push W.emptyDict).push (W.instObj C s.heap.objs.size) }:=by
 have c:(s.heap.push W.emptyDict).get? s.heap.objs.size=some W.emptyDict:=Zr s.heap rfl;have g:((s.heap.push W.emptyDict).push (W.instObj C s.heap.objs.size)).get? (s.heap.objs.size+1)=some (W.instObj C s.heap.objs.size):=by
  have:=Zr (s.heap.push W.emptyDict) (o:=W.instObj C s.heap.objs.size) rfl
  simp_all
 have h:(s.heap.push W.emptyDict).Ns s.heap.objs.size (λ_=>none):=⟨W.emptyDict,#[],_,c,rfl,(λe i=>Zn i ()),λ_=>rfl⟩;refine(I.laid (o:=.own (s.heap.objs.size+1)) (t':=s.toks) (λb u q=>Zq _ q) (Zf _) ⟨_,c⟩).laid (λb u q=>Zq _ q) () ?_;have ne:s.heap.objs.size≠s.heap.objs.size+1:=()
 refine⟨by rw[JJ ne,JM],Ua _,ne,g,λ_=>none,(Heap.Ns1.of_empty h).at λo q=>Zq _ q,λ_=>True.intro,λy j=>Zn rfl j⟩
def M0 {prog:Program}{w:World}{env:Env}{e:Expr}{f:Str}{b:Pos}{s:Shared}{Q:Ya}(c:attributeBase e f env (eval e env)=eval e env)
 (h:YK prog w A (eval e env) (λo s₁=>YK prog w A (getAttr o f true) Q E s₁) E s):YK prog w A (eval (.Attribute e f b) env) Q E s:=
 Attribute_any_ h (by rw[arm_eval_Attribute,c])
end
def bT (K:W.Frag)(c:TE)(f:Str):TE:=λZ H Q=>c Z H λx b=>∃a C e fs v,x=.ref a/\b a=some (.ins C e fs)/\Cls K C/\wO K C f/\fs.lookup f=some v/\Q v b
def bX (K:W.Frag)(e g:TE)(f:Str):TS:=λD Z H=>g Z H λy h=>e Z h λx b=>∃a C c fs,x=.ref a/\b a=some (.ins C c fs)/\Cls K C/\wO K C f/\fs.length<1000 /\
 D.nx Z (jB b a (.ins C c (qJ f y fs)))
section
variable {X:Cx}{o e value:Expr}{f:Str}{pos pos' tpos:Pos}{ta tv:TE}
def M3 (b:PE X e ta)(g:attributeBase e f X.env (eval e X.env)=eval e X.env):PE X (.Attribute e f pos) (bT X.K ta f):=by
 intro Y s Z H Q I h;refine M0 g (jJ (b Y s Z H _ I h) λu y ⟨x,i,j,m,a,C,z,fs,v,p,r,c,n,l,q⟩=>?_);subst p;obtain rfl:=m;exact Mx j r c n l λA B t w=>⟨v,i,t,w,q⟩
def M4 (b:PE X o ta)(g:PE X value tv)(hs:swapsWith value (some (.Attribute o f pos')) pos.line X.env=pure false):PS X (.Assign [.Attribute o f pos'] value pos) (bX X.K ta tv f):=by
 intro Y s Z H D I h;refine plainObj_wpAny_Assign_Attribute (jJ (g Y s Z H _ I h) λu i ⟨y,j,m,p,q⟩=>jJ (b Y i Z j _ m q) λB E ⟨x,F,r,t,a,C,G,fs,v,w,c,n,l,z⟩=>?_) hs;subst v;obtain rfl:=t;exact Mz r w c n l p λJ A=>⟨Z,_,A,z⟩
end
section
variable {X:Cx}{Y:Yb}{Z: St}{H:Hp}{s:Shared}{A:Around}{E:Ya}{Q:Ya}{c:Value}{b:Bool}
inductive TyOf (K:W.Frag)(H:Hp):V->Value->Prop where
 |non:TyOf K H .non (.type "NoneType")
 |bl (x:Bool):TyOf K H (.bl x) (.type "bool")
 |int (i:Int):TyOf K H (.int i) (.type "int")
 |str (x:Str):TyOf K H (.str x) (.type "str")
 |flt (x:UInt64):TyOf K H (.flt x) (.type "float")
 |lst {a:Addr} {xs:YF} (e:H a=some (.lst xs)):TyOf K H (.ref a) (.type "list")
 |frz {a:Addr} {o:Obj} {xs:YF} (e:H a=some (.frz o (.lst xs))):TyOf K H (.ref a) (.type "list")
 |tup {a:Addr} {xs:YF} (e:H a=some (.tup xs)):TyOf K H (.ref a) (.type "tuple")
 |dK {a:Addr} {kvs:List (j7×V)} (e:H a=some (.dK kvs)):TyOf K H (.ref a) (.type "dict")
 |dT {a:Addr} {kvs:List (List j7×V)} (e:H a=some (.dT kvs)):TyOf K H (.ref a) (.type "dict")
 |ins {a C dx:Addr} {fs:List (Str×V)} (e:H a=some (.ins C dx fs)) (cl:Cls K C) (ha:W.findIn K (.ref C) "__class__" = some (some (.builtin "object.__class__")))
  (hn:W.specialIn K (.builtin "object.__class__") "__get__" = some (some (.builtin "getset_descriptor.__get__"))) (htk:W.takesIn K (.builtin "object.__class__")=some true)
  (hm:W.mroIn K C (.type "object")=some true):TyOf K H (.ref a) (.ref C)
def M5 {x:V}{u t:Value}(I:Inv X Y Z H s)(f:jv x u)(B:TyOf X.K H x t)(e:W.kitOne X.K t c=some b)(h:∀tk,Q (.bool b) { s with toks:=tk }):
 wpAny (model X.prog X.w) A (call (.builtin "isinstance") [u,c]) Q E s:=by
 cases B with
 |non=>cases (f);exact W.kia_one W.kitx_none I.kIn True.intro e (λz=>nomatch z) h
 |bl y=>cases (f);exact W.kia_one W.kitx_bool I.kIn True.intro e (λz=>nomatch z) h
 |int i=>have ⟨t,q⟩:=(f);cases q;exact W.kia_one W.kitx_int I.kIn True.intro e (λz=>nomatch z) h
 |str y=>have ⟨t,q⟩:=(f);cases q;exact W.kia_one W.kitx_str I.kIn True.intro e (λz=>nomatch z) h
 |flt y=>have ⟨t,q⟩:=(f);cases q;exact W.kia_one W.kitx_float I.kIn True.intro e (λz=>nomatch z) h
 | @lst a m g =>
  cases (f);obtain⟨_,_,n,_,j⟩:=(I.hok a _ g);exact W.kia_one W.kitx_list I.kIn ⟨_,j,rfl⟩ e (λz=>nomatch z) h
 | @frz a L m g =>
  cases (f);obtain⟨_,_,_,n,_,j⟩:=(I.hok a _ g);exact W.kia_one W.kitx_list I.kIn ⟨_,j,rfl⟩ e (λz=>nomatch z) h
 | @tup a m g =>
  cases (f);obtain⟨_,_,_,p⟩:=(I.hok a _ g);obtain⟨o,j,l,_⟩:=p;exact W.kia_one W.kitx_tuple I.kIn ⟨o,j,l⟩ e (λz=>nomatch z) h
 | @dK a r g =>
  cases (f);obtain⟨_,_,M,_,p⟩:=(I.hok a _ g);obtain⟨o,es,ep,j,l,_⟩:=p;exact W.kia_one W.kitx_dict I.kIn ⟨o,j,l.1⟩ e (λz=>nomatch z) h
 | @dT a r g =>
  cases (f);obtain⟨_,_,m,_,o,es,ep,j,l,_⟩:=(I.hok a _ g);exact W.kia_one W.kitx_dict I.kIn ⟨o,j,l.1⟩ e (λz=>nomatch z) h
 | @ins a C N fs g w F G v K =>
  cases (f);obtain⟨mA,O,_⟩:=B4 I.hok g;obtain⟨P,J,_⟩:=O.look;exact W.kia_one (W.kitx_own (w.get _) w.hd F G v K) I.kIn J e (λz=>nomatch z) h
end
structure Room (k:Nat)(A:Around):Prop where
 hd:A.handled=none
 dp:A.depth+3*k+5<recursionLimit
 un:A.units+16*k+200<cLine
def Room.mono {j k:Nat}{A:Around}(r:Room k A)(h:j<=k):Room j A:=⟨r.hd,by have:=r.dp;lia,by have:=r.un;lia⟩
theorem Room.deeper {k:Nat}{A:Around}(r:Room (k+1) A)(env):Room k (A.deeper env):=
 ⟨r.hd,by have:=r.dp;show A.depth+1+3*k+5<_;lia,by have:=r.un;show A.units+3+16*k+200<_;lia⟩
def M6 {A:Around}{C:Addr}{a:Yf}{b:List (Str×Value)}:(A.under (.builtin "type.__call__" ⟨.ref C::a,b⟩)).depth=A.depth+1:=by
 rfl
def M7 {A:Around}{C:Addr}{a:Yf}{b:List (Str×Value)}:(A.under (.builtin "type.__call__" ⟨.ref C::a,b⟩)).units=A.units+1:=by
 rfl
def Room.make {k:Nat}{A:Around}(r:Room (k+1) A)(C)(us)(kw):Room k (A.under (.builtin "type.__call__" ⟨.ref C::us,kw⟩)):=
 ⟨r.hd,by have:=r.dp;rw[M6];lia,by have:=r.un;rw[M7];lia⟩
theorem Room.depth {k:Nat}{A:Around}(r:Room k A):A.depth<recursionLimit:=by have:=r.dp;lia
theorem Room.units {k:Nat}{A:Around}(r:Room k A):A.units+64<cLine:=by have:=r.un;lia
def vb:TA:=λ_ H Q=>Q [] H
def B5 (a:TE)(b:TA):TA:=λZ H Q=>a Z H λx c=>b Z c λe f=>Q (x::e) f
section
variable {X:Cx}{e:Expr}{es:Ym}{te:TE}{t:TA}{pos:Pos}
def W0:PA X [] vb:=λ_ _ _ _ H Q I h=>Calls.spliced_nil ⟨[],H,I,.nil,h⟩
def Wf (a:PE X e te)(b:PA X es t)(hs:starEach (e::es) X.env=(false,eval e X.env)::starEach es X.env:=by rfl):PA X (e::es) (B5 te t):=by
 intro pos Y s Z H Q I h;rw[hs];exact Calls.spliced_cons (jJ (a Y s Z H _ I h) λu c ⟨x,f,g,i,j⟩=>(jJ (b pos Y c Z f _ g j) λq r ⟨l,m,n,o,p⟩=>⟨x::l,m,n,.cons i o,p⟩))
def bK (t:TA):TE:=λZ H Q=>t Z H λa b=>a.length<=sizeLine/\∀p,b p=none->Q (.ref p) (jB b p (.tup a))
def bP (t:TA):TE:=λZ H Q=>t Z H λa b=>a.length<=sizeLine/\∀p,b p=none->Q (.ref p) (jB b p (.lst a))
def M8 {x1}(h:PA X es t):PE X (.Tuple es x1 pos) (bK t):=λY s Z H Q I f=>wpAny_Tuple_spliced (jJ (h pos Y s Z H _ I f) λg a ⟨i,j,c,r,z,q⟩=>⟨by rwa [<- r.length],⟨.ref a.heap.objs.size,jB j a.heap.objs.size (.tup i),c.laid (λb u e=>Zq _ e) (Zf _) (⟨⟨z,⟨_,Zr _ rfl,rfl⟩⟩,g,r,⟨_,Zr _ rfl,rfl,_,rfl⟩⟩),rfl,q _ (c.hok.fresh (Zf _))⟩⟩)
def M9 (h:PA X es t):PE X (.List es pos) (bP t):=λY s Z H Q I f=>wpAny_List_spliced (jJ (h pos Y s Z H _ I f) λg a ⟨i,j,c,r,z,q⟩=>⟨by rwa [<- r.length],⟨.ref a.heap.objs.size,jB j a.heap.objs.size (.lst i),c.laid (λb u e=>Zq _ e) (Zf _) ⟨z,g,0,r,Zr _ rfl⟩,rfl,q _ (c.hok.fresh (Zf _))⟩⟩)
end
abbrev Sp:=YF->Hp->VK->XK->Prop
abbrev zq:=List Env->Hp->Shared->XK->Ya
structure Env0 (P:Program)(w:World)(K:W.Frag)(mg:Ye)(base:Heap)(A:Around)(outer:List Env)(s:Shared)(H:Hp):Prop where
 frames:A.frames=some outer
 mod:Mod K mg base
 bs:∀b o,base.get? b=some o->s.heap.get? b=some o/\H b=none
 bsz:base.objs.size<=s.heap.objs.size
 funs:s.heap.FunFrames base outer
 frf:∀b∈xa outer,H b=none
 hok:qH P w H s.heap
 bare:AllBare s.gens
def CE (a:List Env)(P:Program)(w:World)(H:Hp)(s:Shared)(Q:VK)(u:Value)(s':Shared):Prop:=
 ∃v b,s'.os=s.os/\AllBare s'.gens/\Un (xa a) [] H b s.heap s'.heap/\qH P w b s'.heap/\jv v u/\Q v b
def CR (CX:zq)(a:List Env)(P:Program)(w:World)(H:Hp)(s:Shared)(Q:VK)(E:XK)(r:Result)(s':Shared):Prop:=
 match r with
 | .ok (.ret u)=>CE a P w H s Q u s'
 | .ok _=>False
 | .error e=>CX a H s E e s'
structure FnOk (P:Program)(w:World)(K:W.Frag)(mg:Ye)(base:Heap)(CX:zq)(k:Nat)(f:Addr)(fd:FuncData)(ps:Yk)(sp:Sp):Prop where
 len:∀vs H Q E,sp vs H Q E->vs.length=ps.length
 run:∀(A:Around) (outer:List Env) (s:Shared) (H:Hp) (args:Args) (us:Yf) (vs:YF) (Q:VK) (E:XK),Room k A->Env0 P w K mg base A outer s H->BindsTo s fd args (ps.zip us)->ju vs us->sp vs H Q E ->
  codeAny (model P w) A (.call (.ref f) args) (CR CX outer P w H s Q E) s
theorem FnOk.mono {P:Program}{w:World}{K:W.Frag}{mg:Ye}{a:Heap}{CX:zq}{j k:Nat}{f:Addr}{fd:FuncData}{ps:Yk}{sp:Sp}(F:FnOk P w K mg a CX j f fd ps sp)(h:j<=k):
 FnOk P w K mg a CX k f fd ps sp:=⟨F.len,λA b s H args c e Q E g=>F.run A b s H args c e Q E (g.mono h)⟩
def FnOk.imp {P:Program}{w:World}{K:W.Frag}{mg:Ye}{a:Heap}{CX:zq}{k:Nat}{f:Addr}{fd:FuncData}{ps:Yk}{sp e:Sp}(F:FnOk P w K mg a CX k f fd ps sp)
 (h:∀c H Q E,e c H Q E->sp c H Q E):FnOk P w K mg a CX k f fd ps e:=
 ⟨λc H Q E q=>F.len c H Q E (h _ _ _ _ q),λA b s H args g c Q E i j l m hs=>F.run A b s H args g c Q E i j l m (h _ _ _ _ hs)⟩
def Env0.make {P:Program}{w:World}{K:W.Frag}{mg:Ye}{b:Heap}{A:Around}{a:List Env}{s:Shared}{H:Hp}(e:Env0 P w K mg b A a s H)(C)(us)(kw):
 Env0 P w K mg b (A.under (.builtin "type.__call__" ⟨.ref C::us,kw⟩)) a s H:=⟨by first|exact e.frames|(simpa using e.frames),e.mod,e.bs,e.bsz,e.funs,e.frf,e.hok,e.bare⟩
section
variable {X:Cx}{Y:Yb}{Z: St}{H:Hp}{s s':Shared}
def Inv.env0 (I:Inv X Y Z H s):Env0 X.prog X.w X.K X.mg X.base X.A X.stack s H:=
 ⟨I.ok.frames,I.ok.mod,I.bs,Zh I.ok.bsz I.sz,I.stack,I.stkFree,I.hok,I.bare⟩
def Inv.after {Q:VK}{u:Value}(I:Inv X Y Z H s)(h:CE X.stack X.prog X.w H s Q u s'):EP X Y Z Q u s':=by
 obtain⟨v,c,os,bare,un,a,r,q⟩:=h;obtain⟨f,g,d,t,e⟩:=s';obtain rfl:=os;exact⟨v,c,I.call un a bare (λb z=>Zn z ()),r,q⟩
end
def B6 (sp:Sp)(a:YF)(E:XK)(t:TA):TE:=λZ H Q=>t Z H λb c=>sp (b++a) c Q E
def vM (C:Addr)(sp:Sp)(b:YF)(E:XK)(t:TA):TE:=λZ H Q=>t Z H λe c=>∀x a,c x=none->c a=none->a≠x ->
 sp (.ref x::(e++b)) (jB (jB c a (.own x)) x (.ins C a [])) (λv f=>v=.non/\Q (.ref x) f) E
def zw (K:W.Frag)(fd:FuncData)(ps:Yk)(ds:Yf):Prop:=
 ∀(s:Shared) (a:Yf),K.In s.heap->(a++ds).length=ps.length->BindsTo s fd ⟨a,[]⟩ (ps.zip (a++ds))
def zw.all {K:W.Frag}{fd:FuncData}{ps:Yk}(h:∀a:Yf,a.length=ps.length->bindArgs fd ⟨a,[]⟩=pure (ps.zip a)):zw K fd ps []:=λs a _ b=>by
 rw[ZA] at b ⊢;exact .of_eq (h a b)
def WV (CX:zq)(X:Cx)(E:XK):Prop:=∀(Y:Yb) (Z: St) (H:Hp) (s:Shared) (e:Value) (s':Shared),Inv X Y Z H s->CX X.stack H s E e s'->X.xe e s'
section
variable {X:Cx}{CX:zq}{k:Nat}{f C:Addr}{fd:FuncData}{ps:Yk}{sp:Sp}{dvs:YF}{ds:Yf}{E:XK}{x m:Str}{p pos apos:Pos}{e o:Expr}{es:Ym}{ta:TE}{t:TA}
def MA {Y:Yb}{Z: St}{H:Hp}{s:Shared}{Q:VK}{a:Yf}{c:YF}(F:FnOk X.prog X.w X.K X.mg X.base CX k f fd ps sp)(i:Room k X.A)(j:zw X.K fd ps ds)(l:ju dvs ds)(n:WV CX X E)
 (I:Inv X Y Z H s) (r:ju c a) (h:sp (c++dvs) H Q E):YJ X (call (.ref f) a) (EP X Y Z Q) X.xe s:=by
 have g:=r.append l;have q:(a++ds).length=ps.length:=by rw[<- g.length];exact F.len _ _ _ _ h
 refine wpAny_call (codeAny_mono (F.run X.A X.stack s H ⟨a,[]⟩ (a++ds) (c++dvs) Q E i I.env0 (j s a I.kIn q) g h) λr s' b=>?_);cases r with
 |error e=>exact n Y Z H s e s' I b
 |ok v =>
  cases v with
  |ret u=>exact I.after b
  |next=>exact False.elim b
  |brk=>exact False.elim b
  |cont=>exact False.elim b
def Eb (F:FnOk X.prog X.w X.K X.mg X.base CX k f fd ps sp)(g:Room k X.A)(i:Gl X x)(j:X.mg x=some (.ref f))(l:W.keepIn X.K (.ref f)=true)(n:zw X.K fd ps ds)(u:ju dvs ds)(v:WV CX X E)
 (w:PA X (e::es) t) (a:(x == ("__debug__" : Str))=false:=by decide) (y:starEach (e::es) X.env=(false,eval e X.env)::starEach es X.env:=by rfl) (b:(backTo pos (starEach es X.env)).any (·.1)=false:=by rfl):
 PE X (.Call (.Name x p) (e::es) [] pos) (B6 sp dvs E t):=by
 intro Y s Z H Q I h;exact wpAny_Call_Name_kw (X8 I i j (W.callWith_K I.ok.mod.kin l (jJ (w pos Y s Z H _ I h) λz A ⟨B,G,c,r,q⟩=>⟨c.kIn,MA F g n u v c r q⟩) y b) a)
structure Mk (K:W.Frag)(C f:Addr):Prop where
 makes:W.makesIn K C=true
 init:W.findIn K (.ref C) "__init__" = some (some (.ref f))
 fn:W.isFn K (.ref f)=true
 kp:W.keepIn K (.ref C)=true
def MB {Y:Yb}{Z: St}{H:Hp}{s:Shared}{Q:VK}{b:Yf}{i:YF}(M:Mk X.K C f)(F:FnOk X.prog X.w X.K X.mg X.base CX k f fd ps sp)(n:Room (k+1) X.A)(q:zw X.K fd ps ds)(w:ju dvs ds)
 (y:WV CX X E) (I:Inv X Y Z H s) (r:ju i b)
 (h:∀x c,H x=none->H c=none->c≠x->sp (.ref x::(i++dvs)) (jB (jB H c (.own x)) x (.ins C c [])) (λv z=>v=.non/\Q (.ref x) z) E):
 YJ X (call (.ref C) b) (EP X Y Z Q) X.xe s:=by
 have j:=h (s.heap.objs.size+1) s.heap.objs.size (I.hok.fresh (Nat.le_succ _)) (I.hok.fresh (Zf _)) (Zi (UH _));have g:=Inv.made (C:=C) I;have l:ju (V.ref (s.heap.objs.size+1)::(i++dvs)) (Value.ref (s.heap.objs.size+1)::(b++ds)):=.cons rfl (r.append w);have A:(Value.ref (s.heap.objs.size+1)::b++ds).length=ps.length:=by
  have e:=l.length;rw[F.len _ _ _ _ j] at e;exact e.symm
 refine wpAny_call (Mv I.kIn M.makes M.init (Ys.mp M.fn) (codeAny_mono (F.run _ X.stack _ _ ⟨Value.ref (s.heap.objs.size+1)::b,[]⟩ (Value.ref (s.heap.objs.size+1)::(b++ds)) _ _ E (n.make C b [])
  (g.env0.make C b []) (q _ (Value.ref (s.heap.objs.size+1)::b) g.kIn A) l j) λr s' a=>?_))
 cases r with
 |error e=>exact y Y Z _ _ e s' g a
 |ok B =>
  cases B with
  |ret u =>
   obtain⟨v,G,J,K,L,N⟩:=g.after a;subst L;exact⟨K,⟨V.ref (s.heap.objs.size+1),G,J,rfl,N⟩⟩
  |next=>exact False.elim a
  |brk=>exact False.elim a
  |cont=>exact False.elim a
def MC (M:Mk X.K C f)(F:FnOk X.prog X.w X.K X.mg X.base CX k f fd ps sp)(g:Room (k+1) X.A)(i:Gl X x)(j:X.mg x=some (.ref C))(l:zw X.K fd ps ds)(n:ju dvs ds)(u:WV CX X E)
 (v:PA X (e::es) t) (a:(x == ("__debug__" : Str))=false:=by decide) (w:starEach (e::es) X.env=(false,eval e X.env)::starEach es X.env:=by rfl) (b:(backTo pos (starEach es X.env)).any (·.1)=false:=by rfl):
 PE X (.Call (.Name x p) (e::es) [] pos) (vM C sp dvs E t):=λY s Z H Q I h=>wpAny_Call_Name_kw (X8 I i j (W.callWith_K I.ok.mod.kin M.kp (jJ (v pos Y s Z H _ I h) λy z ⟨A,B,c,r,q⟩=>⟨c.kIn,MB M F g l n u c r q⟩) w b) a)
end
structure FnScope (N P:Yk)(sc:Scope):Prop where
 kind:sc.kind=.function
 co:sc.isCoroutine=false
 gen:sc.isGenerator=false
 nd:N.Nodup
 pre:N.take P.length=P
 par:∀x∈P,sc.names.lookup x=some .local\/sc.names.lookup x=some .cell
 nofree:∀y∈sc.names,y.2 ≠ .free
theorem Ec {kindOf:Str->Option NameKind}{x:Str}:∀{binds:List (Str×Value)} {m:Ye},(∀v,(x,v)∉binds)->bindL kindOf binds m x=m x
 | [],_,_=>rfl
 | (n,v)::r,m,h=>by
  unfold bindL;rw[Ec ()]
  split
  .grind
  .rfl
theorem Ed {kindOf:Str->Option NameKind}{x:Str}:∀{binds:List (Str×Value)} {m:Ye},(∀v,(x,v)∉binds)->bindC kindOf binds m x=m x
 | [],_,_=>rfl
 | (n,v)::r,m,h=>by
  unfold bindC;rw[Ed ()]
  split
  .rfl
  grind
theorem Ee {kindOf:Str->Option NameKind}{x:Str}{v:Value}:∀{P:Yk} {a:Yf} {i:Nat} {m:Ye},P.Nodup->P[i]? = some x->a[i]? = some v->kindOf x=some .local ->
 bindL kindOf (P.zip a) m x=some v
 | [],_,_,_,_,h,_,_=>by simp at h
 |_::_,[],_,_,_,_,h,_=>by simp at h
 |p::P,w::a,0,m,nd,h1,h2,hk=>by
  simp at h1 h2;subst h1;subst h2;show bindL kindOf ((p,w)::P.zip a) m p=_;unfold bindL;rw[Ec λv b=>(Jm.mp nd).1 (List.of_mem_zip b).1,Zd hk];simp
 |p::P,w::a,i+1,m,nd,h1,h2,hk=>by
  show bindL kindOf ((p,w)::P.zip a) m x=_;exact Ee () (by simpa using h1) (by simpa using h2) hk
theorem Ef {kindOf:Str->Option NameKind}{x:Str}{v:Value}:∀{P:Yk} {a:Yf} {i:Nat} {m:Ye},P.Nodup->P[i]? = some x->a[i]? = some v->kindOf x≠some .local ->
 bindC kindOf (P.zip a) m x=some v
 | [],_,_,_,_,h,_,_=>by simp at h
 |_::_,[],_,_,_,_,h,_=>by simp at h
 |p::P,w::a,0,m,nd,h1,h2,hk=>by
  simp at h1 h2;subst h1;subst h2;show bindC kindOf ((p,w)::P.zip a) m p=_;unfold bindC;rw[Ed λv b=>(Jm.mp nd).1 (List.of_mem_zip b).1,Ze hk];simp
 |p::P,w::a,i+1,m,nd,h1,h2,hk=>by
  show bindC kindOf ((p,w)::P.zip a) m x=_;exact Ef () (by simpa using h1) (by simpa using h2) hk
def start (N:Yk)(a:YF):St:=a.map some++List.replicate (N.length-a.length) none
def qc (CX:zq)(P:Program)(w:World)(K:W.Frag)(mg:Ye)(base:Heap)(N:Yk)(b:Str)(a:Scope)(f:Addr)(g:Value)(A:Around)(outer:List Env)(s:Shared)(H:Hp)(E:XK):Cx where
 prog:=P
 w:=w
 K:=K
 mg:=mg
 base:=base
 A:=A.deeper (envOfC b a s.heap.objs.size f g)
 N:=N
 s₀:=s
 H₀:=H
 env:=envOfC b a s.heap.objs.size f g
 outer:=outer
 stack:=envOfC b a s.heap.objs.size f g::outer
 ex:=[]
 calm:=true
 fn:=λ_=>true
 pn:=[]
 xe:=λe s'=>wpAny (model P w) (A.deeper (envOfC b a s.heap.objs.size f g)) (leaving (envOfC b a s.heap.objs.size f g) e) (λ_ c=>CX outer H s E e c) (λh c=>CX outer H s E h c) s'
def Eg {a:Scope}{n:Nat}{x:Str}(h:a.names.lookup x=some .cell):∃c,(cellsFrom n a.names []).lookup x=some c:=have q:=W.cellsFrom_some a.names n [] (.inl h);Jr.mp q
def ME {CX:zq}{P:Program}{w:World}{K:W.Frag}{mg:Ye}{l:Heap}{N ps:Yk}{j:Str}{a:Scope}{f:Addr}{B:Value}{A:Around}{g:List Env}{s G:Shared}{H:Hp}{E:XK}{C:Yf}{n:YF}
 (S:FnScope N ps a) (M:A.handled=none) (m:Env0 P w K mg l A g s H) (T:n.length=ps.length) (r:ju n C)
 (x:InCallC s s.heap.objs.size (bindL (envOfC j a s.heap.objs.size f B).kindOf (ps.zip C) λ_=>none) (cellsFrom (s.heap.objs.size+1) a.names []) (bindC (envOfC j a s.heap.objs.size f B).kindOf (ps.zip C) λ_=>none) G):
 Inv (qc CX P w K mg l N j a f B A g s H E) [] (start N n) H G:=by
 have O:ps.length<=N.length:=by have:=Zt List.length S.pre;grind
 obtain⟨F,tk,rfl,I⟩:=x.done;have o:∀b:Addr,b∉(qc CX P w K mg l N j a f B A g s H E).ex:=λb z=>Zn (show b∈([]:Yl) from z) ();refine⟨⟨m.mod,S.kind,rfl,rfl,Zf _,λy z c F J=>?_,λy hy=>?_,λy c _ h=>?_,λ_=>M,Around.frames_deeper m.frames,.inr ⟨rfl,rfl⟩,λb z=>Zn z (o b),m.bs,m.bsz,λb _ _=>o b,(),m.funs,m.frf⟩,
  rfl,m.bare,Un.kept I,⟨_,x.toInCall.ns,λi y v F J U=>?_⟩,λy c h=>⟨_,x.cell y c h⟩,m.hok.fresh (Zf _),λy c h=>?_,λp hp=>Zn (show p∈([]:Yb) from hp) (),m.hok.kept I,?_⟩
 .exact name_of_addr x.apart (PySem.mem_of_lookup F) (PySem.mem_of_lookup J)
 .have hy:=hy;rcases hy with hy|hy
  .exact Eg hy
  .exact Zn rfl (S.nofree _ (PySem.mem_of_lookup hy))
 .exact Zz (x.above y c (PySem.mem_of_lookup h))
 .have X:i<n.length:=by
   grind[start,List.getElem?_replicate]
  have Q:n[i]? = some v:=by
   grind[start,List.getElem?_map]
  have ⟨u,L,R⟩:=r.get Q;have hp:ps[i]? = some y:=by
   rwa [<- S.pre,VR ()]
  have t:ps.Nodup:=by rw[<- S.pre];exact S.nd.sublist (List.take_sublist _ _)
  refine⟨u,R,?_⟩;rcases S.par y (Uf hp) with k|k
  .exact .inl ⟨k,Ee t hp L k⟩
  .obtain⟨c,e⟩:=Eg k;refine .inr ⟨.inl k,c,e,?_⟩;have q:=x.cell y c e
   rwa [Ef t hp L (by show a.names.lookup y≠_;simp_all)] at q
 .exact m.hok.fresh (Zz (x.above y c (PySem.mem_of_lookup h)))
 .unfold start;show _=N.length
  simp_all
def Eh {CX:zq}{P:Program}{w:World}{K:W.Frag}{mg:Ye}{i:Heap}{k:Nat}{f:Addr}{name g:Str}{params:Arguments}{j:List Stmt}{a:Scope}{U kV B X h ct oc:Value}{Y od:Option Addr}
 {M:Array Yg} {N ps:Yk} {sp:Sp} (lk:K.lookup f=some ⟨oc,od,.func (W.fnOf name g params j a U kV B X Y h ct),M⟩) (O:W.codeIn K h g=true) (S:FnScope N ps a)
 (len:∀l H Q E,sp l H Q E->l.length=ps.length)
 (p:∀A c s H l Q E,Room k (A.deeper (envOfC g a s.heap.objs.size f h))->sp l H Q E ->
  ∃t,qG (qc CX P w K mg i N g a f h A c s H E) j t/\t { nx:=λ_ m=>Q .non m,rt:=Q } (start N l) H):
 FnOk P w K mg i CX (k+1) f (W.fnOf name g params j a U kV B X Y h ct) ps sp:=by
 refine⟨len,λA c s H args us l Q E R C hb r F=>?_⟩;have Z:=C.mod.kin.keeps λb o e=>(C.bs b o e).1;have z:∀y∈ps.zip us,a.names.lookup y.1=some .local\/(a.names.lookup y.1=some .cell/\((cellsFrom (s.heap.objs.size+1) a.names []).lookup y.1).isSome=true):=λ⟨n,v⟩ hy=>by
  rcases S.par n (List.of_mem_zip hy).1 with q|q
  .exact .inl q
  .exact .inr ⟨q,W.cellsFrom_some _ _ _ (.inl q)⟩
 refine codeAny_call_function R.depth (Z _ _ lk) rfl S.co S.gen rfl (W.codeRec_of Z O) (hb _ _ _ _ (wpAny_newFunctionEnv_cells S.kind z λenv he s1 x=>?_));subst he;refine⟨(C.mod.nolimit.keeps λb o e=>(C.bs b o e).1).keeps x.toInCall.keep,codeAny_func ?_⟩;obtain⟨t,ht,hq⟩:=p A c s H l Q E (R.deeper _) F;have I:Inv (qc CX P w K mg i N g a f h A c s H E) [] (start N l) H s1:=ME S R.hd C (len _ _ _ _ F) r x;refine Zc (ht [] s1 (start N l) H _ I hq) (λfl s' hs=>?_) λe s' hs=>hs;have G:∀{L:St} {m:Hp} {v:V} {u:Value},Inv (qc CX P w K mg i N g a f h A c s H E) [] L m s'->jv v u->Q v m->CE c P w H s Q u s':=
  λ{L m v u} J T q=>⟨v,m,J.os,J.bare,J.base,J.hok,T,q⟩
 cases fl with
 |ret u =>
  obtain⟨v,L,m,J,T,q⟩:=hs;exact G J T q
 |next =>
  obtain⟨L,m,J,q⟩:=hs;exact G (v:=V.non) J rfl q
 |brk =>
  obtain⟨_,_,_,q⟩:=hs;exact False.elim q
 |cont =>
  obtain⟨_,_,_,q⟩:=hs;exact False.elim q
section
variable {X:Cx}{x:Str}{p pos:Pos}{e:Expr}{es:Ym}{t:TA}{id T:String}{r:YF->Hp->VK->Prop}
def ve (r:YF->Hp->VK->Prop)(t:TA):TE:=λZ H Q=>t Z H λa b=>r a b Q
def ZP (c:jU X (.builtin id) r)(f:Gl X x)(g:X.mg x=none)(i:bootBuiltins x=some (.builtin id))(j:PA X (e::es) t)(l:x ≠ "__name__" := by decide)(a:(x == ("__debug__" : Str))=false:=by decide)
 (m:starEach (e::es) X.env=(false,eval e X.env)::starEach es X.env:=by rfl) (b:(backTo pos (starEach es X.env)).any (·.1)=false:=by rfl):PE X (.Call (.Name x p) (e::es) [] pos) (ve r t):=λY s Z H Q I h=>wpAny_Call_Name_kw (WT I f g i (PyProof.Rows.callWith_builtin1 (jJ (j pos Y s Z H _ I h) λn o ⟨q,u,v,w,y⟩=>c Y o Z u q n Q v w y) m b) l a)
def B7 (c:jU X (.type T) r)(f:Gl X x)(g:X.mg x=none)(i:bootBuiltins x=some (.type T))(j:PA X (e::es) t)(l:x ≠ "__name__" := by decide)(a:(x == ("__debug__" : Str))=false:=by decide)
 (m:starEach (e::es) X.env=(false,eval e X.env)::starEach es X.env:=by rfl) (b:(backTo pos (starEach es X.env)).any (·.1)=false:=by rfl):PE X (.Call (.Name x p) (e::es) [] pos) (ve r t):=λY s Z H Q I h=>wpAny_Call_Name_kw (WT I f g i (PyProof.Rows.callWith_type1 (jJ (j pos Y s Z H _ I h) λn o ⟨q,u,v,w,y⟩=>c Y o Z u q n Q v w y) m b) l a)
end
end L2
namespace HT
open PySem PyProof.Rows
def lexLt:Yh->List Int->Bool
 | [],[]=>false
 | [],_::_=>true
 |_::_,[]=>false
 |x::xs,y::ys=>if x=y then lexLt xs ys else decide (x<y)
theorem lexLt_cons (x y)(xs ys):lexLt (x::xs) (y::ys)=if x=y then lexLt xs ys else decide (x<y):=rfl
theorem lexLt_nil_nil:lexLt [] []=false:=rfl
def MF (y)(ys):lexLt [] (y::ys)=true:=rfl
def MG (x)(xs):lexLt (x::xs) []=false:=rfl
def MI (A)(s)(a)(t)(c)(u):∃e,SeqAt.EqAt A s (.int a t) (.int c u) e/\(e=true↔a=c):=
 ⟨(a == c),SeqAt.EqAt.int_int a t c u,()⟩
def MJ (A)(s)(a)(t)(c)(u)(prog)(w)(E)(Q)(h:Q (.bool (decide (a<c))) s):
 YK prog w A (richCompare .Lt (.int a t) (.int c u)) Q E s:=
 (PyProof.Rows.lt_int h:YK prog w A (compareOp .Lt (.int a t) (.int c u)) Q E s)
section
open PySem.SeqAt
open PySem.AutoSeq1 (wpAny_loadPart')
open PySem.MeetsSeq PySem.MeetsSeq2 PySem.MeetsSeq3
def MK (l b:Addr)(i f:Yn)(n G:Nat)(dd v:Option Addr)(H z:Array Yg)(ns B:Yh)(I:IntsAre i.toList ns)(J:IntsAre f.toList B):
 Meets (Builtin.«tuple.__lt__» ⟨[.ref l,.ref b],[]⟩)
  (λ_ R s=>s.heap.get? l=some { cls:=.type "tuple",dict:=dd,data:=.seq i n,slots:=H }/\s.heap.get? b=some { cls:=.type "tuple",dict:=v,data:=.seq f G,slots:=z } /\
   R (.ok (.ret (.bool (lexLt ns B)))) s):=
 .of_wp λprog w A R s h=>by
  obtain⟨hp,g,d,tk,os⟩:=s;obtain⟨K,L,h⟩:=h;have P:=AutoSeq1.sub_tuple_tuple;have Q:i.size=ns.length:=by rw[<- I.length];simp
  have S:f.size=B.length:=by rw[<- J.length];simp
  wp_walk using wpAny_loadPart' K,wpAny_loadPart' L,wpAny_forIn_list _ (λrest b s'=>b.1=none/\s'=⟨hp,g,d,tk,os⟩/\∃(p r:Yf) (j m:Yh),rest=p.zip r /\
   IntsAre p j/\IntsAre r m/\j.length+f.size=m.length+i.size/\R (.ok (.ret (.bool (lexLt j m)))) ⟨hp,g,d,tk,os⟩) _
  case turn =>
   rintro⟨y,x⟩ rest b s' ⟨hb',rfl,p,r,j,m,hz,hvi,hwi,hlen,hR⟩;cases hvi with
   |nil=>rw[List.zip_nil_left] at hz;cases hz
   |cons a t E =>
    cases hwi with
    |nil=>rw[List.zip_nil_right] at hz;cases hz
    |cons c u F =>
     rw[Vu] at hz;injection hz with hyx hrest
     injection hyx with hy hx
     subst hy hx;rw[lexLt_cons] at hR;simp only[Zu] at hlen;obtain⟨e,M,o⟩:=MI A.in1 ⟨hp,g,d,tk,os⟩ a t c u;refine Za (M prog w _ _ ?_);cases e with
     |true =>
      rw[Zd (o.mp rfl)] at hR
      wp_walk
      exact()
     |false =>
      rw[Ze (λq=>Zn (o.mpr q) Zj)] at hR;have C:=MJ A.in1 ⟨hp,g,d,tk,os⟩ a t c u prog w
      wp_walk using C
      exact()
  case fin =>
   rintro⟨b1,b2⟩ s' ⟨hb',rfl,p,r,j,m,hz,hvi,hwi,hlen,hR⟩;simp only at hb';subst hb';have N:lexLt j m=decide (i.size<f.size):=by
    cases hvi with
    |nil =>
     cases hwi with
     |nil =>
      simp only[ZC] at hlen;rw[lexLt_nil_nil];exact()
     |cons c u O =>
      simp only[ZC,Zu] at hlen;rw[MF];exact()
    |cons a t N =>
     cases hwi with
     |nil =>
      simp only[ZC] at hlen;rw[MG];exact()
     |cons c u O =>
      cases hz
   wp_walk
   grind[Builtin.Tuple.tupleCompareSizes]
  grind
end
section
variable {prog:Program}{w:World}{A:Around}{E:Ya}{s:Shared}
def lt_tupInts {l b:Addr}{c a:Yn}{ns e:Yh}{Q:Ya}(p:IsTup s.heap l c)(q:IsTup s.heap b a)(r:IntsAre c.toList ns)(t:IntsAre a.toList e)
 (u:A.units<cLine) (h:Q (.bool (lexLt ns e)) s):YK prog w A (compareOp .Lt (.ref l) (.ref b)) Q E s:=by
 obtain⟨⟨cls,dd,data,v⟩,x,y,n,z⟩:=id p;obtain⟨⟨o,f,data2,g⟩,i,j,B,m⟩:=id q;subst y z j m;exact richCompare_meets_room (op:=.Lt) ⟨_,x,rfl⟩ ⟨_,i,rfl⟩ PySem.F.slot_tuple_lt PySem.F.entry_tuple_lt (PySem.F.args_tuple_lt_2 _ _) (MK l b c a n B dd f v g ns e r t)
  () u
def cat_tup {t b:Addr}{f a:Yf}{Q:Ya}(r:IsTup s.heap t f.toArray)(u:IsTup s.heap b a.toArray)(v:f ≠ [])
 (x:a=[]->Q (.ref t) s) (y:a ≠ []->Q (.ref s.heap.objs.size) { s with heap:=s.heap.push { cls:=.type "tuple",data:=.seq (f++a).toArray } })
 (hsz:f.length+a.length<=sizeLine):YK prog w A (binaryOp .Add (.ref t) (.ref b)) Q E s:=by
 obtain⟨⟨cls,dd,data,o⟩,i,z,n,B⟩:=id r;obtain⟨⟨p,g,data2,h⟩,c,l,q,m⟩:=id u;subst z B l m;have e:f.toArray++a.toArray=(f++a).toArray:=by simp
 by_cases j:a=[]
 .exact concat_meets ⟨_,i,rfl⟩ ⟨_,c,rfl⟩ noFill_tuple_add seq_tuple_add PySem.F.slot_tuple_add PySem.F.entry_tuple_add (PySem.F.args_tuple_add_2 _ _)
   (tuple_addW1 t b f.toArray a.toArray n q dd g o h () (by simp[j])) ⟨i,c,x j⟩
 .refine concat_meets ⟨_,i,rfl⟩ ⟨_,c,rfl⟩ noFill_tuple_add seq_tuple_add PySem.F.slot_tuple_add PySem.F.entry_tuple_add (PySem.F.args_tuple_add_2 _ _)
   (tuple_addW2 t b f.toArray a.toArray n q dd g o h (by simpa using v) (by simpa using j) ()) ⟨i,c,?_⟩
  rw[e];exact y j
end
end HT
namespace L2
abbrev TO:=St->Hp->(Option Int->Hp->Prop)->Prop
def PO (X:Cx)(e:Option Expr)(t:TO):Prop:=
 ∀(Y:Yb) (s:Shared) (Z: St) (H:Hp) (Q:Option Int->Hp->Prop),Inv X Y Z H s->t Z H Q ->
  YJ X (evalPart e X.env) (λu s'=>∃o a,Inv X Y Z a s'/\IsPart u o/\Q o a) X.xe s
def ML:TO:=λ_ H Q=>Q none H
def vJ (t:TE):TO:=λZ H Q=>t Z H λx a=>∃i,x=.int i/\Q (some i) a
def Ei {ns:Yh}:∀{a:Yf},ju (ns.map V.int) a->IntsAre a ns:=by
 induction ns with
 |nil=>intro a r;cases r;exact .nil
 |cons n ns b =>
  intro a r;cases r with
  |cons c f =>
   obtain⟨t,e⟩:=c;subst e;exact .cons n t (b f)
section
variable {X:Cx}{e:Expr}{te:TE}{lo hi:Option Expr}{tl th:TO}{pos p2:Pos}
def MM:PO X none ML:=λY s Z H Q I h=>Zb ⟨none,H,I,.none,h⟩
def MN (h:PE X e te):PO X (some e) (vJ te):=by
 intro Y s Z H Q I a;refine jJ (h Y s Z H _ I a) λu j ⟨x,b,c,f,g⟩=>?_;obtain⟨i,rfl,q⟩:=g;obtain⟨t,rfl⟩:=f;exact⟨some i,b,c,.int i t,q⟩
def uv (K:W.Frag):R2:=λx y H Q=>∃a b c ys,x=.ref a/\y=.ref b/\yi K H a c/\yi K H b ys/\c ≠ []/\c.length+ys.length<=sizeLine /\
 (ys=[]->Q (.ref a) H)/\(ys ≠ []->∀p,H p=none->Q (.ref p) (jB H p (.tup (c++ys))))
def ju.nil_iff {a:YF}{b:Yf}(r:ju a b):b=[]↔a=[]:=by
 cases r with
 |nil=>simp
 |cons _ _=>simp
def MO:xi X (binaryOp .Add) (uv X.K):=by
 intro Y s Z H x y v u Q I i j h;obtain⟨a,b,t,ys,rfl,rfl,l,m,n,hz,o,p⟩:=h;cases i;cases j;obtain⟨its,f,r,_⟩:=I.tuple l;obtain⟨g,c,p2,_⟩:=I.tuple m;refine HT.cat_tup r p2 (λz=>n (f.nil_iff.mp z)) (λz=>⟨.ref a,H,I,rfl,o (c.nil_iff.mp z)⟩) (λz=>⟨.ref s.heap.objs.size,_,I.laid (λb A q=>Zq _ q) (Zf _) ?_,rfl,p (λw=>z (c.nil_iff.mpr w)) _ (I.hok.fresh (Zf _))⟩) (by rwa [<- f.length,<- c.length]);exact⟨⟨(),⟨_,Zr _ rfl,rfl⟩⟩,_,f.append c,IsTup.new _ _⟩
end
def xJ (n:Nat)(i:Int):Option Nat:=if 0<=i then(if i<n then some i.toNat else none) else if -(n:Int)<=i then some (i+n).toNat else none
def jX {α: Type}(a:List α)(i:Int):Option α:= (xJ a.length i).bind λj=>a[j]?
def Ej {n:Nat}{i:Int}{j:Nat}(h:xJ n i=some j):seqIndex? i n=some j/\j<n /\ -(n:Int)<=i/\i<n:=by
 grind[xJ,Zqi,seqIndex_of,seqIndex_neg]
def B8 {α: Type}{a:List α}{i:Int}{v:α}(h:jX a i=some v):∃j,seqIndex? i a.length=some j/\a[j]? = some v/\j<a.length /\ -(a.length:Int)<=i/\i<a.length:=by
 unfold jX at h;cases e:xJ a.length i with
 |none=>simp_all
 |some j =>
  rw[e] at h;obtain⟨b,c,f,g⟩:=Ej e;exact⟨j,b,h,c,f,g⟩
def ZQ (b:Expr):Prop:=∀o i,subscripted b false o i=operate [o,i] (getItem o i)
def yH (X:Cx)(r:R2):Prop:=
 ∀(b a:Expr) (Y:Yb) (s:Shared) (Z: St) (H:Hp) (x y:V) (v u:Value) (Q:VK),Inv X Y Z H s->jv x v->jv y u->r x y H Q ->
  subscripted a false v u=operate [v,u] (getItem v u)->YJ X (subscriptTail b a v u) (EP X Y Z Q) X.xe s
def nM (X:Cx)(id:String)(r:V->YF->Hp->VK->Prop):Prop:=
 ∀(Y:Yb) (s:Shared) (Z: St) (H:Hp) (x:V) (a:YF) (v:Value) (b:Yf) (Q:VK),Inv X Y Z H s->jv x v->ju a b->r x a H Q ->
  YJ X (call (.builtin id) (v::b)) (EP X Y Z Q) X.xe s
section
variable {X:Cx}{a b:Expr}{ta tb:TE}{pos:Pos}
def yH.or {r f:R2}(h:yH X r)(j:yH X f):yH X (λx y H Q=>r x y H Q\/f x y H Q):=by
 intro c e Y s Z H x y v u Q I g i q hs;rcases q with q|q
 .exact h c e Y s Z H x y v u Q I g i q hs
 .exact j c e Y s Z H x y v u Q I g i q hs
def B9 {r:R2}(c:yH X r)(e:PE X a ta)(f:PE X b tb)(hs:ZQ b):PE X (.Subscript a b pos) (wP r ta tb):=λY s Z H Q I h=>Subscript_ (vk e f I h λv u g x y i j l m q=>c a b Y g Z i x y v u Q j l m q (hs _ _))
def ut (K:W.Frag):R2:=λx y H Q=>∃p c i v,x=.ref p/\y=.int i/\xb K H p c/\jX c i=some v/\Q v H
def uq (K:W.Frag):R2:=λx y H Q=>∃p c i v,x=.ref p/\y=.int i/\yi K H p c/\jX c i=some v/\Q v H
def ur:R2:=λx y H Q=>∃z i c,x=.str z/\y=.int i/\z.length<=sizeLine/\jX z.cps.toList i=some c/\Q (.str ⟨#[c]⟩) H
def nU:yH X (ut X.K):=by
 intro e f Y s Z H x y v u Q I A B h hs;obtain⟨p,K,i,z,rfl,rfl,C,E,q⟩:=h;cases A;obtain⟨t,rfl⟩:=B;obtain⟨its,r,pl,hz⟩:=I.list C;obtain⟨j,m,F,L,G,J⟩:=B8 E;obtain⟨w,n,g⟩:=r.get F;have M:=r.length;have N:=WU;have c:EP X Y Z Q w s:=⟨z,H,I,g,q⟩;by_cases o:0<=i
 .have l:i.toNat=j:=by
   rw[seqIndex_of o J] at m
   simp_all
  exact item_listR pl.isList o () (by rw[l];simpa using n) c hs
 .have l:(i+(its.toArray.size:Int)).toNat=j:=by
   rw[seqIndex_neg () G] at m
   simp_all
  exact subscriptTail_builtinR pl.isList.typeIs slot_list_getitem.lookup
   (wpAny_getItem_list_neg pl.isList () () () (by rw[l];simpa using n) ⟨rfl,c⟩) hs
def sj:yH X (uq X.K):=by
 intro c e Y s Z H x y v u Q I l m h hs;obtain⟨p,C,i,z,rfl,rfl,n,o,q⟩:=h;cases l;obtain⟨t,rfl⟩:=m;obtain⟨its,r,pl,hz⟩:=I.tuple n;obtain⟨j,E,A,F,G,J⟩:=B8 o;obtain⟨w,B,f⟩:=r.get A;have K:=r.length;have L:=WU;have g:EP X Y Z Q w s:=⟨z,H,I,f,q⟩;exact subscriptTail_builtinR pl.typeIs slot_tuple_getitem.lookup
  (getItem_tuple (j:=j) pl () () () (by simpa using B) ⟨rfl,g⟩) hs
def MP:yH X ur:=by
 intro e f Y s Z H x y v u Q I l m h hs;obtain⟨z,i,c,rfl,rfl,hz,n,q⟩:=h;obtain⟨t,rfl⟩:=l;obtain⟨t',rfl⟩:=m;obtain⟨j,g,o,A,p,r⟩:=B8 n;have w:z.cps.toList.length=z.length:=by rfl
 rw[w] at g p r;have B:=WU;exact tail_any (typeIs_str s z t) slot_str_getitem.lookup (getItem_str (by
  grind) (by rw[g];simpa using o) ⟨.str ⟨#[c]⟩,H,I.tok _,⟨_,rfl⟩,q⟩) hs
def dv (K:W.Frag):R2:=λx y H Q=>ut K x y H Q\/uq K x y H Q\/ur x y H Q
def MQ:yH X (dv X.K):=nU.or (sj.or MP)
def MS (its:Yf)(n j)(u):Obj.mapSeq (·.setIfInBounds j u) { cls:=.type "list",data:=.seq its.toArray n }={ cls:=.type "list",data:=.seq (its.set j u).toArray n }:=by
 simp[Obj.mapSeq]
theorem Inv.lst {Y:Yb}{Z: St}{H:Hp}{s:Shared}{p:Addr}{c:YF}(I:Inv X Y Z H s)(h:H p=some (.lst c)):
 ∃(its:Yf) (n:Nat),ju c its/\s.heap.get? p=some { cls:=.type "list",data:=.seq its.toArray n }/\c.length<=sizeLine:=have ⟨z,its,n,r,e⟩:=I.hok p _ h;⟨its,n,r,e,z⟩
def Inv.lstUpd {Y:Yb}{Z: St}{H:Hp}{s:Shared}{p:Addr}{j ys:YF}{its c:Yf}{n g:Nat}{f:Obj->Obj}(I:Inv X Y Z H s)(h:H p=some (.lst j))
 (l:s.heap.get? p=some { cls:=.type "list",data:=.seq its.toArray n }) (i:f { cls:=.type "list",data:=.seq its.toArray n }={ cls:=.type "list",data:=.seq c.toArray g }) (r:ju ys c) (hz:ys.length<=sizeLine) (t):
 Inv X Y Z (jB H p (.lst ys)) { s with heap:=s.heap.update p f,toks:=t }:=by
 have e:(s.heap.update p f).get? p=some { cls:=.type "list",data:=.seq c.toArray g }:=by
  rw[Heap.get?_update_self f l (by rw[i]<;>rfl),i]
 exact I.write (by rw[h];trivial) (.inl rfl) (λb u m q=>(Heap.get?_update_other _ _ (Ne.symm m)).trans q) ⟨_,e⟩ ⟨hz,c,g,r,e⟩
def uj:V->V->V->Hp->(Hp->Prop)->Prop:=λo i v H Q=>∃p c k j,o=.ref p/\i=.int k/\H p=some (.lst c)/\xJ c.length k=some j/\Q (jB H p (.lst (c.set j v)))
def MT:f6 X uj:=by
 intro Y s Z H o i v m w u Q I c e f h;obtain⟨p,x,k,j,rfl,rfl,hp,g,q⟩:=h;cases c;obtain⟨t,rfl⟩:=e;obtain⟨its,n,r,l,hz⟩:=I.lst hp;obtain⟨y,z,A,B⟩:=Ej g;have C:=r.length;have E:=WU;have F:=
  I.lstUpd hp l (MS its n j u) (r.set f j) () s.toks
 grind[seqIndex_of,Zqi,W.ki_setAt,seqIndex_neg,W.ki_setBack]
def MU:jU X (.builtin "len") (λf H Q=>∃p ys,f=[.ref p]/\(xb X.K H p ys\/yi X.K H p ys)/\Q (.int ys.length) H):=by
 intro Y s Z H f i Q I r h;obtain⟨p,ys,rfl,hq,q⟩:=h;obtain⟨u,rfl,g⟩:=QU r;cases g;have j:=WU;rcases hq with hq|hq
 .obtain⟨its,e,pl,hz⟩:=I.list hq;have c:=e.length;exact Calls.call_len_list pl.isList () ⟨.int ys.length,H,I.tok _,⟨s.toks+1,()⟩,q⟩
 .obtain⟨its,e,pl,hz⟩:=I.tuple hq;have c:=e.length;exact len_tuple pl () ⟨.int ys.length,H,I.tok _,⟨s.toks+1,()⟩,q⟩
def MV:jU X (.builtin "len") (λc H Q=>∃z,c=[.str z]/\z.length<=sizeLine/\Q (.int z.length) H):=by
 intro Y s Z H c e Q I r h;obtain⟨z,rfl,hz,q⟩:=h;obtain⟨u,rfl,t,rfl⟩:=QU r;have f:=WU;exact len_str () ⟨.int z.length,H,I.tok _,⟨_,rfl⟩,q⟩
def jU.or {f:Value}{r e:YF->Hp->VK->Prop}(h:jU X f r)(i:jU X f e):jU X f (λc H Q=>r c H Q\/e c H Q):=by
 intro Y s Z H c g Q I rs q;rcases q with q|q
 .exact h Y s Z H c g Q I rs q
 .exact i Y s Z H c g Q I rs q
def MW:jU X (.type "list") (λx H Q=>∃p ys,x=[.ref p]/\(xb X.K H p ys\/yi X.K H p ys)/\∀l,H l=none->Q (.ref l) (jB H l (.lst ys))):=by
 intro Y s Z H x A Q I r h;obtain⟨p,ys,rfl,hq,q⟩:=h;obtain⟨u,rfl,z⟩:=QU r;cases z;have i:∀its,ju ys its->ys.length<=sizeLine->∀c f,(∀b y,s.heap.get? b=some y->c.get? b=some y) ->
  c.get? s.heap.objs.size=some { cls:=.type "list",dict:=none,data:=.seq its.toArray f,slots:=#[] }->EP X Y Z Q (.ref s.heap.objs.size) { s with heap:=c }:=λits g hz c f j e =>
  ⟨.ref s.heap.objs.size,_,I.laid j (Zf _) (show xL X.prog X.w _ c _ (.lst ys) from ⟨hz,its,f,g,e⟩),rfl,q _ (I.hok.fresh (Zf _))⟩
 rcases hq with hq|hq
 .obtain⟨its,g,pl,hz⟩:=I.list hq;have m:=g.length;obtain⟨o,t,v,n,w⟩:=pl.isList;exact call_list_seq p (.inl rfl) t v w (λc f j e=>i its g hz c f j e) (by simp<;>lia)
 .obtain⟨its,g,pl,hz⟩:=I.tuple hq;have m:=g.length;obtain⟨o,t,v,n,w⟩:=pl;exact call_list_seq p (.inr rfl) t v w (λc f j e=>i its g hz c f j e) (by simp<;>lia)
def MX:jU X (.type "tuple") (λi H Q=>∃p ys,i=[.ref p]/\((xb X.K H p ys/\∀l,H l=none->Q (.ref l) (jB H l (.tup ys)))\/(yi X.K H p ys/\Q (.ref p) H))):=by
 intro Y s Z H i w Q I r h;obtain⟨p,ys,rfl,h⟩:=h;obtain⟨u,rfl,n⟩:=QU r;cases n;rcases h with ⟨f,q⟩|⟨f,q⟩
 .obtain⟨its,g,pl,hz⟩:=I.list f;have j:=g.length;refine call_tuple_list pl.isList (λc t=>?_) ();have m:Inv X Y Z H { s with heap:=c }:=I.kept t;have v:Inv X Y Z (jB H c.objs.size (.tup ys)) { s with heap:=c.push { cls:=.type "tuple",data:=.seq its.toArray } } :=
   m.laid (λb o e=>Zq _ e) (Zf _) (⟨⟨hz,⟨_,Zr _ rfl,rfl⟩⟩,its,g,IsTup.new _ _⟩)
  exact⟨.ref c.objs.size,_,v,rfl,q _ (m.hok.fresh (Zf _))⟩
 .obtain⟨its,g,pl,hz⟩:=I.tuple f;exact call_tuple_same pl ⟨.ref p,H,I,rfl,q⟩
def bI (K:W.Frag)(T:String)(x:V)(H:Hp):Prop:=match x with
 | .str _=>T = "str"
 | .int _=>T = "int"
 | .ref p=>(T = "list" /\ ∃e,xb K H p e)\/(T = "tuple" /\ ∃o,K.lookup p=some o/\o.cls=.type "tuple" /\ o.dict=none) \/
  (T = "dict" /\ ((∃c,H p=some (.dK c))\/∃c,H p=some (.dT c)))\/(T = "set" /\ ∃S n,H p=some (.set S n))
 |_=>False
def Ek {Y:Yb}{Z: St}{H:Hp}{s:Shared}{T:String}{x:V}{v:Value}(I:Inv X Y Z H s)(r:jv x v)(h:bI X.K T x H):
 s.TypeIs v T/\∀a,v=.ref a->∃q,s.heap.get? a=some q/\q.dict=none:=by
 cases x with
 |str z =>
  obtain⟨t,rfl⟩:=r;cases (h);exact⟨typeIs_str s z t,λ_ e=>nomatch e⟩
 |int i =>
  obtain⟨t,rfl⟩:=r;cases (h);exact⟨typeIs_int s i t,λ_ e=>nomatch e⟩
 |ref p =>
  cases r;rcases h with ⟨rfl,y,u⟩|⟨rfl,o,f,w,j⟩|⟨rfl,f⟩|⟨rfl,S,n,f⟩
  .obtain⟨its,_,pl,_⟩:=I.list u;refine⟨pl.isList.typeIs,λa e=>?_⟩;cases e;obtain⟨o,n,e,c,j,_⟩:=pl;exact⟨o,e,j⟩
  .refine⟨⟨o,I.kIn p o f,w⟩,λa e=>?_⟩;cases e;exact⟨o,I.kIn _ o f,j⟩
  .have z:∃o,s.heap.get? p=some o/\o.ExactDict:=by
    rcases f with ⟨l,f⟩|⟨l,f⟩
    .obtain⟨_,_,_,_,o,_,_,e,g,_⟩:=I.hok p _ f;exact⟨o,e,g⟩
    .obtain⟨_,_,_,_,o,_,_,e,g,_⟩:=I.hok p _ f;exact⟨o,e,g⟩
   obtain⟨o,e,g⟩:=z;refine⟨⟨o,e,g.1⟩,λa m=>?_⟩;cases m;exact⟨o,e,g.2.1⟩
  .obtain⟨o,_,_,_,e,g,_⟩:=I.hok p _ f;refine⟨⟨o,e,g.1⟩,λa m=>?_⟩;cases m;exact⟨o,e,g.2.1⟩
 |_=>exact False.elim h
def vU (K:W.Frag)(T:String)(r:V->YF->Hp->VK->Prop)(e:TE):TE:=λZ H Q=>e Z H λx c=>bI K T x c/\r x [] c Q
def fM (K:W.Frag)(T:String)(r:V->YF->Hp->VK->Prop)(e:TE)(t:TA):TE:=λZ H Q=>e Z H λx c=>bI K T x c/\t Z c λf g=>r x f g Q
variable {o e:Expr}{es:Ym}{to:TE}{t:TA}{name:Str}{apos cpos:Pos}{T id:String}{r:V->YF->Hp->VK->Prop}
def MY (m:PlainAttrs T)(g:Slot T name id)(i:typeOf (.builtin id)=pure (.type "method_descriptor"))(n:nM X id r)(p:PE X o to)
 (c:attributeBase o name X.env (eval o X.env)=eval o X.env:=by rfl) (f:(apos.endLine == cpos.line)=true:=by rfl):PE X (.Call (.Attribute o name apos) [] [] cpos) (vU X.K T r to):=by
 intro Y s Z H Q I h;refine wpAny_Call_method0_late c f (jJ (p Y s Z H _ I h) λv q ⟨x,u,j,l,w,y⟩=>?_);obtain⟨z,A⟩:=Ek j l w;exact⟨T,id,m,g,i,z,A,Calls.callWith_builtin rfl (PySem.evalArgs_none (n Y q Z u x [] v [] Q j l .nil y))⟩
def Kw (q:PlainAttrs T)(i:Slot T name id)(l:typeOf (.builtin id)=pure (.type "method_descriptor"))(u:nM X id r)(w:PE X o to)(y:PA X (e::es) t)
 (f:attributeBase o name X.env (eval o X.env)=eval o X.env:=by rfl)
 (j:((backTo cpos (starEach (e::es) X.env)).all (λx => !x.1)&&(backToKw cpos (keywordEach [] X.env)).all (λx=>x.1.isSome)
  && decide ((e::es).length+([]:List Keyword).length+(if([]:List Keyword).isEmpty then 0 else 1)<30))=true:=by rfl)
 (g:(apos.endLine == cpos.line)=true:=by rfl) (hs:starEach (e::es) X.env=(false,eval e X.env)::starEach es X.env:=by rfl) (c:(backTo cpos (starEach es X.env)).any (·.1)=false:=by rfl):
 PE X (.Call (.Attribute o name apos) (e::es) [] cpos) (fM X.K T r to t):=by
 intro Y s Z H Q I h;refine wpAny_Call_method_late f j g rfl (jJ (w Y s Z H _ I h) λv z ⟨x,A,m,n,B,C⟩=>?_);obtain⟨E,F⟩:=Ek m n B;refine⟨T,id,q,i,l,E,F,?_⟩;have p:=y cpos Y z Z A _ m C;rw[hs] at p ⊢;exact Calls.callWith_builtin (by show(false||(backTo cpos (starEach es X.env)).any (·.1))=false;rw[c]<;>rfl) (Calls.evalArgs_plain (jJ p λG J ⟨K,L,M,N,O⟩=>u Y J Z L x K v G Q M n N O))
end
def rR (X:Cx)(id:String)(r:V->YF->Hp->VK->Prop):Prop:=
 ∀(Y:Yb) (s:Shared) (Z: St) (H:Hp) (x:V) (a:YF) (v:Value) (b:Yf) (Q:VK),Inv X Y Z H s->jv x v->ju a b->r x a H Q ->
  YJ X (call (.builtin id) (v::b)) (EP X Y Z Q) X.xe s
def ju.one:∀{x:V} {a:Yf},ju [x] a->∃u,a=[u]/\jv x u:=λh=>by
 cases h with
 |cons r t=>cases t;exact⟨_,rfl,r⟩
def zi:∀{a:Yf},ju [] a->a=[]
 |_,.nil=>rfl
section
variable {X:Cx}{Y:Yb}{Z: St}{H:Hp}{s:Shared}{l b:Addr}{xs ys zs:YF}
def Inv.lset {its a:Yf}{n:Nat}{f:Yn->Array Value}{t':Nat}(I:Inv X Y Z H s)(c:H l=some (.lst xs))
 (e:s.heap.get? l=some { cls:=.type "list",data:=.seq its.toArray n }) (g:f its.toArray=a.toArray) (h:ju ys a) (hz:ys.length<=sizeLine):
 Inv X Y Z (jB H l (.lst ys)) { s with heap:=s.heap.update l (Obj.mapSeq f),toks:=t' }:=by
 have q:=PySem.IsL.update e f;rw[g] at q;exact I.write (by rw[c];exact trivial) (.inl rfl) (λm u i j=>(Heap.get?_update_other s.heap (Obj.mapSeq f) (Ne.symm i)).trans j) ⟨_,q⟩ ⟨hz,a,_,h,q⟩
def Inv.lnew {its:Yf}{t':Nat}(I:Inv X Y Z H s)(a:ju ys its)(hz:ys.length<=sizeLine):
 Inv X Y Z (jB H s.heap.objs.size (.lst ys)) { s with heap:=s.heap.push { cls:=.type "list",data:=.seq its.toArray },toks:=t' } :=
 I.laid (λ_ _ q=>Zq _ q) (Zf _) ⟨hz,its,0,a,Zr _ rfl⟩
theorem Inv.fresh (I:Inv X Y Z H s):H s.heap.objs.size=none:=I.hok.fresh (Zf _)
def Inv.lstM (I:Inv X Y Z H s)(a:H l=some (.lst xs)):xs.length<=sizeLine/\∃(its:Yf) (n:Nat),ju xs its/\xs.length=its.length/\s.heap.get? l=some { cls:=.type "list",data:=.seq its.toArray n }:=have ⟨z,its,n,r,e⟩:=I.hok l _ a;⟨z,its,n,r,r.length,e⟩
def MZ {n:Nat}(h:n<=sizeLine):Builtin.List.listTooLong n=false:=by
 simp_all [Builtin.List.listTooLong]
end
section
variable {X:Cx}
def BA:V->YF->Hp->VK->Prop:=λx b H Q=>∃l a y,x=.ref l/\b=[y]/\H l=some (.lst a)/\a.length<sizeLine/\Q .non (jB H l (.lst (a++[y])))
def K9:rR X "list.append" BA:=by
 intro Y s Z H x g v i Q I b c h;obtain⟨l,j,y,rfl,rfl,a,hz,q⟩:=h;cases b;obtain⟨u,rfl,f⟩:=c.one;obtain⟨z,its,n,r,m,e⟩:=I.lstM a;refine call_meets F.slot_list_append ⟨_,e,rfl⟩ F.entry_list_append (F.args_list_append_2 _ _) (PySem.list_append l its.toArray n u ()) ⟨e,⟨.non,_,I.lset a e () (r.append (.cons f .nil)) ?_,rfl,q⟩⟩
 grind
def El:V->YF->Hp->VK->Prop:=λx e H Q=>∃l b a c,x=.ref l/\e=[.ref b]/\H l=some (.lst a)/\H b=some (.lst c)/\a.length+c.length<=sizeLine/\Q .non (jB H l (.lst (a++c)))
def Na:rR X "list.extend" El:=by
 intro Y s Z H x y v A Q I g i h;obtain⟨l,b,B,C,rfl,rfl,f,j,hz,q⟩:=h;cases g;obtain⟨u,rfl,m⟩:=i.one;cases m;obtain⟨z,its,n,r,E,e⟩:=I.lstM f;obtain⟨G,a,o,p,t,w⟩:=I.lstM j;have hsz:its.toArray.size+a.toArray.size<=sizeLine:=by simp_all
 have c:¬(!its.toArray.isEmpty&&Builtin.List.listTooLong (its.toArray.size+a.toArray.size))=true:=by
  rw[MZ hsz,Bool.and_false];exact Zj
 refine call_meets F.slot_list_extend ⟨_,e,rfl⟩ F.entry_list_extend (F.args_list_extend_2 _ _)
  (AutoSeq1.list_extend_list_list_0 l its.toArray n b a.toArray o c () ()) ⟨e,w,⟨.non,_,I.lset f e () (r.append p) ?_,rfl,q⟩⟩
 simp_all
end
section
variable {prog:Program}{w:World}{A:Around}{E:Ya}{s:Shared}
set_option maxRecDepth 100000 in
end
section
variable {κ: Type}[DecidableEq κ]
def qq (a:List (κ × V))(k:κ):YG:=(a.find? λb=>decide (b.1=k)).map (·.2)
def qs (a:List (κ × V))(k:κ)(v:V):List (κ × V):=
 if(a.any λb=>decide (b.1=k))=true then a.map (λb=>if b.1=k then(b.1,v) else b) else a++[(k,v)]
def BB {p:κ × V}{r:List (κ × V)}{k:κ}(e:p.1=k):qq (p::r) k=some p.2:=by simp[qq,e]
theorem BC {p:κ × V}{r:List (κ × V)}{k:κ}(e:¬p.1=k):qq (p::r) k=qq r k:=by simp[qq,e]
theorem Em (k):∀a:List (κ × V),(a.any λb=>decide (b.1=k))=(qq a k).isSome
 | []=>rfl
 |p::r=>by
  rw[List.any_cons];by_cases e:p.1=k
  .simp[BB e,Zp e]
  .rw[BC e,Zo e,Bool.false_or];exact Em k r
def BD (a:List (κ × V))(k)(v):(qs a k v).length<=a.length+1:=by
 grind[qs,Zql,List.length_append,List.length_cons,List.length_nil]
def xh.isSome_eq {o:YG}{u:Yg}(r:xh o u):o.isSome=u.isSome:=by
 cases o with
 |none=>cases u with
  |none=>rfl
  |some _=>exact(r).elim
 |some _=>cases u with
  |none=>exact(r).elim
  |some _=>rfl
theorem xh.getD {o:YG}{u:Yg}{d:V}{a:Value}(r:xh o u)(b:jv d a):jv (o.getD d) (u.getD a):=by
 cases o with
 |none=>cases u with
  |none=>exact b
  |some _=>exact(r).elim
 |some _=>cases u with
  |none=>exact(r).elim
  |some _=>exact r
def KV.val {a:List (κ × V)}{c:List (κ × Value)}(r:KV a c)(k):xh (qq a k) (valueAt c k):=by
 induction r with
 |nil=>exact True.intro
 | @cons p q ps f h t g =>
  obtain⟨i,j⟩:=h;by_cases e:p.1=k
  .have b:valueAt (q::f) k=some q.2:=by simp_all [valueAt]
   rwa [BB e,b]
  grind[valueAt,BC]
theorem KV.any {a:List (κ × V)}{c:List (κ × Value)}(r:KV a c)(k):(a.any λb=>decide (b.1=k))=c.any λb=>decide (b.1=k):=by
 induction r with
 |nil=>rfl
 |cons h t e=>simp_all
def KV.repl {b:List (κ × V)}{c:List (κ × Value)}(r:KV b c)(k){y:V}{u:Value}(f:jv y u):
 KV (b.map λa=>if a.1=k then(a.1,y) else a) (c.map λa=>if a.1=k then(a.1,u) else a):=by
 induction r with
 |nil=>exact .nil
 | @cons p q ps g h t e =>
  refine .cons ?_ e
  grind
def KV.put {a:List (κ × V)}{b:List (κ × Value)}(r:KV a b)(k){y:V}{u:Value}(c:jv y u):KV (qs a k y) (stored b k u):=by
 unfold qs stored;rw[r.any k];by_cases e:(b.any λf=>decide (f.1=k))=true
 .rw[Zd e,Zd e];exact r.repl k c
 .rw[Ze e,Ze e];exact Paired.snoc r ⟨rfl,c⟩
theorem KV.length {a:List (κ × V)}{b:List (κ × Value)}(r:KV a b):a.length=b.length:=Paired.length r
end
def XB {P:Program}{w:World}{k:j7}{u:Value}(r:jv (kV k) u):(Q3 P w).is k u=true:=by
 cases k with
 |inl i=>have ⟨t,e⟩:=(r);subst e;exact L4 P w i t
 |inr x=>have ⟨t,e⟩:=(r);subst e;exact L5 P w x t
theorem En {P:Program}{w:World}:∀{ks:List j7} {a:Yf},ju (ks.map kV) a->ItemsAre (Q3 P w) ks a
 | [],_,r=>by cases r;exact .nil
 |k::ks,_,r=>by
  cases r with
  |cons h t=>exact .cons (XB h) (En t)
abbrev KT (H:Hp):List (List j7×V)->List (List j7×Addr×Value)->Prop:=Paired λp q=>p.1=q.1/\H q.2.1=some (.tup (p.1.map kV))/\jv p.2 q.2.2
def KT.val {H:Hp}{a:List (List j7×V)}{c:List (List j7×Addr×Value)}(r:KT H a c)(k):xh (qq a k) ((atKey c k).map (·.2)):=by
 induction r with
 |nil=>exact True.intro
 | @cons p q ps f h t g =>
  obtain⟨i,_,j⟩:=h;by_cases e:p.1=k
  .have b:atKey (q::f) k=some q.2:=by simp_all [atKey]
   rwa [BB e,b]
  grind[atKey,BC]
def KT.repl {H:Hp}{a:List (List j7×V)}{c:List (List j7×Addr×Value)}(r:KT H a c)(k){y:V}{u:Value}(f:jv y u):
 KT H (a.map λb=>if b.1=k then(b.1,y) else b) (c.map (putAt k u)):=by
 induction r with
 |nil=>exact .nil
 | @cons p q ps g h t e =>
  refine .cons ?_ e
  grind[putAt]
def KT.put {H:Hp}{a:List (List j7×V)}{c:List (List j7×Addr×Value)}(r:KT H a c)(k){b:Addr}{y:V}{u:Value}(g:H b=some (.tup (k.map kV)))(f:jv y u):
 KT H (qs a k y) (storedH c k b u):=by
 have e:(a.any λh=>decide (h.1=k))=(atKey c k).isSome:=by
  rw[Em,(r.val k).isSome_eq,Option.isSome_map]
 unfold qs storedH;rw[e];by_cases q:(atKey c k).isSome=true
 .rw[Zd q,Zd q];exact r.repl k f
 .rw[Ze q,Ze q];exact Paired.snoc r ⟨rfl,g,f⟩
def KT.keeps {H c:Hp}{a:List (List j7×V)}{e:List (List j7×Addr×Value)}(r:KT H a e)(f:∀b ys,H b=some (.tup ys)->c b=some (.tup ys)):KT c a e:=
 x4 r ()
section
variable {P:Program}{w:World}{H:Hp}{h:Heap}{a:Addr}
def Eo {u:HO}(ok:qH P w H h)(e:Rd H a u):xL P w H h a u:=e.ok ok
def W1 {b:List (j7×V)}(ok:qH P w H h)(e:Rd H a (.dK b)):b.length<=sizeLine/\(a == sysModules)=false/\∃c,KV b c/\h.DictOf (Q3 P w) a c:=
 Eo ok e
def BE {b:List (j7×V)}(ok:qH P w H h)(e:H a=some (.dK b)):b.length<=sizeLine/\(a == sysModules)=false/\∃c,KV b c/\h.DictOf (Q3 P w) a c:=W1 ok (.inl e)
theorem XC {ks:List j7}(ok:qH P w H h)(e:H a=some (.tup (ks.map kV))):(tupleKind (Q3 P w)).is h ks a:=have ⟨_,its,r,o,b,c,n,f⟩:=(ok a _ e);⟨o,its.toArray,n,b,c,f,by simpa using En r⟩
def WW {b:List (List j7×V)}(ok:qH P w H h)(e:Rd H a (.dT b)):b.length<=sizeLine/\(a == sysModules)=false /\
 ∃c,KT H b c/\h.DictOfH (tupleKind (Q3 P w)) a c:=by
 obtain⟨z,y,c,r,o,es,ep,g,i,j,n,s⟩:=(Eo ok e);refine⟨z,y,c,r,o,es,ep,g,i,j,n,λx f=>?_,s⟩;have all:∀{l:List (List j7×V)} {m:List (List j7×Addr×Value)},KT H l m->∀x∈m,(tupleKind (Q3 P w)).is h x.1 x.2.1:=by
  intro l m q
  induction q with
  |nil=>intro x f;exact nomatch f
  | @cons p q ps u v t A =>
   grind[XC]
 exact all r x f
def gK {b:List (List j7×V)}(ok:qH P w H h)(e:H a=some (.dT b)):b.length<=sizeLine/\(a == sysModules)=false /\
 ∃c,KT H b c/\h.DictOfH (tupleKind (Q3 P w)) a c:=WW ok (.inl e)
end
def xy (H:Hp)(a:Addr)(y:V)(r:YG):Prop:=
 (∃c k,Rd H a (.dK c)/\y=kV k/\r=qq c k)\/∃c k b,Rd H a (.dT c)/\y=.ref b/\H b=some (.tup (k.map kV))/\r=qq c k
def zp (H:Hp)(a:Addr)(y v:V)(e:Hp):Prop:=
 (∃c k,H a=some (.dK c)/\y=kV k/\c.length<sizeLine/\e=jB H a (.dK (qs c k v))) \/
 ∃c k b,H a=some (.dT c)/\y=.ref b/\H b=some (.tup (k.map kV))/\c.length<sizeLine/\e=jB H a (.dT (qs c k v))
theorem xy.k {H:Hp}{a:Addr}{b:List (j7×V)}{k:j7}(e:H a=some (.dK b)):xy H a (kV k) (qq b k):=.inl ⟨b,k,.inl e,rfl,rfl⟩
theorem zp.k {H:Hp}{a:Addr}{b:List (j7×V)}{k:j7}{v:V}(e:H a=some (.dK b))(c:b.length<sizeLine):zp H a (kV k) v (jB H a (.dK (qs b k v))):=.inl ⟨b,k,e,rfl,c,rfl⟩
section
variable {X:Cx}{Y:Yb}{Z: St}{H:Hp}{s:Shared}{a:Addr}{y v:V}{u r:Value}{o:YG}{A:Around}{E:Ya}
def Inv.big (I:Inv X Y Z H s):sysModules<s.heap.objs.size:=have h:=(I.mod.glob.keeps I.bk).lt;Ug (by decide) h
def Nb {Q:Ya}(w:A.units+1<cLine)(I:Inv X Y Z H s)(g:xy H a y (some v))(t:jv y u)(h:∀i s',Inv X Y Z H s'->jv v i->Q i s'):
 wpAny (model X.prog X.w) A (getItem (.ref a) u) Q E s:=by
 rcases g with ⟨j,k,e,m,l⟩|⟨j,k,b,e,m,x,l⟩
 .subst m;obtain⟨z,B,C,c,dd⟩:=W1 I.hok e;obtain⟨i,n,f⟩:=qA (by rw[l];exact c.val k);exact wpAny_getItem_of (XB t) dd.mapOf n (h i _ (I.tok _) f)
 .subst m;cases (t);obtain⟨z,B,F,c,dd⟩:=WW I.hok e;obtain⟨i,n,f⟩:=qA (by rw[l];exact c.val k);obtain⟨p,hp,q⟩:=Jk.mp n;refine wpAny_getItem_heap (tupleKind_room_in1 w) (XC I.hok x) dd hp ?_;rw[q];exact h i _ (I.tok _) f
def Nc {Q:Ya}(n:A.units+1<cLine)(I:Inv X Y Z H s)(g:xy H a y o)(m:jv y u)(h:∀s',Inv X Y Z H s'->Q (.bool (!o.isSome)) s'):
 wpAny (model X.prog X.w) A (compareOp .NotIn u (.ref a)) Q E s:=by
 rcases g with ⟨f,k,e,i,l⟩|⟨f,k,b,e,i,p,l⟩
 .subst i;obtain⟨z,j,t,c,dd⟩:=W1 I.hok e;refine wpAny_notIn_of (XB m) j dd.mapOf ?_;rw[<- (c.val k).isSome_eq,<- l];exact h _ (I.tok _)
 .subst i;cases (m);obtain⟨z,j,w,c,dd⟩:=WW I.hok e;refine wpAny_notIn_heap (tupleKind_room_in1 n) (XC I.hok p) j dd ?_;have q:=(c.val k).isSome_eq;rw[Option.isSome_map] at q;rw[<- q,<- l];exact h _ (I.tok _)
def Ep {c:Heap}{t':Nat}{e:HO}(I:Inv X Y Z H s)(f:f8 (H a))(hs:Heap.SameBut a s.heap c)(g:∃q,c.get? a=some q)(new:xL X.prog X.w (jB H a e) c a e):
 Inv X Y Z (jB H a e) { s with heap:=c,toks:=t' } :=
 I.write f (.inl rfl) (λb q h z=>(hs.2 b h).trans z) g new
def Er {P:Program}{w:World}{g:Hp}{f:Heap}{b:List (j7×V)}{c:List (j7×Value)}(z:b.length<=sizeLine)(h:(a == sysModules)=false)(e:KV b c)(dd:f.DictOf (Q3 P w) a c):
 xL P w g f a (.dK b):=⟨z,h,c,e,dd⟩
def Nd {x:Hp}{Q:Unit->YC}(J:A.units+1<cLine)(I:Inv X Y Z H s)(g:zp H a y v x)(B:jv y u)(C:jv v r)(h:∀s',Inv X Y Z x s'->Q Yt s'):
 wpAny (model X.prog X.w) A (setItem (.ref a) u r) Q E s:=by
 rcases g with ⟨f,k,e,n,l,p⟩|⟨f,k,b,e,n,F,l,p⟩
 .subst n p;obtain⟨z,t,K,i,dd⟩:=BE I.hok e;have hz:K.length<=sizeLine:=by rwa [<- i.length]
  have w:(qs f k v).length<=sizeLine:=by have:=BD f k v;lia
  refine wpAny_setItem_pairs (hsz:=hz) (XB B) dd λG j hs=>h _ ?_;have L:∃q,G.get? a=some q:=let ⟨q,_,_,m,_⟩:=j;⟨q,m⟩
  exact Ep I (by rw[e];exact True.intro) hs L (Er w t (i.put k C) j)
 .subst n p;cases (B);obtain⟨z,t,M,i,dd⟩:=gK I.hok e;have hz:M.length<=sizeLine:=by rwa [<- Paired.length i]
  have w:(qs f k v).length<=sizeLine:=by have:=BD f k v;lia
  refine wpAny_setItem_heap (hsz:=hz) (tupleKind_room_in1 J) (XC I.hok F) dd λG j hs=>h _ ?_;obtain⟨q,es,ep,m,N,O,P,_,R⟩:=j;refine Ep I (by rw[e];exact True.intro) hs ⟨q,m⟩ ⟨w,t,_,(i.put k F C).keeps λc ys S=>?_,q,es,ep,m,N,O,P,R⟩
  rwa [JJ ()]
end
section
variable {X:Cx}{Y:Yb}{Z: St}{H:Hp}{s:Shared}{a:Addr}{kvs:List (j7×V)}{k:j7}{u:Value}{A:Around}{E:Ya}
def gP {Q:Ya}(I:Inv X Y Z H s)(e:Rd H a (.dK kvs))(h:∀t s',Inv X Y Z H s'->Q (.int kvs.length t) s'):wpAny (model X.prog X.w) A (call (.builtin "len") [.ref a]) Q E s:=by
 obtain⟨z,c,f,b,dd⟩:=W1 I.hok e;refine call_len_dict c dd (by rw[<- b.length];rw[sizeLine_eq] at z;lia) ?_;rw[<- b.length];exact h _ _ (I.tok _)
end
def zN (i:Expr):Prop:=∀a b,subscripted i false a b=operate [a,b] (getItem a b)
def Nf {prog:Program}{w:World}{A:Around}{E:Ya}{s:Shared}{env:Env}{b a:Expr}{c:Pos}{T id:String}{Q:Ya}
 (e:typeLookup (.type T) "__getitem__" = pure (some (.builtin id))) (hs:zN a)
 (h:YK prog w A (eval b env) (λo s₁=>YK prog w A (eval a env) (λi s₂=>s₂.TypeIs o T/\YK prog w A (getItem o i) Q E s₂) E s₁) E s):
 YK prog w A (eval (.Subscript b a c) env) Q E s:=by
 refine Subscript_ (Zc h (λo s₁ h₁=>Zc h₁ (λi s₂ h₂=>?_) λ_ _ x=>x) λ_ _ x=>x);obtain⟨f,h₂⟩:=h₂;refine Za (Za (wpAny_specialOf f e ?_));have g:YK prog w A (subscripted a false o i) (λr s₃=>YK prog w A (letTemporaryGo b o r >>= λ_=>pure r) Q E s₃) E s₂:=by
  rw[hs o i];exact wpAny_operating (Zc h₂ (λr s₃ h₃=>Za (wpAny_letTemporaryGo (Zb h₃))) λ_ _ x=>x)
 grind[wpAny_pure,wpAny_bind]
def Ng {X:Cx}{Y:Yb}{Z: St}{H:Hp}{s:Shared}{a:Addr}{y:V}{o:YG}(I:Inv X Y Z H s)(g:xy H a y o):s.TypeIs (.ref a) "dict" := by
 rcases g with ⟨c,k,e,_,_⟩|⟨c,k,b,e,_,_,_⟩
 .obtain⟨_,_,f,_,dd⟩:=W1 I.hok e;exact dd.typeIs
 .obtain⟨_,_,h,_,dd⟩:=WW I.hok e;exact dd.typeIs
def vT (c e:TE):TE:=λZ H Q=>c Z H λx f=>e Z f λy b=>∃a v,x=.ref a/\xy b a y (some v)/\Q v b
def Nh (c e:TE):TE:=λZ H Q=>c Z H λy f=>e Z f λx b=>∃a o,x=.ref a/\xy b a y o/\Q (.bl (!o.isSome)) b
def ug (c e f:TE):TS:=λD Z H=>f Z H λv g=>c Z g λx h=>e Z h λy i=>∃a b,x=.ref a/\zp i a y v b/\D.nx Z b
section
variable {X:Cx}{o i e value:Expr}{pos pos' tpos:Pos}{td ty tv:TE}
def BF (f:X.A.units+1<cLine)(j:PE X o td)(l:PE X i ty)(hs:zN i):PE X (.Subscript o i pos) (vT td ty):=by
 intro Y s Z H Q I h;refine Nf PySem.F.slot_dict_getitem.lookup hs (jJ (j Y s Z H _ I h) λu m ⟨x,n,p,q,r⟩=>jJ (l Y m Z n _ p r) λC E ⟨y,t,c,w,a,v,z,g,A⟩=>?_);subst z;obtain rfl:=q;exact⟨Ng c g,Nb f c g w λF G B b=>⟨v,t,B,b,A⟩⟩
def Ni (b:X.A.units+1<cLine)(c:PE X i ty)(f:PE X o td):PC X .NotIn i o (Nh ty td):=by
 intro Y s Z H Q I h;refine jJ (c Y s Z H _ I h) λB j ⟨y,l,m,n,p⟩=>jJ (f Y j Z l _ m p) λu C ⟨x,q,r,t,a,v,w,g,z⟩=>?_;subst w;obtain rfl:=t;exact Nc b r g n λE A=>⟨.bl (!v.isSome),q,A,rfl,z⟩
def Es (b:X.A.units+1<cLine)(c:PE X o td)(f:PE X i ty)(j:PE X value tv)(hs:swapsWith value (some (.Subscript o i pos')) pos.line X.env=pure false):
 PS X (.Assign [.Subscript o i pos'] value pos) (ug td ty tv):=by
 intro Y s Z H D I h;refine wpAny_Assign_Subscript (jJ (j Y s Z H _ I h) λr l ⟨v,m,n,p,q⟩=>jJ (c Y l Z m _ n q) λu t ⟨x,w,z,A,B⟩=>jJ (f Y t Z w _ z B) λL M ⟨y,N,C,E,a,F,G,g,J⟩=>?_) hs;subst G;obtain rfl:=A;exact Nd b C g E p λO K=>⟨Z,F,K,J⟩
end
def Nj {P:Program}{w:World}{H:Hp}(h:Heap)(a:sysModules<h.objs.size):xL P w H (h.push { cls:=.type "dict",data:=.dict #[] }) h.objs.size (.dK []):=
 ⟨Ua _,(),[],.nil,Heap.DictOf.new h⟩
def Nk:TE:=λ_ H Q=>∀p,H p=none->Q (.ref p) (jB H p (.dK []))
section
variable {X:Cx}{pos:Pos}
def Nl:PE X (.Dict [] [] pos) Nk:=λY s Z H Q I h =>
 wpAny_Dict_empty ⟨.ref s.heap.objs.size,_,I.laid (λ_ _ q=>Zq _ q) (Zf _) (Nj s.heap I.big),rfl,h _ (I.hok.fresh (Zf _))⟩
end
def W2 (a more:List (j7×V)):List (j7×V):=more.foldl (λb c=>qs b c.1 c.2) a
def zQ:∀{more:List (j7×V)} {rs:List (j7×Value)} {a:List (j7×V)} {b:List (j7×Value)},KV more rs->KV a b->KV (W2 a more) (merged b rs):=by
 intro more rs a b r
 induction r generalizing a b with
 |nil=>intro q;exact q
 | @cons p q ps g h t c =>
  intro f;have e:KV (qs a p.1 p.2) (stored b q.1 q.2):=by
   have:=f.put p.1 h.2
   rwa [<- h.1]
  exact c e
theorem Et:∀more a,(W2 a more).length<=a.length+more.length
 | [],a=>by show a.length<=a.length+0;lia
 |p::r,a=>by
  have b:=Et r (qs a p.1 p.2);have c:=BD a p.1 p.2;show(W2 (qs a p.1 p.2) r).length<=_
  grind
structure M2 (X:Cx)(o:Expr)(m:Str)(apos:Pos)(e f:Expr)(cpos:Pos):Prop where
 base:attributeBase o m X.env (eval o X.env)=eval o X.env
 few:((backTo cpos (starEach [e,f] X.env)).all (λx => !x.1)&&(backToKw cpos (keywordEach [] X.env)).all (λx=>x.1.isSome)
  && decide (([e,f]:Ym).length+([]:List Keyword).length+(if([]:List Keyword).isEmpty then 0 else 1)<30))=true
 line:(apos.endLine == cpos.line)=true
 trees:backTo cpos (starEach [e,f] X.env)=[(false,eval e X.env),(false,eval f X.env)]
def jg (H:Hp)(a:Addr):Prop:=(∃b,Rd H a (.dK b))\/∃b,Rd H a (.dT b)
def Nm {X:Cx}{Y:Yb}{Z: St}{H:Hp}{s:Shared}{a:Addr}(I:Inv X Y Z H s)(d:jg H a):
 s.TypeIs (.ref a) "dict" /\ (∀b,Value.ref a=.ref b->∃c,s.heap.get? b=some c/\c.dict=none)/\(a == sysModules)=false:=by
 rcases d with ⟨f,e⟩|⟨f,e⟩
 .obtain⟨_,g,j,_,dd⟩:=W1 I.hok e;refine⟨dd.typeIs,λb q=>?_,g⟩;cases q;obtain⟨c,_,_,h,i,_⟩:=dd;exact⟨c,h,i.2.1⟩
 .obtain⟨_,g,l,_,dd⟩:=WW I.hok e;refine⟨dd.typeIs,λb q=>?_,g⟩;cases q;obtain⟨c,_,_,h,i,_⟩:=dd;exact⟨c,h,i.2.1⟩
section
variable {X:Cx}{Y:Yb}{Z: St}{H:Hp}{s:Shared}{a:Addr}{y d:V}{u r:Value}{o:YG}{A:Around}{E:Ya}
def No {Q:Ya}(q:A.units+1<cLine)(I:Inv X Y Z H s)(g:xy H a y o)(m:jv y u)(n:jv d r)(h:∀p s',Inv X Y Z H s'->jv (o.getD d) p->Q p s'):
 wpAny (model X.prog X.w) A (call (.builtin "dict.get") [.ref a,u,r]) Q E s:=by
 rcases g with ⟨f,k,e,i,l⟩|⟨f,k,b,e,i,t,l⟩
 .subst i;obtain⟨z,j,w,c,dd⟩:=W1 I.hok e;refine call_meetsIn PySem.F.slot_dict_get dd.typeIs PySem.F.entry_dict_get (PySem.F.args_dict_get_3 _ _ _) (meets_dict_get_default (Q3 X.prog X.w) a (XB m) j r) ⟨_,dd.mapOf,h _ _ (I.tok _) ?_⟩;rw[l];exact(c.val k).getD n
 .subst i;cases (m);obtain⟨z,j,v,c,dd⟩:=WW I.hok e;refine call_meetsIn PySem.F.slot_dict_get dd.typeIs PySem.F.entry_dict_get (PySem.F.args_dict_get_3 _ _ _) (meetsH_dict_get_default (tupleKind (Q3 X.prog X.w)) a b j r) ⟨tupleKind_room_in1 q,k,v,XC I.hok t,dd,h _ _ (I.tok _) ?_⟩;rw[l];exact(c.val k).getD n
end
def Np (e f g:TE):TE:=λZ H Q=>e Z H λx b=>∃a,x=.ref a/\jg b a/\f Z b λy h=>g Z h λz c=>∃o,xy c a y o/\Q (o.getD z) c
section
variable {X:Cx}{o e f:Expr}{apos cpos:Pos}{td ty tx:TE}
def Nq (i:X.A.units+1<cLine)(j:PE X o td)(l:PE X e ty)(n:PE X f tx)(m:M2 X o "get" apos e f cpos):PE X (.Call (.Attribute o "get" apos) [e,f] [] cpos) (Np td ty tx):=by
 intro Y s Z H Q I h;refine wpAny_Call_method m.base m.few m.line PySem.F.plainAttrs_dict PySem.F.slot_dict_get PySem.F.type_dict_get (jJ (j Y s Z H _ I h) λu p ⟨x,q,c,r,a,t,d,v⟩=>?_);subst t;obtain rfl:=r;obtain⟨w,A,_⟩:=Nm c d;refine⟨w,A,?_⟩;rw[m.trees];exact Calls.callWith_builtin rfl (Calls.evalArgs_plain (Calls.spliced_cons (jJ (l Y p Z q _ c v) λO B ⟨y,C,E,F,G⟩ =>
  Calls.spliced_cons (jJ (n Y B Z C _ E G) λP R ⟨z,J,K,L,S,g,M⟩=>Calls.spliced_nil (No i K g F L λT U N b=>⟨_,J,N,b,M⟩)))))
end
end L2
namespace Att
open PySem PySem.W PySem.Calls PyProof.Rows
theorem Nr {P:Params}{h:Heap}:∀ns c,WellAll P h c (ns.map WData.int)->IntsAre c ns:=by
 intro ns
 induction ns with
 |nil =>
  intro c w;cases w;exact .nil
 |cons n ns e =>
  intro c w;cases w with
  |cons a b =>
   cases a;exact .cons _ _ (e _ b)
def Nt {l:OpenLaw}{n:Nat}(m:l.most=some n){P:Params}{h:Heap}{args:List WData}{b:Yf}
 (c:l.row.toRowW.claim.pre args=true) (e:WellAll P h b args):
 ∃a g ns,b=[Value.ref a]/\args=[WData.list (ns.map WData.int)]/\h.get? a=some { cls:=.type "list",data:=.seq g.toArray }/\IntsAre g ns/\ns.length<=n:=by
 obtain⟨d,r,rfl,o,p⟩:=hasAllW_cons ((pre_splitW c).1);obtain rfl:=hasAllW_nil p;obtain⟨u,rfl,q⟩:=hasW_list o;obtain⟨ns,rfl⟩:=items_int q;have i:ns.length<=n:=by
  have f:(WTm.not (.lt (.lit (.int (n:Int))) (.len (.arg 0)))).holds [] { args:=[.list (ns.map .int)] }=true:=by
   have f:=(holds_andW ((pre_splitW c).2)).1
   rwa [m] at f
  have v:=condW_of f rfl
  simp_all
 cases e with
 |cons s t =>
  cases t;cases s with
  |list w j=>grind[Nr]
def Nu (l:OpenLaw)(args):l.row.toRowW.claim.post args (.bool true) args=true:=
 postW_of
  rfl
  (w_eq_bool (w_res rfl) w_lit) rfl
def attach_call {l:OpenLaw}{n:Nat}{q:Program}{b:Yk}{A:(Ye)->Heap->Prop}{B:World->Heap->Prop}{d:DefRec}
 (H:l.most=some n) (t:d.params.defaults=[])
 (call:∀w s₀ s₁ mg u h o v p c a g ns,
  Ground q b [] A w s₀ mg u s₁.heap->B w s₁.heap ->
  s₁.heap.get? h=some o->o.data=.func (docDef d.name d.params d.body d.scope v p c)->s₁.heap.CodeRec p d.name->mg d.name=some (.ref h) ->
  s₁.heap.get? a=some { cls:=.type "list",data:=.seq g.toArray }->IntsAre g ns->ns.length<=n->s₁.gens = #[] ->
  codeAny (model l.prog w) callerA (.call (.ref h) ⟨[.ref a],[]⟩) (λr s'=>r=.ok (.ret (.bool true))/\OldK s₁.heap s'.heap/\s'.os=s₁.os/\AllBare s'.gens) s₁):
 WalkO q b A B l.row.toRowW d [] (λf g=>PySem.call f g):=by
 intro w s₀ s₁ mg u G Yy h o v p c S kV I J x C y K args E T i F L z M;obtain rfl:=Dflts.none C t;obtain rfl:=Dflts.noKw C;obtain⟨a,g,ns,rfl,rfl,j,e,m⟩:=Nt H i z;refine enter_call (codeAny_mono (call w s₀ s₁ mg u h o v p c a g ns G Yy I (fd_plain J) x y j e m K) λr s' N=>?_);obtain⟨rfl,O,P,Q⟩:=N;exact⟨.inl ⟨.bool true,.bool true,[],rfl,λ_=>rfl,.bool true,Nu l _,λ_=>⟨List.Pairwise.nil,λ_ R=>(nomatch R)⟩⟩,O,P,Q⟩
end Att
namespace L2
def Nv:∀{a:Yf} {ns:Yh},IntsAre a ns->ju (ns.map V.int) a:=λh=>by
 induction h with
 |nil=>exact .nil
 |cons n t _ b=>exact .cons ⟨t,rfl⟩ b
def vo (H:Hp):Prop:=∀b,H b=none\/∃o a,H b=some (.frz o (.lst a))
def Nw {P:Program}{w:World}{K:W.Frag}{mg G:Ye}{CX:zq}{k:Nat}{I a:Addr}{fd:FuncData}{x:Str}{sp:Sp}{s₁:Shared}{p:Yf}{ns:Yh}
 (R:K.In s₁.heap) (t:s₁.heap.Ns mainGlobals mg) (f:s₁.heap.Ns builtinsNs G) (J:∀x:Str,x ≠ "__name__" -> G x=bootBuiltins x) (y:s₁.heap.NoLimit) (Y:s₁.gens = #[])
 (L:s₁.heap.get? a=some { cls:=.type "list",data:=.seq p.toArray }) (S:IntsAre p ns) (hl:ns.length<=sizeLine) (Z:Room k callerA)
 (F:∀g:Heap,K.In g->g.Ns mainGlobals mg->FnOk P w K mg g CX k I fd [x] sp) (l:∀s u,BindsTo s fd ⟨[u],[]⟩ [(x,u)])
 (M:∀H:Hp,vo H->xb K H a (ns.map V.int)->sp [.ref a] H (λv _=>v=.bl true) λ_ _ _=>False)
 (N:∀H e s',CX [] H s₁ (λ_ _ _=>False) e s'->False):
 codeAny (model P w) callerA (.call (.ref I) ⟨[.ref a],[]⟩) (λr s'=>r=.ok (.ret (.bool true))/\OldK s₁.heap s'.heap/\s'.os=s₁.os/\AllBare s'.gens) s₁:=by
 have T:=Nv S;have A:=S.length;have j:∀H:Hp,vo H->xb K H a (ns.map V.int)->qH P w H s₁.heap->(∀b,H b≠none->b=a)->(H a≠none->K.lookup a=none) ->
  codeAny (model P w) callerA (.call (.ref I) ⟨[.ref a],[]⟩) (λr s'=>r=.ok (.ret (.bool true))/\OldK s₁.heap s'.heap/\s'.os=s₁.os/\AllBare s'.gens) s₁:=by
  intro H U hS B hA hK;have c:∀{b:Addr} {o:Obj},s₁.heap.get? b=some o->H b=none->(yf s₁.heap H).get? b=some o:=λe n=>L8 e n;have O:∀{b:Addr} {o:Obj} {es:Array DictEntry} {ep:Nat},s₁.heap.get? b=some o->o.data=.dict es ep->H b=none:=by grind
  have i:∀{b:Addr} {m:Ye},s₁.heap.Ns b m->(yf s₁.heap H).Ns b m:=λ{b m} ⟨o,es,ep,e,d,r⟩=>⟨o,es,ep,c e (O e d),d,r⟩;have C:K.In (yf s₁.heap H):=λb o e=>c (R b o e) (by
   grind)
  have hM:Mod K mg (yf s₁.heap H):=⟨C,i t,⟨G,i f,J⟩,let ⟨mc,h1,h2⟩:=y;⟨mc,i h1,h2⟩⟩;have e0:Env0 P w K mg (yf s₁.heap H) callerA [] s₁ H:=⟨rfl,hM,λb o e=>L9 e,Yx (L6 _ _),trivial,λb f=>Zn (show b∈([]:Yl) from f) (),B,.of_eq Y⟩;refine codeAny_mono ((F _ C (i t)).run callerA [] s₁ H ⟨[.ref a],[]⟩ [.ref a] [.ref a] _ _ Z e0 (l s₁ (.ref a)) (.cons rfl .nil) (M H U hS)) λr s' h=>?_;cases r with
  |error e=>exact(N H e s' h).elim
  |ok fl =>
   cases fl with
   |next=>exact False.elim h
   |brk=>exact False.elim h
   |cont=>exact False.elim h
   |ret u =>
    obtain⟨v,H',os,bare,un,E,r',q⟩:=h;have q':v=.bl true:=q;subst q';obtain rfl:=r';refine⟨rfl,OldK.of_keep λb o e=>?_,os,bare⟩;cases q:H b with
    |none=>exact un.keep b o e q (λz=>Zn (show b∈([]:Yl) from z) ()) ()
    |some u =>
     rcases U b with z|⟨ob,xs,z⟩
     .rw[q] at z;cases z
     .obtain⟨X,_⟩:=B b _ z;obtain⟨e2,_⟩:=E b _ (un.frzs b ob _ z);rw[e] at X;cases X;exact e2
 cases Q:K.lookup a with
 |some o =>
  have e:=R a o Q;rw[L] at e;cases e;refine j (λ_=>none) (λ_=>.inl rfl) (.inr ⟨_,p.toArray,_,Q,rfl,rfl,rfl,by rwa [Zm,A],by simpa using T⟩) (λb u z=>by have z':=z;cases z') () λz=>Zn rfl z
 |none =>
  refine j (λb=>if b=a then some (.frz { cls:=.type "list",data:=.seq p.toArray } (.lst (ns.map V.int))) else none) (λb=>?_) (.inl (.inr ⟨{ cls:=.type "list",data:=.seq p.toArray },Zd rfl⟩)) (λb u z=>?_) (λb z=>?_) λ_=>Q
  .by_cases f:b=a
   .exact by grind
   .exact .inl (Ze f)
  .by_cases f:b=a
   .cases ((Zd f).symm.trans z);subst f;exact⟨L,by rwa [Zql],p,_,T,L⟩
   .cases ((Ze f).symm.trans z)
  .by_cases f:b=a
   .exact f
   .exact Zn (Ze f) z
def walk_of {l:W.OpenLaw}{n k:Nat}{q:Program}{g:Yk}{E:(Ye)->Heap->Prop}{A:World->Heap->Prop}{d:DefRec}{K:Params->W.Frag}{CX:World->zq}{sp:World->Sp}{x:Str}
 (I:l.most=some n) (p:n<=sizeLine) (r:d.params.defaults=[]) (J:Room k callerA)
 (L:∀w h,A w h->(K w.params).In h)
 (F:∀w mg m h,(K w.params).In h->h.Ns mainGlobals mg->mg d.name=some (.ref m) ->
  ∃fd:FuncData,(∀s u,BindsTo s fd ⟨[u],[]⟩ [(x,u)]) /\
   ∀b:Heap,(K w.params).In b->b.Ns mainGlobals mg->FnOk l.prog w (K w.params) mg b (CX w) k m fd [x] (sp w))
 (t:∀w H a (ns:Yh),ns.length<=n->vo H->xb (K w.params) H a (ns.map V.int)->sp w [.ref a] H (λv _=>v=.bl true) λ_ _ _=>False)
 (y:∀w H s e s',CX w [] H s (λ_ _ _=>False) e s'->False):
 W.WalkO q g E A l.row.toRowW d [] (λf B=>PySem.call f B):=by
 refine Att.attach_call I r λw s₀ s₁ mg T m o U X M a B ns G Yy Y Z N z j i c O=>?_;have C:=L w _ Yy;obtain⟨fd,P,Q⟩:=F w mg m _ C G.T.g z;exact Nw C G.T.g G.T.b G.T.builtins G.T.nolimit O j i (Zh c p) J Q P (λH R S=>t w H a ns c R S) λH e s'=>y w H s₁ e s'
def ZR (s:Stmt)(j:Nat):Stmt:=match s with
 | .ClassDef _ _ _ body _ _ _ _ _ _ _=>body.getD j (.Pass ⟨0,0,0,0⟩)
 |_=>.Pass ⟨0,0,0,0⟩
def W3 (s:Stmt):Arguments:=match s with
 | .FunctionDef _ a _ _ _ _ _ _ _ _=>a
 |_=>{ posonlyargs:=[],args:=[],vararg:=none,kwonlyargs:=[],kw_defaults:=[],kwarg:=none,defaults:=[] }
def QV (s:Stmt):List Stmt:=match s with
 | .FunctionDef _ _ b _ _ _ _ _ _ _=>b
 |_=>[]
def JZ (s:Stmt):Scope:=match s with
 | .FunctionDef _ _ _ _ _ _ sc _ _ _=>sc
 |_=>{ kind:=.function,names:=[],isGenerator:=false,isCoroutine:=false }
abbrev yr:zq:=λ_ _ _ _ _ _=>False
abbrev E0:XK:=λ_ _ _=>False
def Eu {X:Cx}:WV yr X E0:=λ_ _ _ _ _ _ _ h=>h.elim
structure Fun (K:W.Frag)(x qual:Str)(st:Stmt)(f:Addr)(fd:FuncData):Prop where
 ex:∃(oc:Value) (od:Option Addr) (kV doc pm:Value) (an:Option Addr) (cdv ct:Value) (osl:Array Yg),
  fd=W.fnOf x qual (W3 st) (QV st) (JZ st) .none kV doc pm an cdv ct/\K.lookup f=some ⟨oc,od,.func fd,osl⟩/\W.codeIn K cdv qual=true
 kp:W.keepIn K (.ref f)=true
section
variable {P:Program}{w:World}{K:W.Frag}{mg:Ye}{base:Heap}
def Fun.ok {x b:Str}{st:Stmt}{f:Addr}{fd:FuncData}{N ps:Yk}{k:Nat}{sp:Sp}(F:Fun K x b st f fd)(S:FnScope N ps (JZ st))(len:∀e H Q E,sp e H Q E->e.length=ps.length)
 (g:∀c A a s H e Q E,Room k (A.deeper (envOfC b (JZ st) s.heap.objs.size f c))->sp e H Q E ->
  ∃t,qG (qc yr P w K mg base N b (JZ st) f c A a s H E).nox (QV st) t/\t { nx:=λ_ l=>Q .non l,rt:=Q } (start N e) H):FnOk P w K mg base yr (k+1) f fd ps sp:=by
 obtain⟨r,u,kV,m,v,y,c,ct,n,rfl,o,i⟩:=F.ex;refine Eh o i S len λA a s H e Q E p j=>?_;obtain⟨t,h,q⟩:=g c A a s H e Q E p j;exact⟨t,h.nox,q⟩
def Fun.binds {x a:Str}{st:Stmt}{f:Addr}{fd:FuncData}{ps:Yk}(F:Fun K x a st f fd)
 (h:∀kV b e g c ct i,i.length=ps.length->bindArgs (W.fnOf x a (W3 st) (QV st) (JZ st) .none kV b e g c ct) ⟨i,[]⟩=pure (ps.zip i)):zw K fd ps []:=by
 obtain⟨m,n,kV,b,e,g,c,ct,j,rfl,o,l⟩:=F.ex;exact .all (h kV b e g c ct)
def fun_mk {x a:Str}{st:Stmt}{f:Addr}{j:Value}{m h:Option Addr}{g:Array Yg}{kV e i b ct:Value}(l:K.lookup f=some ⟨j,m,.func (W.fnOf x a (W3 st) (QV st) (JZ st) .none kV e i h b ct),g⟩)
 (c:W.codeIn K b a=true) (k:W.keepIn K (.ref f)=true):Fun K x a st f (W.fnOf x a (W3 st) (QV st) (JZ st) .none kV e i h b ct):=⟨⟨j,m,kV,e,i,h,b,ct,g,rfl,l,c⟩,k⟩
end
def JB {A:Around}{k:Nat}(a:Room k A):A.units+1<cLine:=UI () a.units
def Ew {n:Nat}(h:n<=1000):n<sizeLine:=UI h (by decide)
section
variable {X:Cx}
def pv (i){x:Str}{a:Pos}(c:X.N[i]? = some x:=by rfl)(e:b4 X.env.scope x:=by first|exact Or.inl rfl|exact Or.inr (Or.inl rfl)|exact Or.inr (Or.inr rfl))(f:(x == ("__debug__" : Str))=false:=by decide)
 (b:(x == ("__classdict__" : Str))=false:=by decide):PE X (.Name x a) (xC i):=LB c e f b
end
def jm (H a:Hp):Prop:=∀b o,H b=some o->a b=some o
theorem jm.refl (H):jm H H:=λ_ _ h=>h
theorem jm.trans {H e f:Hp}(a:jm H e)(b:jm e f):jm H f:=λc o h=>b c o (a c o h)
def jm.free {H a:Hp}(e:jm H a){l:Addr}(h:a l=Option.none):H l=Option.none:=by
 cases q:H l with
 |none=>rfl
 |some o =>
  rw[e l o q] at h;cases h
def jm.seq {K:W.Frag}{H b:Hp}{a:Addr}{c:YF}(e:jm H b)(h:xb K H a c):xb K b a c:=by
 rcases h with (h|⟨o,h⟩)|h
 .exact .inl (.inl (e _ _ h))
 .exact .inl (.inr ⟨o,e _ _ h⟩)
 .exact .inr h
section
variable {X:Cx}
def Nx:jU X (.builtin "len") (λc H Q=>∃a b,c=[V.ref a]/\H a=some (.dK b)/\Q (.int b.length) H):=by
 intro Y s Z H c i Q I r h;obtain⟨a,b,rfl,e,q⟩:=h;obtain⟨u,rfl,f⟩:=QU r;cases f;exact gP I (.inl e) λt s' g=>⟨.int b.length,H,g,⟨t,rfl⟩,q⟩
end
end L2
def J6 {P:Prop}{α: Type}{z:α}(h:none=some z):P:=by cases  h
def JF {P:Prop}(h:false=true):P:=by cases  h
namespace L2
theorem BG (env):∀(names:List (Str×NameKind)) b,(∀y∈names,y.2=.free->∃c,env.cells.lookup y.1=some c) ->
 ∃f,(forIn names b λ(x:Str×NameKind) (r:List (Str×Addr))=>(match x with
  | (name,kind)=>if(kind == NameKind.free)=true then do let a <- cellOf env name;pure (ForInStep.yield ((name,a)::r)) else pure (ForInStep.yield r):Sem (ForInStep (List (Str×Addr)))))=(pure f:Sem (List (Str×Addr))) /\
  (∀x c,f.lookup x=some c->env.cells.lookup x=some c\/b.lookup x=some c)/\(∀x c,b.lookup x=some c->∃g,f.lookup x=some g)/\∀y∈names,y.2=.free->∃c,f.lookup y.1=some c
 | [],b,_=>⟨b,rfl,λ_ _ h=>.inr h,λx c h=>⟨c,h⟩,λ_ h=>nomatch h⟩
 | (n,k)::r,b,h=>by
  rw[List.forIn_cons];cases j:(k == NameKind.free) with
  |true =>
   have i:k=.free:=by simp_all
   obtain⟨c,l⟩:=h (n,k) Zqs i;obtain⟨f,e,m,o,p⟩:=BG env r ((n,c)::b) ();refine⟨f,?_,λx g q=>?_,λx g q=>?_,λy s t=>?_⟩
   .simp only[j,cellOf,l];exact e
   .grind
   .grind
   grind
  |false =>
   have ⟨f,e,m,o,p⟩:=BG env r b ()
   grind
def Ny (env)(a)(h:∀y∈a.names,y.2=.free->∃c,env.cells.lookup y.1=some c):
 ∃b,closureFor a env=pure b/\(∀x c,b.lookup x=some c->env.cells.lookup x=some c)/\∀y∈a.names,y.2=.free->∃c,b.lookup y.1=some c:=by
 obtain⟨b,e,f,_,g⟩:=BG env a.names [] h;refine⟨b,?_,λx c i=>(f x c i).elim id (λq=>by simp at q),g⟩
 first
 | (rfl)
 |exact(Zt (· >>= λj=>pure j) e)
theorem ZS {env:Env}{x:Str}:∀{names:List (Str×NameKind)},
 (names.lookup x=some .free->(names.map λ(n,k)=>if(k == NameKind.free&&env.scope.kind == .function&&env.kindOf n == some .cell) then(n,NameKind.cell) else(n,k)).lookup x=some .cell\/(names.map λ(n,k)=>if(k == NameKind.free&&env.scope.kind == .function&&env.kindOf n == some .cell) then(n,NameKind.cell) else(n,k)).lookup x=some .free) /\
 (∀a,(names.map λ(n,k)=>if(k == NameKind.free&&env.scope.kind == .function&&env.kindOf n == some .cell) then(n,NameKind.cell) else(n,k)).lookup x=some a->(a=.cell\/a=.free)->names.lookup x=some .free\/names.lookup x=some .cell)
 | []=>by simp
 | (n,k)::r=>by
  obtain⟨b,c⟩:=@ZS env x r
  grind
theorem XD:∀names n a,cellsFrom n names a=cellsFrom n names []++a
 | [],_,_=>rfl
 | (name,kind)::r,n,a=>by
  unfold cellsFrom
  split
  .rw[XD r (n+1) ((name,n)::a),XD r (n+1) [(name,n)],Uh];rfl
  .exact XD r n a
theorem BH:∀names n a,(x,c)∈cellsFrom n names a->(x,c)∈a\/(x,NameKind.cell)∈names
 | [],_,_,h=>.inl h
 | (name,kind)::r,n,a,h=>by
  unfold cellsFrom at h
  split at h
  .rcases BH r (n+1) ((name,n)::a) h with z|z
   .grind
   simp_all
  .rcases BH r n a h with z|z
   .exact .inl z
   simp_all
def Ex:Option NameKind->Bool
 |some .cell=>true
 |_=>false
def Nz (h:Ex o=true):o=some .cell:=by
 cases o with
 |none=>exact JF h
 |some k=>cases k<;>first|rfl|exact JF h
structure CellsAt (scope:Scope)(env:Env)(cl:List (Str×Addr))(C:Addr)(h1:Heap):Prop where
 from_:∀x c,cl.lookup x=some c->(env.cells.lookup x=some c/\scope.names.lookup x≠some .cell)\/(C<c/\h1.IsCell c none)
 free:∀x,scope.names.lookup x=some .free->∃c,cl.lookup x=some c/\env.cells.lookup x=some c
 own:∀x,scope.names.lookup x=some .cell->∃c,cl.lookup x=some c
 inj:∀x y c,cl.lookup x=some c->cl.lookup y=some c->x=y
def N0 (f:∀x c,cl.lookup x=some c->env.cells.lookup x=some c)(g:∀y∈a.names,y.2=.free->∃c,cl.lookup y.1=some c)
 (inj:∀x y c,env.cells.lookup x=some c->env.cells.lookup y=some c->x=y) (low:∀x c,env.cells.lookup x=some c->c<=C) (h:h0.objs.size=C+1) (i:∀y∈a.names,y.2=.cell->a.names.lookup y.1=some .cell):
 CellsAt a env (cellsFrom (C+1) a.names cl) C (pushCells h0 a.names):=by
 have ok:=cellsFrom_ok a.names h0 (C+1) [] ⟨(),List.Pairwise.nil⟩ ();rw[h] at ok;have look:∀x c,(cellsFrom (C+1) a.names cl).lookup x=some c->((x,c)∈cellsFrom (C+1) a.names [])\/(cl.lookup x=some c/\a.names.lookup x≠some .cell):=λx c e=>by
  rw[XD,List.lookup_append] at e;cases q:(cellsFrom (C+1) a.names []).lookup x with
  |some d =>
   grind[Zqi,PySem.mem_of_lookup]
  |none =>
   rw[q] at e;refine .inr ⟨e,λz=>?_⟩;have:=W.cellsFrom_some a.names (C+1) [] (.inl z);rw[q] at this;exact JF this
 refine⟨λx c e=>?_,λx e=>?_,λx e=>?_,λx y c j l=>?_⟩
 .rcases look x c e with z|⟨z1,z2⟩
  .exact .inr ⟨(ok.empty x c z).2,(ok.empty x c z).1⟩
  simp_all
 .obtain⟨c,b⟩:=g (x,.free) (PySem.mem_of_lookup e) rfl;refine⟨c,?_,f x c b⟩;rw[XD,List.lookup_append];cases q:(cellsFrom (C+1) a.names []).lookup x with
  |some d =>
   rcases BH _ _ _ (PySem.mem_of_lookup q) with z|z
   .cases z
   .have:=i (x,.cell) z rfl;rw[e] at this;cases this
  |none=>exact b
 .exact Jr.mp (W.cellsFrom_some a.names (C+1) cl (.inl e))
 .rcases look x c j with z|⟨z1,_⟩<;>rcases look y c l with w|⟨w1,_⟩
  .exact PySem.name_of_addr ok.apart z w
  .exact Zn (low y c (f y c w1)) (Nat.not_le_of_lt (ok.empty x c z).2)
  .exact Zn (low x c (f x c z1)) (Nat.not_le_of_lt (ok.empty y c w).2)
  .exact by grind
def N1
 (a:Q (newEnv scope s.heap.objs.size globals (cellsFrom (s.heap.objs.size+1) scope.names cl) qual none .none (some env) builtinsNs) { s with heap:=pushCells (s.heap.push { cls:=.type "dict",data:=.dict #[] }) scope.names }):
 wpAny M A (newFunctionEnv scope globals cl [] qual none .none (some env)) Q E s:=by
 refine Za (wpAny_alloc (Za (wpAny_layCells _ () _ _ _ _ ?_)));rw[Heap.size_push ..];exact Za (Zb (Zb a))
def XE (X:Cx)(C:Addr):Ya:=λx s'=>∃m,s'.heap.Ns C m/\∀b,Heap.SameBut C s'.heap b->∀a:Env,a.locals=C->YJ X (passOn "comprehension.variables-let-go" x a:Sem Value) (λ_ _=>False) X.xe { s' with heap:=b }
def JK (X:Cx)(a:Scope)(N:Yk)(b:List (Str×Addr))(C:Addr)(s:Shared)(H:Hp)(ex:Yl):Cx where
 prog:=X.prog
 w:=X.w
 K:=X.K
 mg:=X.mg
 base:=X.base
 A:=X.A
 N:=N
 s₀:=s
 H₀:=H
 env:=compEnvC a b C X.env
 outer:=X.stack
 stack:=X.stack
 ex:=ex
 fn:=λx=>Ex (a.names.lookup x)
 calm:=X.calm
 pn:=[]
 xe:=notedBy (model X.prog X.w) X.A (compEnvC a b C X.env) (XE X C)
def W4 (X:Cx)(C:Addr)(s:Shared)(H:Hp)(a:Yl):Prop:=∃Y Z,Inv X Y Z H s/\(∀b∈a,xZ X Y H b)/\s.heap.objs.size<=C
def KL (cap:List (Option Nat))(Z: St):St:=cap.map λo=>o.bind λj=>(Z[j]?).join
structure CompOk (X:Cx)(scope:Scope)(N:Yk)(cap:List (Option Nat)):Prop where
 kind:scope.kind=.function
 loc:∀y∈scope.names,y.2=.local->scope.names.lookup y.1=some .local
 cell:∀y∈scope.names,y.2=.cell->scope.names.lookup y.1=some .cell
 free:∀y∈scope.names,y.2=.free->X.env.kindOf y.1=some .cell\/X.env.kindOf y.1=some .free
 len:cap.length=N.length
 cap:∀(i j:Nat) (x:Str),cap[i]? = some (some j)->N[i]? = some x->X.N[j]? = some x/\scope.names.lookup x=some .free
def QH (a:Scope)(env:Env)(b N:Yk)(cap:List (Option Nat)):Bool:=
 decide (a.kind=.function)&&a.names.all (λy => !decide (y.2=.local)||decide (a.names.lookup y.1=some .local))&&a.names.all (λy => !decide (y.2=.cell)||decide (a.names.lookup y.1=some .cell)) &&
 a.names.all (λy => !decide (y.2=.free)||(decide (env.kindOf y.1=some .cell)||decide (env.kindOf y.1=some .free)))&&decide (cap.length=b.length) &&
 (b.zip cap).all (λp=>match p.2 with|none=>true|some j=>decide (N[j]? = some p.1)&&decide (a.names.lookup p.1=some .free))
def CompOk.of {X:Cx}{a:Scope}{N:Yk}{cap:List (Option Nat)}(h:QH a X.env N X.N cap=true):CompOk X a N cap:=by
 unfold QH at h;simp only[Uc,decide_eq_true_eq,U7] at h;obtain⟨⟨⟨⟨⟨c,m⟩,n⟩,o⟩,e⟩,p⟩:=h;refine⟨c,λy b f=>?_,λy b f=>?_,λy b q=>?_,e,λi j x g l=>?_⟩
 .grind
 .grind
 .grind
 .have r:(x,some j)∈N.zip cap:=by
   refine Uf (i:=i) ?_;rw[VS];exact⟨l,g⟩
  grind
section
variable {X:Cx}{scope:Scope}{N:Yk}{cap:List (Option Nat)}{Y:Yb}{Z: St}{H:Hp}{s:Shared}{cl:List (Str×Addr)}{C D:Addr}{fp:Yl}
def N2 (ok:CompOk X scope N cap)(I:Inv X Y Z H s)(B:∀b∈fp,xZ X Y H b)(y:∀b∈fp,b<s.heap.objs.size)
 (a:CellsAt scope X.env cl C h1)
 (t:s.heap.objs.size<=C) (g:∀b o,s.heap.get? b=some o->h1.get? b=some o) (E:h1.Ns C m):
 Inv (JK X scope N cl C s H fp) [] (KL cap Z) H { s with heap:=h1,toks:=tk }:=by
 have K:∀x,(JK X scope N cl C s H fp).env.kindOf x=some .cell\/(JK X scope N cl C s H fp).env.kindOf x=some .free->scope.names.lookup x=some .free\/scope.names.lookup x=some .cell:=λx h=>by
  rcases h with h|h
  .exact(ZS (env:=X.env) (x:=x) (names:=scope.names)).2 _ h (.inl rfl)
  .exact(ZS (env:=X.env) (x:=x) (names:=scope.names)).2 _ h (.inr rfl)
 refine⟨⟨I.ok.mod,ok.kind,I.ok.glob,I.ok.blt,t,a.inj,λx h=>?_,λx c z e=>?_,I.ok.hd,I.ok.frames,.inl rfl,λb n=>⟨?_,λx c e=>?_⟩,I.bs,Zh I.ok.bsz I.sz,
  λb o e n=>?_,λb n z=>?_,I.stack,I.stkFree⟩,rfl,I.bare,Un.kept g,⟨m,E,λi x v F f U=>?_⟩,λx c e=>?_,I.hok.fresh t,λx c e=>?_,λp hp=>Zn hp (by show ¬p∈([]:Yb)++[];simp),I.hok.kept g,?_⟩
 .rcases K x h with q|q
  .obtain⟨c,e,_⟩:=a.free x q;exact⟨c,e⟩
  .exact a.own x q
 .rcases a.from_ x c e with ⟨_,q⟩|⟨q,_⟩
  .exact Zn (Nz z) q
  .exact Zh t (Zz q)
 .exact Zi (Zg (y b n) t)
 .rcases a.from_ x c e with ⟨q,_⟩|⟨q,_⟩
  .exact(B b n).2.2.2.2.1 x c q
  .exact U6 (Ug (Zg (y b n) t) q)
 .rcases(B b n).2.2.2.1 with z|z
  .exact I.ok.noex b o e z
  .exact Zn (Zg (Zk e) (Zh I.ok.bsz z)) (Zy _)
 .rcases U0.mp (I.stkSub b z) with q|q
  .exact(B b n).2.1 q
  .exact(B b n).2.2.1 q
 .have F:N[i]? = some x:=F;have L:∃j,cap[i]? = some (some j) /\ Z[j]? = some (some v):=by
   have f:(cap.map λo=>o.bind λj=>(Z[j]?).join)[i]? = some (some v):=f;rw[Zv] at f;cases q:cap[i]? with
   |none=>rw[q] at f;exact J6 f
   |some o =>
    rw[q] at f;cases o with
    |none=>cases f
    |some j =>
     have f:some ((Z[j]?).join)=some (some v):=f;cases G:Z[j]? with
     |none=>rw[G] at f;cases f
     |some w=>rw[G] at f;exact⟨j,rfl,by cases f;exact G⟩
  obtain⟨j,M,O⟩:=L;obtain⟨P,J⟩:=ok.cap i j x M F;obtain⟨m0,_,Q⟩:=I.loc;have R:=ok.free (x,.free) (PySem.mem_of_lookup J) rfl;obtain⟨u,r,l⟩:=Q j x v P O (R.elim (λz=>.inr (.inl z)) λz=>.inr (.inr z));refine⟨u,r,.inr ⟨(ZS (x:=x)).1 J,?_⟩⟩;rcases l with ⟨k,_⟩|⟨_,c,S,z⟩
  .simp_all
  .obtain⟨c',T,A⟩:=a.free x J;rw[S] at A;obtain rfl:=Zqi A;exact⟨c,T,z.keeps g⟩
 .rcases a.from_ x c e with ⟨q,_⟩|⟨_,q⟩
  .obtain⟨v,z⟩:=I.cell x c q;exact⟨v,z.keeps g⟩
  .exact⟨none,q⟩
 .rcases a.from_ x c e with ⟨q,_⟩|⟨q,_⟩
  .exact I.freeC x c q
  .exact I.hok.fresh (Zh t (Zz q))
 .show(cap.map _).length=N.length;rw[Zql];exact ok.len
def N3 (I:Inv X Y Z H s)(g:∀b∈fp,xZ X Y H b)(l:s.heap.objs.size<=C)(m:s.heap.objs.size<=D)(h:D≠C)
 (J:Inv (JK X scope N cl C s H fp) [] Z' H' s') (p:s'.heap.get? D=some { cls:=.type "list",data:=.seq its.toArray k }) (y:H' D=none) (r:ju ys its) (hz:ys.length<=sizeLine) (hs:Heap.SameBut C s'.heap h')
 (q:Q (.ref D) (jB H' D (.lst ys))):EP X Y Z Q (.ref D) { s' with heap:=h' }:=by
 have i:∀b o,s.heap.get? b=some o->b≠C:=λb o e=>Zi (Zg (Zk e) l);have t:∀b o,s.heap.get? b=some o->b≠D:=λb o e=>Zi (Zg (Zk e) m);have tD:∀b u,H' b=some u->b≠D:=by grind
 have tC:∀b u,H' b=some u->b≠C:=λb u e z=>by
  have:=J.free;rw[z,show H' C=none from this] at e;exact J6 e
 have B:=J.base;refine⟨.ref D,jB H' D (.lst ys),I.call' J.os ?_ ?_ J.bare (λb a=>⟨(g b a).2.2.2.1,(g b a).2.1,(g b a).2.2.2.2.1,(g b a).2.2.2.2.2⟩),rfl,q⟩
 .refine⟨λb o e n a f=>(hs.2 b (i b o e)).trans (B.keep b o e n a f),λb o e n a f=>?_,λb o e n f=>?_,λb o e f=>?_,λb j e=>?_,λb o u e=>?_,λb ps e=>?_⟩
  .obtain⟨w,z⟩:=B.slot b o e n a f;exact⟨w,(hs.2 b (i b o e)).trans z⟩
  .rw[JJ (t b o e)];exact B.free b o e n f
  .obtain⟨x,z⟩:=B.there b o e f;exact⟨x,(hs.2 b (i b o e)).trans z⟩
  .have z:=B.tups b j e
   rwa [JJ (tD b _ z)]
  .have z:=B.frzs b o u e
   rwa [JJ (tD b _ z)]
  .obtain⟨more,z⟩:=B.tbls b ps e;exact⟨more,by rwa [JJ (tD b _ z)]⟩
 .intro b u e;by_cases a:b=D
  .subst a;rw[JM] at e;obtain rfl:=Zqi e;exact⟨hz,its,k,r,(hs.2 b h).trans p⟩
  .rw[JJ a] at e;refine(J.hok b u e).stay (λc v A z=>(hs.2 c ?_).trans z) (λc z=>by rwa [JJ (tD c _ z)]) (λc j z=>by rwa [JJ (tD c _ z)])
   grind
end
def gW (cap:List (Option Nat))(g:TG)(h:TE)(Z: St)(Q:VK):It->Hp->Prop:=λJ j=>∃W:Nat->Nat->YF->St->Hp->Prop,(∃m,W 0 m [] (KL cap Z) j)/\∀i m ys b a,W i m ys b a->ys.length<sizeLine /\
 (
  (J.stop i a/\∀D,a D=none->Q (.ref D) (jB a D (.lst ys))) \/
  (J.go i a/\∀x c,J.yld i a x c->g x b c λe l=>h e l λy n=>∃f,f<m/\W (i+1) f (ys++[y]) e n))
def WX (cap:List (Option Nat))(wi:TI)(g:TG)(a:TE):TE:=λZ H Q=>wi Z H (gW cap g a Z Q)
def N4 (cap:List (Option Nat))(g:TG)(l:TT)(n:TE)(Z: St)(Q:VK):It->Hp->Prop:=λJ o=>∃W:Nat->Nat->YF->St->Hp->Prop,(∃m,W 0 m [] (KL cap Z) o)/\∀i m ys f a,W i m ys f a->ys.length<sizeLine /\
 (
  (J.stop i a/\∀D,a D=none->Q (.ref D) (jB a D (.lst ys))) \/
  (J.go i a/\∀x h,J.yld i a x h->g x f h λe p=>l e p λb j=>if b=true then n e j (λy q=>∃c,c<m/\W (i+1) c (ys++[y]) e q) else ∃c,c<m/\W (i+1) c ys e j))
def XF (cap:List (Option Nat))(wi:TI)(g:TG)(a:TT)(b:TE):TE:=λZ H Q=>wi Z H (N4 cap g a b Z Q)
section
variable {X:Cx}{tg iter elt c:Expr}{scope:Scope}{pos:Pos}{wi:TI}{g:TG}{te:TE}{tt:TT}
def XG (X:Cx)(Y:Yb)(Z: St)(Q:VK)(use:Option (Value->Sem Unit))(R:Ya):Prop:=
 ∀(C D:Addr) (m:Ye) (a:Shared) (r:Flow),a.heap.Ns C m->¬C=X.env.locals->C∉X.fs->X.s₀.heap.objs.size<=C->(∀x c,X.env.cells.lookup x=some c->c≠C)->(∀p∈X.pn++Y,p.1≠C) ->
  (∀b,Heap.SameBut C a.heap b->EP X Y Z (λv e=>e C=none/\Q v e) (.ref D) { a with heap:=b })->compPost (model X.prog X.w) X.A X.xe use R (.ref D) C (.ok r) a
def Ey:XG X Y Z Q none (EP X Y Z Q):=λC D m j r b _ _ _ _ _ k=>⟨m,b,λe a=>by
 obtain⟨v,f,h,i,_,q⟩:=k e a;exact⟨v,f,h,i,q⟩⟩
def fy (X:Cx)(tg elt:Expr)(it a:Value)(env:Env)(R:Result->YC)(I:Nat->YC)(test:(Bool->YC)->YC)(n:Nat)(s:Shared):Prop:=
 let E:Ya:=notedBy (model X.prog X.w) X.A env λe s'=>R (.error e) s'
 YJ X (pyNext it) (λr b=>match r with
  |none=>R (.ok .next) b
  |some v=>YJ X (letOwnedTupleGo tg it v) (λ_ h=>YJ X (assign tg env v) (λ_ i=>test (λok f=>if ok=true then YJ X (eval elt env) (λx j=>YJ X (call (.builtin "list.append") [a,x]) (λ_ l=>∃m,m<n/\I m l) E j) E f else ∃m,m<n/\I m f) i) E h) E b) E s
def Ez {ifs:Ym}(N){test:Env->(Result->YC)->(Bool->YC)->YC}
 (lp:∀{it acc:Value} {env:Env} {R:Result->YC} {s:Shared} I,(∀n s,I n s->fy X tg elt it acc env R I (test env R) n s)->∀n,I n s->codeAny (model X.prog X.w) X.A (.compLoop (.ListComp elt [⟨tg,iter,ifs,0⟩] scope pos) 0 it acc env) R s)
 (ht:∀t C s H S {Y:Yb} {s7:Shared} {U:St} {H7:Hp} {R:Result->YC} {q:Bool->Hp->Prop} {Q:Bool->YC},W4 X C s H S->(∀e s',XE X C e s'->R (.error e) s')->Inv (JK X scope N t C s H S) Y U H7 s7->tt U H7 q->(∀b s8 H8,Inv (JK X scope N t C s H S) Y U H8 s8->q b H8->Q b s8)->test (compEnvC scope t C X.env) R Q s7)
 (cap) (hc:X.calm=true) (okB:QH scope X.env N X.N cap=true) (hi:PI X tg iter wi) (hg:∀t C s H S,PG (JK X scope N t C s H S) tg g) (he:∀t C s H S,W4 X C s H S->PE (JK X scope N t C s H S) elt te)
 (hs:∀x,foldedSetIterable iter X.env x=pure x) {use:Option (Value->Sem Unit)} {R:Ya} {fpos:Pos} {Y:Yb} {s:Shared} {Z: St} {H:Hp} {Q:VK} (I:Inv X Y Z H s) (h:XF cap wi g tt te Z H Q) (fin:XG X Y Z Q use R):
 YJ X (comprehension (.ListComp elt [⟨tg,iter,ifs,0⟩] scope pos) scope X.env fpos (newList []) false (eval iter X.env) use) R X.xe s:=by
 have ok:=CompOk.of okB;obtain⟨cl0,hcl,hcl1,hcl2⟩:=Ny X.env scope λy hy hf=>I.ok.has y.1 (ok.free y hy hf);refine wpAny_comprehension_free (use:=use) rfl hs hcl ok.kind ok.loc (jJ (hi Y s Z H _ I h) λxv s1 h1=>jJ h1 λitv a h2=>?_);obtain⟨it,l,tn,J,B,e,A,T,st2,f2,W,⟨m0,w0⟩,turn⟩:=h2;subst e;have G:∀b∈l,b<a.heap.objs.size:=λb w=>let ⟨_,e,_⟩:=T.obj _ _ st2 b w;Zk e
 refine wpAny_newObj_type (N1 ?_);dsimp only;generalize hP:a.heap.push { cls:=.type "list",dict:=none,data:=.seq ([]:Yf).toArray }=P2;have hC:P2.objs.size=a.heap.objs.size+1:=by rw[<- hP,Heap.size_push]
 have K:a.heap.objs.size≠P2.objs.size:=by rw[hC];exact by lia
 have j:a.heap.objs.size<=P2.objs.size:=by rw[hC];exact Nat.le_succ _
 have below:∀b,b<a.heap.objs.size->b≠P2.objs.size/\b≠a.heap.objs.size:=()
 have L:CellsAt scope X.env (cellsFrom (P2.objs.size+1) scope.names cl0) P2.objs.size (pushCells (P2.push { cls:=.type "dict",data:=.dict #[] }) scope.names):=
  N0 hcl1 hcl2 A.ok.inj (λx c e=>Zh (Zz (let ⟨_,_,ho,_⟩:=A.cell x c e;Zk ho)) j) (Heap.size_push ..) ok.cell
 have hns1:(pushCells (P2.push { cls:=.type "dict",data:=.dict #[] }) scope.names).Ns P2.objs.size (λ_=>none):=(Heap.Ns.new P2 (.type "dict")).keeps (pushCells_keeps _ _);generalize cellsFrom (P2.objs.size+1) scope.names cl0=t at L ⊢;have M:∀b o,a.heap.get? b=some o->(pushCells (P2.push { cls:=.type "dict",data:=.dict #[] }) scope.names).get? b=some o:=λb o e=>pushCells_keeps _ _ b o (Zq _ (hP ▸ Zq _ e));have hacc:(pushCells (P2.push { cls:=.type "dict",data:=.dict #[] }) scope.names).get? a.heap.objs.size=some { cls:=.type "list",data:=.seq ([]:Yf).toArray 0 }:=pushCells_keeps _ _ _ _ (Zq _ (hP ▸ Zr _ rfl));generalize pushCells (P2.push { cls:=.type "dict",data:=.dict #[] }) scope.names=g1 at L hns1 M hacc ⊢;have E:∀{H':Hp} {pl:Yb},(∀b∈l,H' b=none)->(∀p∈pl,p.1∉l)->∀b∈l,xZ (JK X scope N t P2.objs.size a B l) pl H' b:=λ{H' pl} hn hp b w=>by
  refine⟨hn b w,(below b (G b w)).1,λz=>?_,.inl w,λx c e=>?_,λp hq z=>?_⟩
  .rcases U0.mp (A.stkSub b z) with q|q
   .exact(f2 b w).2.1 q
   .exact(f2 b w).2.2.1 q
  .rcases L.from_ x c e with ⟨q,_⟩|⟨q,_⟩
   .exact(f2 b w).2.2.2.2.1 x c q
   .exact U6 (Ug (Zg (G b w) j) q)
  .have hq:p∈([]:Yb)++pl:=hq
   grind[List.nil_append]
 have nD:a.heap.objs.size∉l:=λz=>Zn (G _ z) (Zy _);have loop:∀s3:Shared,s3={ a with heap:=g1 } ->
  codeAny (model X.prog X.w) X.A (.compLoop (.ListComp elt [⟨tg,iter,ifs,0⟩] scope pos) 0 (.ref it) (.ref a.heap.objs.size) (compEnvC scope t P2.objs.size X.env))
   (compPost (model X.prog X.w) X.A X.xe use R (.ref a.heap.objs.size) P2.objs.size) s3:=by
  rintro s3 rfl;have I0:=N2 (tk:=a.toks) ok A f2 G L j M hns1;refine lp (λn s'=>∃i ys its k Z' H',Inv (JK X scope N t P2.objs.size a B l) [] Z' H' s'/\tn i s'.heap/\(∀b∈l,H' b=none)/\s'.heap.get? a.heap.objs.size=some { cls:=.type "list",data:=.seq (List.toArray its) k } /\
   H' a.heap.objs.size=none/\ju ys its/\W i n ys Z' H') ?_ m0
   ⟨0,[],[],0,KL cap Z,B,I0,T.keep _ _ _ st2 (λb _ o e=>M b o e),λb w=>(f2 b w).1,hacc,A.hok.fresh (Zf _),.nil,w0⟩
  have cat:W4 X P2.objs.size a B l:=⟨_,_,A,f2,j⟩;have ce:∀e s',XE X P2.objs.size e s'->compPost (model X.prog X.w) X.A X.xe use R (.ref a.heap.objs.size) P2.objs.size (.error e) s':=λe s' h=>by cases use<;>exact h
  have xe:∀e s',(JK X scope N t P2.objs.size a B l).xe e s'->notedBy (model X.prog X.w) X.A (compEnvC scope t P2.objs.size X.env) (λe s'=>compPost (model X.prog X.w) X.A X.xe use R (.ref a.heap.objs.size) P2.objs.size (.error e) s') e s':=λe s' h=>Zc h (λ_ a q=>ce e a q) λe a q=>ce e a q;rintro n s4 ⟨i,ys,its,k,Z4,H4,I4,st4,fr4,hd4,hn4,O,w4⟩;obtain⟨hz,tn4⟩:=turn i n ys Z4 H4 w4;have J4:Inv (JK X scope N t P2.objs.size a B l) [(a.heap.objs.size,{ cls:=.type "list",data:=.seq its.toArray k })] Z4 H4 s4:=I4.pins_of λp hp=>by
   have e:=Jd.mp hp;subst e;refine⟨hd4,hn4,K,?_,λv z=>by cases z⟩;exact λz=>Zn (Zg (by
    rcases U0.mp (A.stkSub _ z) with q|q
    .exact UI (Yx q) A.lt
    .obtain⟨_,o,ho,_⟩:=A.ok.funs.mem q;exact Zg (Zk ho) A.sz) (Zf a.heap.objs.size)) (Zy _)
  have np:∀p ∈ [(a.heap.objs.size,({ cls:=.type "list",data:=.seq its.toArray k }:Obj))],p.1∉l:=λp hp=>by
   have e:=Jd.mp hp;subst e;exact nD
  rcases tn4 with ⟨stop,qn⟩|⟨go,step⟩
  .refine Zc (T.done (JK X scope N t P2.objs.size a B l) rfl rfl rfl hc i _ s4 Z4 H4 (λ_ _=>False) J4 (E fr4 np) st4 stop) (λr s5 h5=>?_) λ_ _ f=>f.elim;obtain⟨rfl,I5⟩:=h5;obtain⟨m,hm,_⟩:=id I5.loc;have p5:=I5.pin (a.heap.objs.size,_) (Uq _ Zqs);refine fin _ _ m _ _ hm (U6 (Zg A.lt j)) (A.nofs j) (Zh A.sz j) (λx c e z=>?_) (λp hp z=>?_) λh' hs'=>N3 A f2 j (Zf _) K (I5.pins_of λp hp=>nomatch hp) p5.1 p5.2.1 O (Zz hz) hs' ⟨by rw[JJ (Ne.symm K)];exact I5.free,qn _ p5.2.1⟩
   .obtain⟨v,o,ho,hd⟩:=A.cell x c e;have:=Zk ho;rw[z] at this;exact Zn (Zg this j) (Zy _)
   .have:=Zk (A.pin p hp).1;rw[z] at this;exact Zn (Zg this j) (Zy _)
  .refine Zc (T.item (JK X scope N t P2.objs.size a B l) rfl rfl rfl hc i _ s4 Z4 H4 (λ_ _=>False) J4 (E fr4 np) st4 go) (λr s5 h5=>?_) λ_ _ f=>f.elim;obtain⟨u,rfl,h5⟩:=h5;refine Zc h5 (λ_ s6 h6=>?_) λ_ _ f=>f.elim;obtain⟨x,H6,I6,r6,y6,P,fr6⟩:=h6;have I6':=I6.pinned (E fr6 np) (T.obj _ _ P);refine Zc (hg t P2.objs.size a B l _ s6 Z4 H6 x u _ I6' r6 (step x H6 y6)) (λ_ s7 h7=>?_) xe;obtain⟨U,H7,I7,q7⟩:=h7;refine ht t P2.objs.size a B l cat ce I7 q7 λbv s8 H8 I8 q8=>?_;have F:∀H9 s9 Z9,Inv (JK X scope N t P2.objs.size a B l) ([(a.heap.objs.size,{ cls:=.type "list",data:=.seq its.toArray k })]++XA l s6.heap) Z9 H9 s9->(∀b∈l,∀o,s6.heap.get? b=some o->s9.heap.get? b=some o)/\∀b∈l,H9 b=none:=λH9 s9 Z9 I9=>by
    refine⟨λb w o e=>(I9.pin (b,o) (Uq _ (Uq _ (ZN w e)))).1,λb w=>?_⟩;obtain⟨o,e,d⟩:=T.obj _ _ P b w;exact(I9.pin (b,o) (Uq _ (Uq _ (ZN w e)))).2.1
   have p8:=I8.pin (a.heap.objs.size,_) (Uq _ (VF _ Zqs));cases bv with
   |false =>
    rw[Ze ()] at q8 ⊢;obtain⟨m',hm',w8⟩:=q8;obtain⟨z1,z2⟩:=F _ _ _ I8;exact⟨m',hm',i+1,ys,its,k,U,H8,I8.pins_of (λp hp=>nomatch hp),T.keep _ _ _ P z1,z2,p8.1,p8.2.1,O,w8⟩
   |true =>
    rw[Zd rfl] at q8 ⊢;refine Zc (he t P2.objs.size a B l cat _ s8 U H8 _ I8 q8) (λyv s9 h9=>?_) xe;obtain⟨y,H9,I9,ry,m',hm',w9⟩:=h9;have p9:=I9.pin (a.heap.objs.size,_) (Uq _ (VF _ Zqs));have hl:=O.length;refine append_at (hsz:=by show its.toArray.size<=sizeLine;rw[Zm,<- hl];exact Zz hz) p9.1 λh10 hs10 hd10=>?_;have I10:Inv (JK X scope N t P2.objs.size a B l) [] U H9 { s9 with heap:=h10 }:=(I9.pins_of (Y':=[]) λp hp=>nomatch hp).turned (t':=s9.toks) (it:=a.heap.objs.size) (λb o w e=>(hs10.2 b w).trans e) p9.2.1 K (.inr (Zf _))
     (λx c e z=>by
      obtain⟨v,o,ho,hd⟩:=I9.cell x c e;rw[z,p9.1] at ho;cases ho;cases hd) (λp hp=>Zn hp (by show ¬p∈([]:Yb)++[];simp))
    obtain⟨z1,z2⟩:=F _ _ _ I9;refine⟨m',hm',i+1,ys++[y],its++[yv],k+1,U,H9,I10,T.keep _ _ _ P (λb w o e=>?_),z2,?_,p9.2.1,ju.append O (.cons ry .nil),w9⟩
    .have hb':b≠a.heap.objs.size:=λz=>nD (by rw[<- z];exact w);exact(hs10.2 b hb').trans (z1 b w o e)
    .refine hd10.trans ?_;simp
 exact codeAny_compStart_list (loop _ rfl) (T.self _ 0 _ _ _ (T.keep _ _ _ st2 (λb _ o e=>M b o e)) (loop _ rfl))
def E1 (N)(cap)(l:X.calm=true)(f:QH scope X.env N X.N cap=true)(m:PI X tg iter wi)(o:∀i C s H e,PG (JK X scope N i C s H e) tg g)(p:∀i C s H e,W4 X C s H e->PE (JK X scope N i C s H e) elt te)
 (hs:∀x,foldedSetIterable iter X.env x=pure x) {use:Option (Value->Sem Unit)} {R:Ya} {a:Pos} {Y:Yb} {s:Shared} {Z: St} {H:Hp} {Q:VK} (I:Inv X Y Z H s) (h:WX cap wi g te Z H Q) (j:XG X Y Z Q use R):
 YJ X (comprehension (.ListComp elt [⟨tg,iter,[],0⟩] scope pos) scope X.env a (newList []) false (eval iter X.env) use) R X.xe s:=
 Ez (test:=λ_ _ Q s=>Q true s) N (λI b n h=>W.kcp_loop I b n h) (λ_ _ _ _ _ _ _ _ _ _ _ _ _ _ I q k=>k true _ _ I q) cap l f m o p hs I h j
def E2 (N)(cap)(f:X.calm=true)(b:QH scope X.env N X.N cap=true)(i:PI X tg iter wi)(j:∀e C s H a,PG (JK X scope N e C s H a) tg g)(l:∀e C s H a,W4 X C s H a->PE (JK X scope N e C s H a) elt te)
 (hs:∀x,foldedSetIterable iter X.env x=pure x:=by intro _;rfl):PE X (.ListComp elt [⟨tg,iter,[],0⟩] scope pos) (WX cap wi g te):=λY s Z H Q I h=>E1 N cap f b i j l hs I h Ey
def N5 (N)(cap)(f:X.calm=true)(a:QH scope X.env N X.N cap=true)(h:PI X tg iter wi)(i:∀b C s H e,PG (JK X scope N b C s H e) tg g)(j:∀b C s H e,PE (JK X scope N b C s H e) elt te)
 (hs:∀x,foldedSetIterable iter X.env x=pure x:=by intro _;rfl):PE X (.ListComp elt [⟨tg,iter,[],0⟩] scope pos) (WX cap wi g te):=E2 N cap f a h i () hs
end
mutual
def Is (H:Hp):PyData->V->Prop
 | .none,v=>v=.non
 | .bool b,v=>v=.bl b
 | .int i,v=>v=.int i
 | .str x,v=>v=.str x
 | .list ds,v=>∃a c,v=.ref a/\H a=some (.lst c)/\qh H ds c
 | .tuple ds,v=>∃a c,v=.ref a/\H a=some (.tup c)/\qh H ds c
 | .dict _,_=>False
def qh (H:Hp):List PyData->YF->Prop
 | [],xs=>xs=[]
 |d::ds,xs=>∃x r,xs=x::r/\Is H d x/\qh H ds r
end
mutual
theorem Is.same (e:jm H H'):∀d v,Is H d v->Is H' d v
 | .none,_,h=>h
 | .bool _,_,h=>h
 | .int _,_,h=>h
 | .str _,_,h=>h
 | .list ds,v,h=>have ⟨a,b,c,f,g⟩:=h;⟨a,b,c,e _ _ f,qh.same e ds b g⟩
 | .tuple ds,v,h=>have ⟨a,b,c,f,g⟩:=h;⟨a,b,c,e _ _ f,qh.same e ds b g⟩
 | .dict _,_,h=>h.elim
theorem qh.same (e:jm H H'):∀ds a,qh H ds a->qh H' ds a
 | [],_,h=>by simp_all [qh]
 |d::ds,a,h=>have ⟨x,r,b,c,f⟩:=h;⟨x,r,b,Is.same e d x c,qh.same e ds r f⟩
end
theorem qh.length:∀{ds:List PyData} {a:YF},qh H ds a->a.length=ds.length
 | [],_,h=>by simp_all [qh]
 |d::ds,a,h=>by
  obtain⟨x,r,rfl,_,b⟩:=h;rw[Zu,Zu,qh.length b]
theorem qh.get:∀{ds:List PyData} {a:YF} {i:Nat} {d:PyData},qh H ds a->ds[i]? = some d->∃x,a[i]? = some x/\Is H d x
 | [],_,_,_,_,e=>by simp at e
 |d::ds,a,0,d',h,e=>by
  grind[qh]
 |d::ds,a,i+1,d',h,e=>by
  obtain⟨x,r,rfl,_,b⟩:=h;obtain⟨y,c,f⟩:=qh.get b (by simpa using e)
  simp_all
theorem E3:∀(ns:Yh),qh H (ns.map PyData.int) (ns.map V.int)
 | []=>by rfl
 |n::ns=>⟨_,_,rfl,by rfl,E3 ns⟩
theorem E4:∀{ns:Yh} {a:YF},qh H (ns.map PyData.int) a->a=ns.map V.int
 | [],_,h=>by
  simp_all [qh]
 |n::ns,a,h=>by
  obtain⟨x,r,rfl,b,c⟩:=h;rw[b,E4 c];rfl
def x6:Is H (.list ds) v↔∃a b,v=.ref a/\H a=some (.lst b)/\qh H ds b:=Iff.rfl
def yj:Is H (.tuple ds) v↔∃a b,v=.ref a/\H a=some (.tup b)/\qh H ds b:=Iff.rfl
mutual
def QX:PyData->Bool
 | .int _=>true
 | .list xs=>XH xs
 | .tuple xs=>XH xs
 | .none=>false
 | .bool _=>false
 | .str _=>false
 | .dict _=>false
def XH:List PyData->Bool
 | []=>true
 |x::xs=>QX x&&XH xs
end
mutual
theorem BI:∀d e:PyData,QX d=true->QX e=true->(PyData.eqv d e=true↔d=e)
 | .int i,.int j,_,_=>by unfold PyData.eqv;simp
 | .int i,.list ys,_,_=>by unfold PyData.eqv;simp
 | .int i,.tuple ys,_,_=>by unfold PyData.eqv;simp
 | .list xs,.int j,_,_=>by unfold PyData.eqv;simp
 | .list xs,.list ys,h1,h2=>by
  have q:=BJ xs ys h1 h2
  simp_all [PyData.eqv]
 | .list xs,.tuple ys,_,_=>by unfold PyData.eqv;simp
 | .tuple xs,.int j,_,_=>by unfold PyData.eqv;simp
 | .tuple xs,.list ys,_,_=>by unfold PyData.eqv;simp
 | .tuple xs,.tuple ys,h1,h2=>by
  have q:=BJ xs ys h1 h2
  simp_all [PyData.eqv]
 | .none,_,h,_=>by simp_all [QX]
 | .bool _,_,h,_=>by simp_all [QX]
 | .str _,_,h,_=>by simp_all [QX]
 | .dict _,_,h,_=>by simp_all [QX]
 |_,.none,_,h=>by simp_all [QX]
 |_,.bool _,_,h=>by simp_all [QX]
 |_,.str _,_,h=>by simp_all [QX]
 |_,.dict _,_,h=>by simp_all [QX]
theorem BJ:∀a ys:List PyData,XH a=true->XH ys=true->(PyData.eqvAll a ys=true↔a=ys)
 | [],[],_,_=>by unfold PyData.eqvAll;simp
 | [],y::ys,_,_=>by unfold PyData.eqvAll;simp
 |x::a,[],_,_=>by unfold PyData.eqvAll;simp
 |x::a,y::ys,h1,h2=>by
  have ⟨b,c⟩:=Js.mp h1;have ⟨b1,b2⟩:=Js.mp h2;unfold PyData.eqvAll;rw[Bool.and_eq_true_iff,BI x y b b1,BJ a ys c b2];simp
end
def N6 (a:QX d=true)(b:QX e=true)(h:d≠e):PyData.eqv d e=false:=by
 grind[BI]
def N7 (a:QX d=true):PyData.eqv d d=true:=(BI d d a a).mpr rfl
section
variable {X:Cx}
def q0:Yh->Int
 | []=>0
 |x::r=>r.foldl max x
def qX:Yh->Int
 | []=>0
 |x::r=>r.foldl min x
theorem E5:∀(r:Yh) x,x<=r.foldl max x/\(∀y∈r,y<=r.foldl max x)/\(r.foldl max x=x\/r.foldl max x∈r)
 | [],x=>by simp
 |y::r,x=>by
  obtain⟨b,a,c⟩:=E5 r (max x y);show x<=r.foldl max (max x y)/\(∀z∈y::r,z<=r.foldl max (max x y))/\(r.foldl max (max x y)=x\/r.foldl max (max x y)∈y::r);refine⟨(),λz hz=>?_,?_⟩
  .rcases U0.mp hz with rfl|hz
   .omega
   .exact a z hz
  grind
def W5 (h:l ≠ []):q0 l∈l/\∀y∈l,y<=q0 l:=by
 cases l with
 |nil=>simp_all
 |cons x r =>
  obtain⟨a,b,h3⟩:=E5 r x;refine⟨?_,λy hy=>?_⟩
  .rcases h3 with h3|h3
   .show r.foldl max x∈x::r;rw[h3];exact Zqs
   .exact Zqm _ h3
  .rcases U0.mp hy with rfl|hy
   .exact a
   .exact b y hy
def E6 (a:M∈l)(b:∀y∈l,y<=M):M=q0 l:=by
 obtain⟨c,e⟩:=W5 (l:=l) ()
 grind
theorem E7:∀(r:Yh) x,r.foldl min x<=x/\(∀y∈r,r.foldl min x<=y)/\(r.foldl min x=x\/r.foldl min x∈r)
 | [],x=>by simp
 |y::r,x=>by
  obtain⟨b,a,c⟩:=E7 r (min x y);show r.foldl min (min x y)<=x/\(∀z∈y::r,r.foldl min (min x y)<=z)/\(r.foldl min (min x y)=x\/r.foldl min (min x y)∈y::r);refine⟨(),λz hz=>?_,?_⟩
  .rcases U0.mp hz with rfl|hz
   .omega
   .exact a z hz
  grind
def ZT (h:l ≠ []):qX l∈l/\∀y∈l,qX l<=y:=by
 cases l with
 |nil=>simp_all
 |cons x r =>
  obtain⟨a,b,h3⟩:=E7 r x;refine⟨?_,λy hy=>?_⟩
  .rcases h3 with h3|h3
   .show r.foldl min x∈x::r;rw[h3];exact Zqs
   .exact Zqm _ h3
  .rcases U0.mp hy with rfl|hy
   .exact a
   .exact b y hy
def BK (a:M∈l)(b:∀y∈l,M<=y):M=qX l:=by
 obtain⟨c,e⟩:=ZT (l:=l) ()
 grind
def N8 (m:X.calm=true):jU X (.builtin "max") (λg H Q=>∃a ns,g=[.ref a]/\xb X.K H a (ns.map V.int)/\ns ≠ []/\Q (.int (q0 ns)) H):=by
 intro Y s Z H g C Q I r h;obtain⟨a,ns,rfl,n,o,q⟩:=h;obtain⟨u,rfl,w⟩:=QU r;obtain rfl:=w;obtain⟨its,x,p,hz⟩:=I.list n;have i:=Ei x;obtain⟨ys,e⟩:=i.allInts.items;have c:ns=ys.toList.map (·.1):=by
  rw[<- i.numsOf,<- nums_intItems,<- e]
 have hsz:0<ys.size:=by
  grind
 have f:=p.isList;rw[e] at f;refine max_intList (I.ok.hd m) f hsz λv E tk y z=>?_;obtain⟨t,rfl⟩:=intItems_at y;obtain⟨F,A⟩:=argBest_gt (numAt ys) (ys.size-1);refine⟨.int (q0 ns),H,I.kept z,⟨t,?_⟩,q⟩
 congr 1
 refine E6 ?_ λb l=>?_
 .rw[c,numAt_eq];exact PySem.getD_mem (by rw[Zql,Ui];lia)
 .rw[c] at l;obtain⟨j,B,rfl⟩:=PySem.mem_getD l;rw[Zql,Ui] at B;rw[<- numAt_eq];exact A j ()
def N9 (m:X.calm=true):jU X (.builtin "min") (λg H Q=>∃a ns,g=[.ref a]/\xb X.K H a (ns.map V.int)/\ns ≠ []/\Q (.int (qX ns)) H):=by
 intro Y s Z H g C Q I r h;obtain⟨a,ns,rfl,n,o,q⟩:=h;obtain⟨u,rfl,w⟩:=QU r;obtain rfl:=w;obtain⟨its,x,p,hz⟩:=I.list n;have i:=Ei x;obtain⟨ys,e⟩:=i.allInts.items;have c:ns=ys.toList.map (·.1):=by
  rw[<- i.numsOf,<- nums_intItems,<- e]
 have hsz:0<ys.size:=by
  grind
 have f:=p.isList;rw[e] at f;refine min_intList (I.ok.hd m) f hsz λv E tk y z=>?_;obtain⟨t,rfl⟩:=intItems_at y;obtain⟨F,A⟩:=argBest_lt (numAt ys) (ys.size-1);refine⟨.int (qX ns),H,I.kept z,⟨t,?_⟩,q⟩
 congr 1
 refine BK ?_ λb l=>?_
 .rw[c,numAt_eq];exact PySem.getD_mem (by rw[Zql,Ui];lia)
 .rw[c] at l;obtain⟨j,B,rfl⟩:=PySem.mem_getD l;rw[Zql,Ui] at B;rw[<- numAt_eq];exact A j ()
def NA:jU X (.builtin "isinstance") (λa H Q=>∃x n t b,a=[x,.ty n]/\TyOf X.K H x t/\W.kitOne X.K t (.type n)=some b/\Q (.bl b) H):=by
 intro Y s Z H a i Q I r h;obtain⟨x,n,t,b,rfl,c,e,q⟩:=h;obtain⟨u,j,rfl,f,g⟩:=ZO r;obtain rfl:=g;exact M5 I f c e λtk=>⟨.bl b,H,I.tok tk,rfl,q⟩
def zV (P:Program)(w:World)(K:W.Frag)(mg:Ye)(a:Heap)(name:Str)(k:Nat)(ps:Yk)(sp:Sp):Prop:=
 ∃f fd,FnOk P w K mg a yr k f fd ps sp/\zw K fd ps []/\W.keepIn K (.ref f)=true/\mg name=some (.ref f)
theorem zV.mono {P:Program}{w:World}{K:W.Frag}{mg:Ye}{a:Heap}{name:Str}{j k:Nat}{ps:Yk}{sp:Sp}(c:zV P w K mg a name j ps sp)(h:j<=k):zV P w K mg a name k ps sp:=by
 obtain⟨f,fd,F,r⟩:=c;exact⟨f,fd,F.mono h,r⟩
def ZU (c:zV X.prog X.w X.K X.mg X.base name k ps sp)(h:Room k X.A)(i:Gl X name)(j:PA X (e::es) t)
 (a:(name == ("__debug__" : Str))=false:=by decide) (l:starEach (e::es) X.env=(false,eval e X.env)::starEach es X.env:=by rfl) (g:(backTo pos (starEach es X.env)).any (·.1)=false:=by rfl):
 PE X (.Call (.Name name p) (e::es) [] pos) (B6 sp [] E0 t):=by
 obtain⟨f,fd,F,b,m,n⟩:=c;exact Eb F h i n m b .nil Eu j a l g
end
def Kx (h:H p=none)(o):jm H (jB H p o):=λb u q=>by rwa [JJ (Kd q h)]
def QY (h:n<=1000):n<=sizeLine:=Zz (Ew h)
def pD (p:Int×Int):PyData:=.tuple [.int p.1,.int p.2]
def rD (r:Jy):PyData:=.tuple (r.map pD)
def bB:Is H (pD p) v↔∃a,v=.ref a/\H a=some (.tup [.int p.1,.int p.2]):=by
 constructor
 .rintro⟨a,g,b,c,f⟩;have e:=E4 (ns:=[p.1,p.2]) f
  simp_all
 .rintro⟨a,b,c⟩;exact⟨a,_,b,c,E3 [p.1,p.2]⟩
def BL (o)(s:jm H H')(h:H l=none):jm H (jB H' l o):=λb u e=>by
 rw[JJ (Kd e h)];exact s b u e
def BM (p):QX (pD p)=true:=by rfl
def QP:bootBuiltins "len" = some (.builtin "len"):=boot_len
def ZV:bootBuiltins "max" = some (.builtin "max"):=boot_max
def BN:bootBuiltins "min" = some (.builtin "min"):=boot_min
def KM:bootBuiltins "isinstance" = some (.builtin "isinstance"):=boot_isinstance
def BO:bootBuiltins "sorted" = some (.builtin "sorted"):=boot_sorted
def E8:bootBuiltins "int" = some (.type "int"):=boot_int
def NB:bootBuiltins "bool" = some (.type "bool"):=boot_bool
def XI:bootBuiltins "str" = some (.type "str"):=boot_str
def Ke:bootBuiltins "list" = some (.type "list"):=boot_list
def XJ:bootBuiltins "tuple" = some (.type "tuple"):=boot_tuple
def E9:bootBuiltins "dict" = some (.type "dict"):=boot_dict
def bt_set:bootBuiltins "set" = some (.type "set"):=boot_set
def EA:entryFor table "dict.update.loop" = some Builtin.«dict.update.loop»:=entryFor_of_tree (by rfl)
def ZW:plainId "dict.update.loop" = true:=by decide +kernel
section
variable {prog:Program}{w:World}{K:Type}[DecidableEq K]{knd:KeyKind prog w K}
def gL (knd:KeyKind prog w K)(it t d:Addr)(c:Yn)(ps:List (K×Value))(z:Heap)(hlen:c.size=ps.length)
 (L:∀(j:Nat) k v,ps[j]? = some (k,v)->∃n h,c[j]? = some (.ref n)/\z.IsTuple n #[h,v]/\knd.is k h=true/\n≠it/\n≠d)
 (B:z.IsTuple t c) (n1:t≠it) (n2:t≠d) (M:d≠it) (m:Nat):
 ∀i:Nat,ps.length-i=m->∀A R s (a:List (K×Value)),A.handled=none->s.heap.IsTupleIter it t i->(∀b o,b≠it->b≠d->z.get? b=some o->s.heap.get? b=some o) ->
  s.heap.DictOf knd d a->a.length+(ps.length-i)<=sizeLine ->
  (∀p tk,p.DictOf knd d (merged a (ps.drop i))->(∀b o,b≠it->b≠d->z.get? b=some o->p.get? b=some o)->R (.ok (.ret .none)) { s with heap:=p,toks:=tk }) ->
  wpAny (model prog w) A.in1 (Builtin.«dict.update.loop» ⟨[.ref d,.ref it,rawInt i,.none],[]⟩) (λu s'=>match u with | .done f=>R (.ok f) s' | .again c'=>c'.quiet=true/\codeAny (model prog w) A c' R s') (λe s'=>R (.error e) s') s:=by
 induction m with
 |zero =>
  intro i I A R s a N st keep O hz J;have P:c[i]? = none:=by rw[Array.getElem?_eq_none_iff];lia
  have Q:s.heap.IsTuple t c:=by
   obtain⟨o,l,r⟩:=B;exact⟨o,keep t o n1 n2 l,r⟩
  unfold Builtin.«dict.update.loop»;refine Za (wpAny_pyNext_tuple_end N st Q P λp eb=>?_);have S:ps.drop i=[]:=Vg ();rw[S] at J;have C:p.DictOf knd d a:=by
   obtain⟨o,es,ep,l,r⟩:=O;exact⟨o,es,ep,eb d o M l,r⟩
  have u:=J p s.toks C (λb o E F e=>eb b o E (keep b o E F e));unfold Builtin.Dict.addKeywords;exact Za (Zb (Zb u))
 |succ m ih =>
  intro i I A R s a N st keep O hz J;have x:i<ps.length:=()
  obtain⟨g,hkv⟩:∃g,ps[i]? = some g:=⟨_,Zqg x⟩;obtain⟨n,h,P,U,G,a1,a2⟩:=L i g.1 g.2 hkv;have Q:s.heap.IsTuple t c:=by
   obtain⟨o,l,r⟩:=B;exact⟨o,keep t o n1 n2 l,r⟩
  unfold Builtin.«dict.update.loop»;refine Za (wpAny_pyNext_tuple_item st Q P λE X y=>?_);obtain⟨Y,Z,hoc,nn,hod⟩:=U;have q:E.get? n=some Y:=(y.2 n a1).trans (keep n Y a1 a2 Z);have hD1:E.DictOf knd d a:=by
   obtain⟨o,es,ep,l,r⟩:=O;exact⟨o,es,ep,(y.2 d M).trans l,r⟩
  dsimp only;refine Za (wpAny_holding (Za (wpAny_tryCatch ?_)));unfold Builtin.Dict.pairItems;refine Za (wpAny_typeOf (T:= "tuple") ⟨Y,q,hoc⟩ ?_);rw[Zd (by decide)];refine Za (wpAny_seqItems q hod (Zb ?_));show wpAny _ _ (holding [h,g.2] (dictSet d h g.2)) _ _ _;refine wpAny_holding (wpAny_dictSet_pairs G hD1 (λF hD2 H=>?_) ());have hc:((i:Int)+1)=((i+1:Nat):Int):=by push_cast;rfl
  refine Zb ?_;rw[hc];have st2:F.IsTupleIter it t (i+1):=by
   obtain⟨o,l,r⟩:=X;exact⟨o,(H.2 it (Ne.symm M)).trans l,r⟩
  have k2:∀b o,b≠it->b≠d->z.get? b=some o->F.get? b=some o:=λb o b1 b2 e=>(H.2 b b2).trans ((y.2 b b1).trans (keep b o b1 b2 e));have z2:(stored a g.1 g.2).length+(ps.length-(i+1))<=sizeLine:=by
   have:(stored a g.1 g.2).length<=a.length+1:=by
    unfold stored
    split
    .rw[Zql];lia
    .rw[Ub,Ur];lia
   rw[I] at hz;rw[Nat.sub_succ,I];exact Zh (Nat.add_le_add_right this m) (Zh (Yx (Nat.succ_add_eq_add_succ a.length m)) hz)
  have e:merged a (ps.drop i)=merged (stored a g.1 g.2) (ps.drop (i+1)):=by
   rw[Ut x];have:ps[i]=g:=by
    have:=Zqg x;rw[this] at hkv;exact Zqi hkv
   rw[this];rfl
  exact⟨plainId_quiet ZW _,codeAny_builtin EA (by
   rw[Around.under_plainId ZW _];exact ih (i+1) (by rw[Nat.sub_succ,I];rfl) A R { s with heap:=F,toks:=s.toks+1 } (stored a g.1 g.2) N st2 k2 hD2 z2 λp tk C kk=>J p tk (by rwa [e]) kk)⟩
end
def NC:typeLookup (.type "tuple") "keys" = pure none:=by rw[typeLookup_type,builtinLookup_eq_fast];kernel_rfl
def ND
 (p:s.heap.get? a=some o) (q:o.cls=.type "tuple") (f:o.data=.seq xs k) (r:o.dict=none) (i:typeLookup (.type "tuple") name=pure none) (j:(["__module__", "__name__", "__qualname__", "__doc__", "__annotations__"]:Yk).contains name=false) (u:A.handled=none)
 (h:∀n tk,(∀b o,s.heap.get? b=some o->n.get? b=some o)->Q none { s with heap:=n,toks:=tk }) (hsz:name.length+100<=sizeLine:=by size_fits):
 YK prog w A (getAttr? (.ref a) name) Q E s:=by
 obtain⟨c,v,x,y⟩:=o;simp only at q f r;subst q f r;obtain⟨hp,g,d,tk,os⟩:=s;have t:∀l,(⟨hp,g,d,l,os⟩:Shared).TypeIs (.ref a) "tuple" := λ_=>⟨_,p,rfl⟩;have z:=sub_AttributeError;have B:=F.slot_tuple_getattribute.lookup;have C:=F.slot_tuple_getattribute.bind (.ref a);have G:=am_tuple_getattr_none;unfold getAttr? getAttrBy? getAttrBy
 repeat (any_goals (first|assumption|exact t _|((with_reducible show wpAny _ _ (call (Value.builtin "tuple.__getattribute__") _ _) _ _ _);refine call_meets F.slot_tuple_getattribute (t _) am_entry_tuple_getattribute (F.args_tuple_getattribute_2 _ _) (meets_getattribute_miss_tuple a xs k y name _ i j hsz) ⟨p,u,λn l e m=>?_⟩)|wp_step))
 obtain⟨t',H,I⟩:=m.there;show wpAny _ _ (getattributeRaised _ _ _ _ _ _ _) _ _ _;unfold getattributeRaised
 repeat (any_goals (first|assumption|wp_step))
 exact h _ _ m.of.keeps
section
variable {prog:Program}{w:World}{K:Type}[DecidableEq K]{A:Around}{E:Ya}{s:Shared}
def NE (knd:KeyKind prog w K)(N:A.handled=none)(G:s.heap.get? t=some o)(H:o.cls=.type "tuple")(l:o.data=.seq items n)(P:o.dict=none)
 (p:items.size=ps.length) (I:∀(j:Nat) k v,ps[j]? = some (k,v)->∃g a,items[j]? = some (.ref g)/\s.heap.IsTuple g #[a,v]/\knd.is k a=true) (hz:ps.length<=sizeLine)
 (h:∀q tk,q.DictOf knd s.heap.objs.size (merged [] ps)->(∀b u,s.heap.get? b=some u->q.get? b=some u)->Q (.ref s.heap.objs.size) { s with heap:=q,toks:=tk }):
 YK prog w A (call (.type "dict") [.ref t]) Q E s:=by
 refine callType_codes (Q₁:=λx s₁=>x=.ref s.heap.objs.size/\s₁={ s with heap:=s.heap.push { cls:=.type "dict",data:=.dict #[] } }) F.kt_called_dict (F.kt_typeCall_dict_1 _) F.entry_dict_init (kt_code_dict_new _ ⟨rfl,rfl⟩) ?_;rintro x s₁ ⟨rfl,rfl⟩;have c:(s.heap.push { cls:=.type "dict",data:=.dict #[] }).DictOf knd s.heap.objs.size []:=Heap.DictOf.new s.heap;refine⟨c.typeIs,F.args_dict_init_2 _ _,?_⟩;have m:(s.heap.push { cls:=.type "dict",data:=.dict #[] }).get? t=some o:=Zq _ G;unfold Builtin.«dict.__init__»;refine Za ?_;unfold Builtin.Dict.selfAndRest;refine Za (wpAny_notOrdered_dict c.typeIs ?_);show wpAny _ _ (pure (s.heap.objs.size,[Value.ref t])) _ _ _;refine Zb ?_;show wpAny _ _ (Builtin.Dict.updateFrom "dict.__init__" s.heap.objs.size (.ref t) [] .none) _ _ _;unfold Builtin.Dict.updateFrom;refine Za (wpAny_typeOf (T:= "tuple") ⟨o,m,H⟩ ?_);rw[Zd (by decide)];refine Za (ND m H l P NC (by decide +kernel) N (λi R k2=>?_) (by decide));rw[Zd (by rfl)];have y:i.IsTuple t items:=⟨o,k2 _ _ m,H,n,l⟩;have lt:s.heap.objs.size<i.objs.size:=by
  obtain⟨C,_,_,e,_⟩:=c;exact Zk (k2 _ _ e)
 have S:i.DictOf knd s.heap.objs.size []:=by
  obtain⟨C,es,ep,e,r⟩:=c;exact⟨C,es,ep,k2 _ _ e,r⟩
 refine Za (wpAny_rule ?_);refine Za (wpAny_pyIter_tuple y ?_);have f:∀b u,s.heap.get? b=some u->b≠s.heap.objs.size/\b≠i.objs.size:=λb u e=>by
  have z:=Zk e;exact⟨Zi z,Zi (Ug z lt)⟩
 have O:∀b u,s.heap.get? b=some u->i.get? b=some u:=λb u e=>k2 b u (Zq _ e);have B:∀(j:Nat) k v,ps[j]? = some (k,v)->∃g a,items[j]? = some (.ref g)/\i.IsTuple g #[a,v]/\knd.is k a=true/\g≠i.objs.size/\g≠s.heap.objs.size:=λj k v e=>by
  obtain⟨g,a,U,⟨J,L,X⟩,Y⟩:=I j k v e;exact⟨g,a,U,⟨J,O _ _ L,X⟩,Y,(f g J L).2,(f g J L).1⟩
 refine Zb ⟨plainId_quiet ZW _,codeAny_builtin EA ?_⟩;rw[Around.under_plainId ZW _];refine gL knd i.objs.size t s.heap.objs.size items ps i p B y (f t o G).2 (f t o G).1 (Zi lt) ps.length 0 () A.in1 _ _ [] N ⟨_,Zr _ rfl,rfl,rfl⟩ (λb u _ _ e=>Zq _ e) ?_ (by simpa using hz) ?_
 .obtain⟨C,es,ep,e,r⟩:=S;exact⟨C,es,ep,Zq _ e,r⟩
 .intro q tk M Z;exact⟨rfl,h q tk M λb u e=>Z b u (f b u e).2 (f b u e).1 (O b u e)⟩
end
def xq (r:Jy):List (j7×V):=r.map λp=>(Ue p.1,V.int p.2)
def ZX (r:Jy):List (j7×V):=W2 [] (xq r)
theorem EB (ok:qH P w H h):∀{r:Jy} {f:YF} {b:Yf},qh H (r.map pD) f->ju f b ->
 ∃ps:List (j7×Value),KV (xq r) ps/\b.length=ps.length/\∀(j:Nat) k v,ps[j]? = some (k,v)->∃g c,b[j]? = some (.ref g)/\h.IsTuple g #[c,v]/\(Q3 P w).is k c=true
 | [],f,b,ha,r=>by
  subst ha;cases r;exact⟨[],.nil,rfl,()⟩
 |p::r,f,b,ha,rv=>by
  obtain⟨x,ys,rfl,l,m⟩:=ha;cases rv with
  | @cons _ u _ q s t =>
   obtain⟨ps,k1,k2,k3⟩:=EB ok m t;obtain⟨a,rfl,y⟩:=bB.mp l;obtain rfl:=s;obtain⟨_,its,z,o,A,B,n,C⟩:=(ok a _ y);obtain⟨I,E,rfl,F,G⟩:=ZO z;obtain⟨i,rfl⟩:=(F);refine⟨(Ue p.1,E)::ps,.cons ⟨rfl,G⟩ k1,(),λj k v e=>?_⟩;cases j with
   |zero =>
    cases e;exact⟨a,.int p.1 i,rfl,⟨o,A,B,n,C⟩,DM p.1 i⟩
   |succ j =>
    exact k3 j k v (by simpa using e)
section
variable {X:Cx}
def NF (g:X.calm=true):jU X (.type "dict") (λb H Q=>∃a r,b=[.ref a]/\Is H (rD r) (.ref a)/\r.length<=100/\∀p,H p=none->Q (.ref p) (jB H p (.dK (ZX r)))):=by
 intro Y s Z H b G Q I i h;obtain⟨a,r,rfl,l,hz,q⟩:=h;obtain⟨u,rfl,m⟩:=QU i;obtain rfl:=m;obtain⟨J,b,t,w,x⟩:=l;cases t;obtain⟨⟨K,L,c,d0⟩,its,y,o,f,A,n,B⟩:=(I.hok a _ w);rw[c] at f;obtain rfl:=Zqi f;obtain⟨ps,k1,k2,k3⟩:=EB I.hok x y;have M:=k1.length;have C:(xq r).length=r.length:=Zql _;refine NE (Q3 X.prog X.w) (I.ok.hd g) c A B d0 () (λj k v e=>?_) (QY ()) λN tk E F=>?_
 .simp_all
 .refine⟨.ref s.heap.objs.size,jB H s.heap.objs.size (.dK (ZX r)),I.laid F (Zf _) (Er ?_ (beq_eq_false_iff_ne.mpr (Ne.symm (Zi I.big))) (zQ k1 .nil) E),rfl,q _ (I.hok.fresh (Zf _))⟩;have z:=Et (xq r) [];rw[ZC,C] at z;exact QY (by unfold ZX;lia)
end
def JC:Jy->Int->Option Int
 | [],_=>none
 |p::r,t=>match JC r t with
  |some w=>some w
  |none=>if p.1=t then some p.2 else none
def NG (r s)(t):JC (r++s) t=match JC s t with|some w=>some w|none=>JC r t:=by
 induction r with
 |nil=>grind[JC]
 |cons p r a =>
  grind[List.cons_append,JC]
def Qi (h:JC r t=some w):(t,w)∈r:=by
 induction r with
 |nil=>simp[JC] at h
 |cons p r a =>
  grind[JC]
theorem EC (h:JC r t=none):∀w,(t,w)∉r:=by
 induction r with
 |nil=>simp
 |cons p r a =>
  grind[JC]
def j8 (r:Jy):Prop:=(r.map (·.1)).Nodup
def j8.eq (h:j8 r)(a:(t,v)∈r)(b:(t,w)∈r):v=w:=by
 induction r with
 |nil=>cases a
 |cons p r c =>
  obtain⟨f,e⟩:=Jm.mp (h);rcases U0.mp a with e1|e1<;>rcases U0.mp b with e2|e2
  .grind
  .grind
  .grind
  .exact c e e1 e2
def j8.look (h:j8 r)(a:(t,w)∈r):JC r t=some w:=by
 cases q:JC r t with
 |none=>exact Zn a (EC q w)
 |some v=>rw[h.eq (Qi q) a]
def xP (o:Jy)(p:Int×Int):Bool:=match JC o p.1 with
 |some w=>decide (p.2<=w)
 |none=>false
def JH (r o:Jy):Bool:=r.all (xP o)
def ED {r o:Jy}{i:Nat}{p:Int×Int}(hp:r[i]? = some p)(h:xP o p=false):JH r o=false:=by
 grind[JH,List.all_eq_false]
def Wg {α: Type}{r:List α}{p:α}(hp:r[i]? = some p):r.take (i+1)=r.take i++[p]:=by
 rw[Vv,hp];rfl
def NH {r o:Jy}{i:Nat}{p:Int×Int}(hp:r[i]? = some p)(h:JH (r.take i) o=true)(a:xP o p=true):JH (r.take (i+1)) o=true:=by
 rw[Wg hp]
 simp_all [JH]
open PySem PyProof.Rows
def EE (h:l<r)(c:r-l<=k-x):∃m,(l+r) / 2=m/\l<=m/\m<r/\m-l<=k-(x+1)/\r-(m+1)<=k-(x+1):=by
 have a:l<=(l+r) / 2:=()
 have b:(l+r) / 2<r:=()
 generalize (l+r) / 2=m at a b ⊢;exact⟨m,rfl,a,b,Nat.le_pred_of_lt (Zg (Nat.sub_lt_sub_right a b) c),Nat.pred_le_pred (Zh (Nat.sub_le_sub_left a r) c)⟩
structure Wk (lt:Yd):Prop where
 asy:∀i j,lt i j=true->lt j i=false
 neg:∀i j k,lt i k=true->lt i j=true\/lt j k=true
def jI (lt:Yd)(i j:Nat):Prop:=lt i j=true\/(lt j i=false/\i<j)
section
variable {lt:Yd}(W:Wk lt)
include W
theorem jI.no (h:jI lt i j):lt j i=false:=by
 rcases h with h|h
 .exact W.asy _ _ h
 .exact h.1
theorem jI.trans (c:jI lt i j)(e:jI lt j k):jI lt i k:=by
 have g:=jI.no W e;have f:lt k i=false:=by
  cases q:lt k i with
  |false=>rfl
  |true =>
   rcases W.neg k j i q with z|z
   .simp_all
   .rw[(jI.no W c)] at z;exact JF z
 rcases c with a|a
 .rcases W.neg i k j a with z|z
  .exact .inl z
  simp_all
 .rcases e with b|b
  .rcases W.neg j i k b with z|z
   .simp_all
   .exact .inl z
  .exact .inr ⟨f,()⟩
end
def gx (ix:Yi)(k:Nat):Nat:=(ix[k]?).getD 0
theorem BP (h:k<ix.size):ix[k]? = some (gx ix k):=by
 simp_all [gx]
def EF (hs:src<ix.size)(a:d<=src)(k):gx (bubble ix src d) k=if k=src-d then gx ix src else if src-d<k/\k<=src then gx ix (k-1) else gx ix k:=by
 unfold gx;rw[getElem?_bubble hs d a k]
 repeat' split
 all_goals rfl
def XL (a:j<=ix.size)(k):gx (mirror ix i j ((j-i) / 2)) k=if i<=k/\k<j then gx ix (i+j-1-k) else gx ix k:=by
 unfold gx;rw[getElem?_mirror_all a k]
 split
 all_goals rfl
def NI {α β: Type}(f:α -> β)(b:Array α)(i j:Nat):(b.map f).swapIfInBounds i j=(b.swapIfInBounds i j).map f:=by
 apply Array.ext_getElem?;intro k;by_cases a:i<b.size
 .by_cases c:j<b.size
  .rw[getElem?_swapIB (by simpa using a) (by simpa using c),UO,UO,UO,UO,getElem?_swapIB a c]
   repeat' split
   all_goals rfl
  .rw[VG,VG,dif_pos (by simpa using a),dif_neg (by simpa using c),dif_pos a,dif_neg c]
 .rw[VG,VG,dif_neg (by simpa using a),dif_neg a]
theorem BQ {α β γ: Type}(f:α -> β)(p q:γ -> Nat):∀(l:List γ) (b:Array α),l.foldl (λa k=>a.swapIfInBounds (p k) (q k)) (b.map f)=(l.foldl (λa k=>a.swapIfInBounds (p k) (q k)) b).map f
 | [],b=>rfl
 |k::l,b=>by
  rw[Vh,Vh,NI,BQ f p q l]
def NJ {α β: Type}(f:α -> β)(xs)(src d):bubble (xs.map f) src d=(bubble xs src d).map f:=BQ f _ _ _ xs
def NK {α β: Type}(f:α -> β)(xs)(i j d):mirror (xs.map f) i j d=(mirror xs i j d).map f:=BQ f _ _ _ xs
structure Pl (n:Nat)(ix:Yi)(k:Nat):Prop where
 size:ix.size=n
 perm:ix.Perm (Array.range n)
 pre:∀a,a<k->gx ix a<k
 suf:∀a,k<=a->a<n->gx ix a=a
def Pl.lt (h:Pl n ix k)(b:k<=n)(e:a<n):gx ix a<n:=by
 by_cases c:a<k
 .exact Zg (h.pre a c) b
 .rwa [h.suf a () e]
def Up (lt:Yd)(ix:Yi)(k:Nat):Prop:=∀a b,a<b->b<k->jI lt (gx ix a) (gx ix b)
structure SB (it:Nat->Keyed)(kind:SortKind)(ix:Yi)(st:SortSt):Prop where
 arr:arrOf st=ix.map it
 kd:kindOf st=kind
 fl:failedOf st=none
 pd:pendingOf st = #[]
def xY (prog:Program)(w:World)(A:Around)(s:Shared)(kind:SortKind)(it:Nat->Keyed)(lt:Yd)(n:Nat):Prop:=
 ∀i j,i<n->j<n->∀(E:Ya) (Q:Bool->YC),Q (lt i j) s->YK prog w A (keyLt' kind (it i).1 (it j).1) Q E s
end L2
set_option maxHeartbeats 4000000
namespace L2
def Wh:Bool->Keyed->Array Keyed->Nat->Nat->Nat->StateT SortSt Sem (Option Nat):=sortPriv% PySem.Builtin.gallop
def BR:Array Keyed->Array Keyed->StateT SortSt Sem (Array Keyed):=sortPriv% PySem.Builtin.mergeLo
def BS:Array Keyed->Array Keyed->StateT SortSt Sem (Array Keyed):=sortPriv% PySem.Builtin.mergeHi
abbrev KA:=Array Keyed
abbrev SM:=StateT SortSt Sem
abbrev C3:=Option (Option Nat)×Nat×Nat
def be (lt:Yd)(left:Bool)(x k:Nat):Bool:=if left then lt x k else !lt k x
section
variable {prog:Program}{w:World}{A:Around}{E:Ya}{s:Shared}{kind:SortKind}{it:Nat->Keyed}{lt:Yd}{N:Nat}{st:SortSt}
def XM {i j:Nat}{Q:Option Bool->YB}(O:xY prog w A s kind it lt N)(a:kindOf st=kind)(b:i<N)(c:j<N)(h:Q (some (lt i j)) st):YL prog w A E s (lt' (it i) (it j)) Q st:=by
 rw[lt'_eq];refine Yo (wpS_get ?_);rw[a];exact Yo (wpS_lift (wpAny_attempt (O _ _ b c _ _ ⟨rfl,Yp h⟩)))
def Qv {a:Yi}{p:Nat}{Q:Keyed->YB}(hp:p<a.size)(h:Q (it (gx a p)) st):YL prog w A E s (elem' (a.map it) p) Q st:=by
 grind[Array.getElem?_map,elem'_eq,BP,PyProof.Rows.wpS_pure]
noncomputable def wi {α: Type}{c:Prop}[Decidable c]{m n:SM α}{Q:α -> YB}(h:c->YL prog w A E s m Q st)(k:¬c->YL prog w A E s n Q st):YL prog w A E s (if c then m else n) Q st:=()
noncomputable def kA (left:Bool)(a:Keyed)(e:KA)(c i:Nat):SM (Option Bool):=elem' e (c+i) >>= λx=>if left=true then lt' x a else lt' a x >>= λr=>pure (r.map λb => !b)
def mL {left:Bool}{k:Nat}{b:Yi}{p a:Nat}{Q:Option Bool->YB}(O:xY prog w A s kind it lt N)(c:kindOf st=kind)(e:k<N)(hp:a+p<b.size)(f:gx b (a+p)<N)(h:Q (some (be lt left (gx b (a+p)) k)) st):
 YL prog w A E s (kA left (it k) (b.map it) a p) Q st:=by
 refine Yo (Qv hp ?_);cases left with
 |true=>exact XM O c f e h
 |false=>exact Yo (XM O c e f (Yp h))
noncomputable def dA (b:Nat->SM (Option Bool))(lo a:Nat):SM (ForInStep C3):=if lo ≥ a then pure (.done (none,lo,a)) else b (lo+(a-lo) / 2) >>= λr=>match r with
 |some t=>if t=true then pure (.yield (none,lo+(a-lo) / 2+1,a)) else pure (.yield (none,lo,lo+(a-lo) / 2))
 |_=>pure (.done (some none,lo,a))
noncomputable def k9 (b:Nat->SM (Option Bool))(n lo a:Nat):SM (Option Nat):=(forIn [:n] ((none,lo,a):C3) λ_ c=>dA b c.2.1 c.2.2) >>= λc=>match c.1 with
 |some r=>pure r
 |none=>pure (some c.2.2)
noncomputable def dD (b:Nat->SM (Option Bool))(a c l o:Nat):SM (ForInStep C3):=if o ≥ c then pure (.done (none,l,o)) else b (a+o) >>= λr=>match r with
 |some t=>if(!t)=true then pure (.done (none,l,o)) else pure (.yield (none,o,2*o+1))
 |_=>pure (.done (some none,l,o))
noncomputable def dB (b:Nat->SM (Option Bool))(a c l o:Nat):SM (ForInStep C3):=if o ≥ c then pure (.done (none,l,o)) else b (a-o) >>= λr=>match r with
 |some t=>if t=true then pure (.done (none,l,o)) else pure (.yield (none,o,2*o+1))
 |_=>pure (.done (some none,l,o))
noncomputable def rB (b:Nat->SM (Option Bool))(n a:Nat):SM (Option Nat):=(forIn [:n] ((none,0,1):C3) λ_ c=>dD b a (n-a) c.2.1 c.2.2) >>= λc=>match c.1 with
 |some r=>pure r
 |none=>k9 b n (a+c.2.1+1) (a+min c.2.2 (n-a))
noncomputable def rC (b:Nat->SM (Option Bool))(n a:Nat):SM (Option Nat):=(forIn [:n] ((none,0,1):C3) λ_ c=>dB b a (a+1) c.2.1 c.2.2) >>= λc=>match c.1 with
 |some r=>pure r
 |none=>k9 b n (a+1-min c.2.2 (a+1)) (a-c.2.1)
set_option smartUnfolding false in
def k7 {left:Bool}{k:Keyed}{a:KA}{b n c:Nat}:Wh left k a b n c=(kA left k a b c >>= λr=>match r with
 |some t=>if t=true then rB (kA left k a b) n c else rC (kA left k a b) n c
 |_=>pure none):=rfl
section
variable {P:Nat->Bool}{b:Nat->SM (Option Bool)}{n:Nat}{Q:Option Nat->YB}(hb:∀{i:Nat} {Q:Option Bool->YB},i<n->Q (some (P i)) st->YL prog w A E s (b i) Q st)
 (mono:∀i j,i<j->j<n->P j=true->P i=true) (h:∀m,m<=n->(∀i,i<m->P i=true)->(∀i,m<=i->i<n->P i=false)->Q (some m) st)
include hb mono h
theorem k8 {lo a:Nat}(l:lo<=a)(f:a<=n)(t:∀i,i<lo->P i=true)(u:∀i,a<=i->i<n->P i=false):YL prog w A E s (k9 b n lo a) Q st:=by
 refine Yo (Yq (Yr (I:=λx c j=>j=st/\∃lo a,c=(none,lo,a)/\lo<=a/\a<=n/\(∀i,i<lo->P i=true)/\(∀i,a<=i->i<n->P i=false)/\a-lo<=n-x) (Q:=λc j=>j=st/\∃m,c=(none,m,m)/\m<=n/\(∀i,i<m->P i=true)/\∀i,m<=i->i<n->P i=false) ?_ ?_ ()) ?_)
 .rintro x c j _ B ⟨rfl,lo,a,rfl,l,f,t,u,g⟩;refine wi (λc=>?_) λc=>?_
  .have e:lo=a:=Nat.le_antisymm l c;subst e;exact Yp ⟨rfl,lo,rfl,f,t,u⟩
  .have c:lo<a:=Yv c;obtain⟨m,em,m0,m1⟩:∃m,lo+(a-lo) / 2=m/\lo<=m/\m<a:=⟨_,rfl,Ul _ _,Nat.add_lt_of_lt_sub' (Nat.div_lt_self (Nat.sub_pos_of_lt c) (by decide))⟩;have o:a-(m+1)<=n-(x+1):=Nat.pred_le_pred (Zh (Nat.sub_le_sub_left m0 a) g);have p:m-lo<=n-(x+1):=Nat.le_pred_of_lt (Zg (Nat.sub_lt_sub_right m0 m1) g);rw[em];refine Yo (hb (Zg m1 f) (wi (λq=>Yp ⟨rfl,_,_,rfl,m1,f,λi r=>?_,u,o⟩) λq=>Yp ⟨rfl,_,_,rfl,m0,Zh (Zz m1) f,t,λi C v=>?_,p⟩))
   .by_cases z:i=m
    .rw[z];exact q
    .exact mono _ _ () (Zg m1 f) q
   .cases y:P i with
    |false=>rfl
    |true =>
     by_cases z:i=m
     .rw[z] at y;exact Zn y q
     .exact Zn (mono _ _ () v y) q
 .rintro c j ⟨rfl,lo,a,rfl,l,f,t,u,g⟩;rw[Nat.zero_max,Nat.sub_self] at g;have e:lo=a:=Nat.le_antisymm l (Nat.le_of_sub_eq_zero (Nat.le_zero.mp g));subst e;exact⟨rfl,lo,rfl,f,t,u⟩
 grind[PyProof.Rows.wpS_pure]
theorem mJ {a:Nat}(t:a<n)(e:P a=true):YL prog w A E s (rB b n a) Q st:=by
 refine Yo (Yq (Yr (I:=λx c j=>j=st/\∃l o,c=(none,l,o)/\l<o/\x+1<=o/\a+l<n/\P (a+l)=true) (Q:=λc j=>j=st/\∃l o,c=(none,l,o)/\l<o/\a+l<n/\P (a+l)=true/\(n-a<=o\/(o<n-a/\P (a+o)=false))) ?_ ?_ ⟨rfl,0,1,rfl,Yw,Zf _,t,e⟩) ?_)
 .rintro x c j _ _ ⟨rfl,l,o,rfl,m,u,f,g⟩;refine wi (λc=>Yp ⟨rfl,l,o,rfl,m,f,g,.inl c⟩) λc=>?_;have v:o<n-a:=Yv c;have B:a+o<n:=Nat.add_lt_of_lt_sub' v;refine Yo (hb B (wi (λq=>Yp ⟨rfl,l,o,rfl,m,f,g,.inr ⟨v,by simpa using q⟩⟩) λq=>Yp ⟨rfl,o,2*o+1,rfl,(),(),B,by simpa using q⟩))
 .rintro c j ⟨rfl,l,o,rfl,m,u,f,g⟩;rw[Nat.zero_max] at u;exact⟨rfl,l,o,rfl,m,f,g,.inl (Zh (U8 _ _) (Uw u))⟩
 .rintro c j ⟨rfl,l,o,rfl,m,f,g,p⟩;show wpS _ _ _ _ (k9 b n (a+l+1) (a+min o (n-a))) _ _;refine k8 hb mono h (Nat.add_lt_add_left (Nat.lt_min.mpr ⟨m,Nat.lt_sub_iff_add_lt'.mpr f⟩) a) (Zh (Nat.add_le_add_left (Nat.min_le_right _ _) _) (Yx (Vw (Zz t)))) (λi F=>?_) λi r C=>?_
  .by_cases z:i=a+l
   .rw[z];exact g
   .exact mono _ _ () f g
  .rcases p with p|⟨p,h8⟩
   .rw[Nat.min_eq_right p,Vw (Zz t)] at r;exact Zn C (Nat.not_lt_of_le r)
   .rw[Vi (Zz p)] at r;cases y:P i with
    |false=>rfl
    |true =>
     by_cases z:i=a+o
     .rw[z,h8] at y;cases y
     .rw[mono _ _ (UA r (Ne.symm z)) C y] at h8;cases h8
theorem mK {a:Nat}(r:a<n)(e:P a=false):YL prog w A E s (rC b n a) Q st:=by
 refine Yo (Yq (Yr (I:=λx c g=>g=st/\∃l o,c=(none,l,o)/\l<o/\x+1<=o/\l<=a/\P (a-l)=false) (Q:=λc g=>g=st/\∃l o,c=(none,l,o)/\l<o/\l<=a/\P (a-l)=false/\(a+1<=o\/(o<a+1/\P (a-o)=true))) ?_ ?_ ⟨rfl,0,1,rfl,Yw,Zf _,Ua _,e⟩) ?_)
 .rintro x c g _ _ ⟨rfl,l,o,rfl,j,u,m,f⟩;refine wi (λc=>Yp ⟨rfl,l,o,rfl,j,m,f,.inl c⟩) λc=>?_;have v:o<a+1:=Yv c;refine Yo (hb (UI (U8 _ _) r) (wi (λq=>Yp ⟨rfl,l,o,rfl,j,m,f,.inr ⟨v,q⟩⟩) λq=>Yp ⟨rfl,o,2*o+1,rfl,(),(),Uo v,Yu.mpr q⟩))
 .rintro c g ⟨rfl,l,o,rfl,j,u,m,f⟩;rw[Nat.zero_max] at u;exact⟨rfl,l,o,rfl,j,m,f,.inl (Zh r (Uw u))⟩
 .rintro c g ⟨rfl,l,o,rfl,j,m,f,p⟩;show wpS _ _ _ _ (k9 b n (a+1-min o (a+1)) (a-l)) _ _;refine k8 hb mono h (Zh (Nat.sub_le_sub_left (Nat.lt_min.mpr ⟨j,Nat.lt_succ_of_le m⟩) (a+1)) (Yx (Nat.add_sub_add_right a 1 l))) (Zh (U8 _ _) (Zz r)) (λi t=>?_) λi F B=>?_
  .rcases p with p|⟨p,h8⟩
   .rw[Nat.min_eq_right p,Nat.sub_self] at t;exact Zn t (UJ _)
   .rw[Vi (Zz p),Nat.succ_sub (Uo p)] at t;have C:a-o<n:=UI (U8 _ _) r;by_cases z:i=a-o
    .rwa [z]
    .exact mono _ _ (UA (Uo t) z) C h8
  .cases y:P i with
   |false=>rfl
   |true =>
    by_cases z:i=a-l
    .rw[z,f] at y;cases y
    .rw[mono _ _ () B y] at f;cases f
end
def WY {left:Bool}{k:Nat}{b:Yi}{a n c:Nat}{Q:Option Nat->YB}(O:xY prog w A s kind it lt N)(l:kindOf st=kind)(o:k<N)(hz:a+n<=b.size)(p:∀i,i<n->gx b (a+i)<N)(f:c<n)
 (mono:∀i j,i<j->j<n->be lt left (gx b (a+j)) k=true->be lt left (gx b (a+i)) k=true)
 (h:∀m,m<=n->(∀i,i<m->be lt left (gx b (a+i)) k=true)->(∀i,m<=i->i<n->be lt left (gx b (a+i)) k=false)->Q (some m) st):YL prog w A E s (Wh left (it k) (b.map it) a n c) Q st:=by
 have g:∀{i:Nat} {Q:Option Bool->YB},i<n->Q (some (be lt left (gx b (a+i)) k)) st->YL prog w A E s (kA left (it k) (b.map it) a i) Q st:=λr q=>mL O l o () (p _ r) q;rw[k7];exact Yo (g f (wi (λe=>mJ g mono h f e) λe=>mK g mono h f (Yu.mpr e)))
end
structure MInv (lt:Yd)(xs ys:Yi)(ia ib:Nat)(o:Yj):Prop where
 a:(o++xs.toList.drop ia).Pairwise (jI lt)
 b:(o++ys.toList.drop ib).Pairwise (jI lt)
 pm:(o++xs.toList.drop ia++ys.toList.drop ib).Perm (xs.toList++ys.toList)
def zu (lt:Yd)(a ys:Yi)(o:Yj):Prop:=o.Perm (a.toList++ys.toList)/\o.Pairwise (jI lt)
section
variable {lt:Yd}{xs ys:Yi}{ia ib:Nat}{o:Yj}
theorem WZ {ix:Yi}{i:Nat}(h:i<ix.size):ix.toList.drop i=gx ix i::ix.toList.drop (i+1):=by
 rw[Ut (by simpa using h)];unfold gx;rw[Uy h];simp
def Q8 {ix:Yi}{i:Nat}(h:i<ix.size):gx ix i∈ix.toList:=by
 simp_all [gx]
def EG {ix:Yi}{i x:Nat}(h:x∈ix.toList.drop i):∃j,i<=j/\j<ix.size/\x=gx ix j:=by
 obtain⟨j,a,e⟩:=Jt.mp h;have hz:i+j<ix.size:=by grind
 refine⟨i+j,(),hz,?_⟩
 simp_all [gx]
def MInv.addA {k:Nat}(M:MInv lt xs ys ia ib o)(h:∀c∈(xs.toList.drop ia).take k,∀y∈ys.toList.drop ib,jI lt c y):MInv lt xs ys (ia+k) ib (o++(xs.toList.drop ia).take k):=by
 have e:xs.toList.drop ia=(xs.toList.drop ia).take k++xs.toList.drop (ia+k):=by rw[<- List.drop_drop,UK]
 have a:=M.a;have b:=M.b;have f:=M.pm;rw[e,<- Uh] at a f;refine⟨a,?_,f⟩;rw[VH] at a b ⊢;refine⟨a.1,b.2.1,λx i y g=>?_⟩;rcases Jb.mp i with z|z
 .exact b.2.2 x z y g
 .exact h x z y g
def MInv.addB {k:Nat}(M:MInv lt xs ys ia ib o)(g:∀c∈(ys.toList.drop ib).take k,∀x∈xs.toList.drop ia,jI lt c x):MInv lt xs ys ia (ib+k) (o++(ys.toList.drop ib).take k):=by
 have e:ys.toList.drop ib=(ys.toList.drop ib).take k++ys.toList.drop (ib+k):=by rw[<- List.drop_drop,UK]
 have b:=M.a;have a:=M.b;have h:=M.pm;rw[e] at a h;rw[<- Uh] at a;refine⟨?_,a,?_⟩
 .rw[VH] at b a ⊢;refine⟨a.1,b.2.1,λx i y f=>?_⟩;rcases Jb.mp i with z|z
  .exact b.2.2 x z y f
  .exact g x z y f
 .exact by grind
def MInv.doneA (M:MInv lt xs ys ia ib o)(h:ys.size<=ib):zu lt xs ys (o++xs.toList.drop ia++ys.toList.drop ib):=by
 have e:=Vg ();refine⟨M.pm,?_⟩;rw[e,ZA];exact M.a
def MInv.doneB (M:MInv lt xs ys ia ib o)(h:xs.size<=ia):zu lt xs ys (o++xs.toList.drop ia++ys.toList.drop ib):=by
 refine⟨M.pm,?_⟩;rw[(Vg ()),ZA];exact M.b
def MInv.last (M:MInv lt xs ys ia ib o)(h:ia+1=xs.size)(a:∀y∈ys.toList,jI lt y (gx xs ia)):zu lt xs ys (o++ys.toList.drop ib++xs.toList.drop ia):=by
 have e:xs.toList.drop ia=[gx xs ia]:=by
  grind[WZ,List.drop_eq_nil_of_le]
 have b:=M.a;have c:=M.b;refine⟨Vx ?_ M.pm,?_⟩
 .grind
 grind
def MInv.one (W:Wk lt)(M:MInv lt xs ys ia ib o)(a:ib<ys.size)(b:ia<xs.size)(q:lt (gx ys ib) (gx xs ia)=true):MInv lt xs ys ia (ib+1) (o++[gx ys ib]):=by
 have e:(ys.toList.drop ib).take 1=[gx ys ib]:=by rw[WZ a];rfl
 have:=M.addB λc f x g=>by
  rw[e] at f;rw[Jd.mp f];have hs:=(VH.mp M.a).2.1;rw[WZ b] at g hs;rcases U0.mp g with z|z
  .rw[z];exact .inl q
  .exact jI.trans W (.inl q) ((Jh.mp hs).1 x z)
 simp_all
def MInv.two (W:Wk lt)(f:∀x∈xs.toList,∀y∈ys.toList,x<y)(M:MInv lt xs ys ia ib o)(a:ib<ys.size)(b:ia<xs.size)(q:lt (gx ys ib) (gx xs ia)=false):MInv lt xs ys (ia+1) ib (o++[gx xs ia]):=by
 have e:(xs.toList.drop ia).take 1=[gx xs ia]:=by rw[WZ b];rfl
 have r:jI lt (gx xs ia) (gx ys ib):=.inr ⟨q,f _ (Q8 b) _ (Q8 a)⟩;have:=M.addA λc g y h=>by
  rw[e] at g;rw[Jd.mp g];have hs:=(VH.mp M.b).2.1;rw[WZ a] at h hs;rcases U0.mp h with z|z
  .rwa [z]
  .exact jI.trans W r ((Jh.mp hs).1 y z)
 simp_all
end
def ar (it:Nat->Keyed)(o:Yj):Array Keyed:=(o.map it).toArray
section
variable {it:Nat->Keyed}{o:Yj}{xs ys:Yi}{i j k:Nat}
def EH {x:Nat}:(ar it o).push (it x)=ar it (o++[x]):=by simp[ar]
def ZY:(xs.map it).extract i j=ar it ((xs.toList.take j).drop i):=by
 apply Vj;simp[ar,List.drop_take]
def ZZ {p:Yj}:ar it o++ar it p=ar it (o++p):=by simp[ar]
def EI:(ar it o).reverse=ar it o.reverse:=by simp[ar]
def Aa {x:Nat} : #[it x]=ar it [x]:=by simp[ar]
def gS:(xs.toList.take (i+k)).drop i=(xs.toList.drop i).take k:=by simp_all [List.drop_take]
def NL:(xs.toList.take xs.size).drop i=xs.toList.drop i:=by rw[UV ()]
theorem gf:ar it o++(xs.map it).extract i xs.size++(ys.map it).extract j ys.size=ar it (o++xs.toList.drop i++ys.toList.drop j):=by
 simp_all [ZY,NL,ZZ]
theorem Xa (h:xs.toList.Pairwise R)(b:i<j)(a:j<xs.size):R (gx xs i) (gx xs j):=by
 have:=Ji.mp h i j (by simp;lia) (by simpa using a) b;unfold gx;rw[Uy (),Uy a];simpa using this
def BT {x:Nat}(h:x∈(xs.toList.drop i).take k):∃j,j<k/\i+j<xs.size/\x=gx xs (i+j):=by
 obtain⟨j,a,e⟩:=Jt.mp h;rw[Uv,List.length_drop] at a;have hz:i+j<xs.size:=by grind
 refine⟨j,(),hz,?_⟩
 simp_all [gx]
end
structure SEq (s t:SortSt):Prop where
 arr:arrOf t=arrOf s
 kd:kindOf t=kindOf s
 fl:failedOf t=failedOf s
 pd:pendingOf t=pendingOf s
theorem SEq.refl (s):SEq s s:=⟨rfl,rfl,rfl,rfl⟩
theorem SEq.trans {s t u:SortSt}(h:SEq s t)(k:SEq t u):SEq s u:=⟨k.arr.trans h.arr,k.kd.trans h.kd,k.fl.trans h.fl,k.pd.trans h.pd⟩
section
variable {lt:Yd}{xs ys:Yi}{ia ib m:Nat}{o:Yj}(W:Wk lt)
include W
theorem EJ {k:Nat}(a:xs.toList.Pairwise (jI lt)){n:Nat}(b:ia+n<=xs.size):∀i j,i<j->j<n->be lt false (gx xs (ia+j)) k=true->be lt false (gx xs (ia+i)) k=true:=λi j c e h=>by
 have h:(!lt k (gx xs (ia+j)))=true:=h;show(!lt k (gx xs (ia+i)))=true;cases q:lt k (gx xs (ia+i)) with
 |false=>rfl
 |true =>
  rcases W.neg _ (gx xs (ia+j)) _ q with z|z
  .simp_all
  grind[jI.no,Xa]
theorem EK {k:Nat}(a:xs.toList.Pairwise (jI lt)){n:Nat}(b:ia+n<=xs.size):∀i j,i<j->j<n->be lt true (gx xs (ia+j)) k=true->be lt true (gx xs (ia+i)) k=true:=λi j c e h=>by
 rcases W.neg _ (gx xs (ia+i)) _ h with z|z
 .grind[jI.no,Xa]
 .exact z
theorem MInv.galA (a:∀x∈xs.toList,∀y∈ys.toList,x<y)(n:ys.toList.Pairwise (jI lt))(M:MInv lt xs ys ia ib o)(b:ib<ys.size)(h:∀i,i<m->be lt false (gx xs (ia+i)) (gx ys ib)=true):MInv lt xs ys (ia+m) ib (o++(xs.toList.drop ia).take m):=by
 refine M.addA λc e y f=>?_;obtain⟨j,g,hz,rfl⟩:=BT e;obtain⟨l,p,s,rfl⟩:=EG f;have q:(!lt (gx ys ib) (gx xs (ia+j)))=true:=h j g;have q:lt (gx ys ib) (gx xs (ia+j))=false:=by simpa using q
 have r:jI lt (gx xs (ia+j)) (gx ys ib):=.inr ⟨q,a _ (Q8 hz) _ (Q8 b)⟩
 grind[jI.trans,Xa]
theorem MInv.galB (f:xs.toList.Pairwise (jI lt))(M:MInv lt xs ys ia ib o)(g:ia<xs.size)(h:∀i,i<m->be lt true (gx ys (ib+i)) (gx xs ia)=true):MInv lt xs ys ia (ib+m) (o++(ys.toList.drop ib).take m):=by
 refine M.addB λc a y b=>?_;obtain⟨j,e,hz,rfl⟩:=BT a;obtain⟨l,n,p,rfl⟩:=EG b;have r:jI lt (gx ys (ib+j)) (gx xs ia):=.inl (h j e)
 grind[jI.trans,Xa]
end
section
variable {prog:Program}{w:World}{A:Around}{E:Ya}{s:Shared}{kind:SortKind}{it:Nat->Keyed}{lt:Yd}{N:Nat}{st:SortSt}
structure MH (lt:Yd)(N:Nat)(xs ys:Yi):Prop where
 W:Wk lt
 xn:∀x∈xs.toList,x<N
 yn:∀y∈ys.toList,y<N
 hxy:∀x∈xs.toList,∀y∈ys.toList,x<y
 px:xs.toList.Pairwise (jI lt)
 py:ys.toList.Pairwise (jI lt)
abbrev G7 (α β γ: Type):=Option KA × α × β × γ × Nat×Nat×Nat
abbrev G6 (α β γ: Type):=Option KA × α × β × γ × Nat×Nat
abbrev G5 (α β γ: Type):=Option KA × α × β × γ × Nat
def Ab:Nat->SM PUnit:=sortPriv% PySem.Builtin.setMinGallop
def BU {m:Nat}{a:SortSt}{Q:PUnit->YB}(b:SEq a st)(h:∀s',SEq a s'->Q ⟨⟩ s'):YL prog w A E s (Ab m) Q st:=wpS_modify (h _ (b.trans ⟨rfl,rfl,rfl,rfl⟩))
section
variable {α β γ: Type}(n:Nat)(f:Nat -> α -> β -> γ -> Nat->Nat->SM (ForInStep (G6 α β γ)))(k:α -> β -> γ -> Nat->Nat->Nat->SM (ForInStep (G7 α β γ)))
noncomputable def mC (c:G7 α β γ):SM (ForInStep (G5 α β γ)):=match c.1 with
 |some r=>pure (.done (some r,c.2.1,c.2.2.1,c.2.2.2.1,c.2.2.2.2.1))
 |none=>Ab (c.2.2.2.2.1+1) >>= λ_=>pure (.yield (none,c.2.1,c.2.2.1,c.2.2.2.1,c.2.2.2.2.1+1))
noncomputable def m2 (x:α)(y:β)(z:γ)(mg ac bc:Nat):SM (ForInStep (G7 α β γ)):=if mg > 1 then k x y z ac bc (mg-1) else k x y z ac bc mg
noncomputable def mB (mg:Nat)(c:G6 α β γ):SM (ForInStep (G5 α β γ)):=match c.1 with
 |some r=>pure (.done (some r,c.2.1,c.2.2.1,c.2.2.2.1,mg))
 |none=>(liftM (rule "list.sort.gallop"):SM PUnit) >>= λ_=>(forIn [:n] ((none,c.2.1,c.2.2.1,c.2.2.2.1,mg+1,c.2.2.2.2.1,c.2.2.2.2.2):G7 α β γ) λ_ c=>m2 k c.2.1 c.2.2.1 c.2.2.2.1 c.2.2.2.2.1 c.2.2.2.2.2.1 c.2.2.2.2.2.2) >>= mC
noncomputable def mA (c:G5 α β γ):SM (ForInStep (G5 α β γ)):=
 (forIn [:n] ((none,c.2.1,c.2.2.1,c.2.2.2.1,0,0):G6 α β γ) λ_ d=>f c.2.2.2.2 d.2.1 d.2.2.1 d.2.2.2.1 d.2.2.2.2.1 d.2.2.2.2.2) >>= mB n k c.2.2.2.2
noncomputable def mT (x:α)(y:β)(z:γ):SM KA:=get >>= λs=>(forIn [:n] ((none,x,y,z,gallopOf s):G5 α β γ) λ_ c=>mA n f k c) >>= λc=>match c.1 with
 |some r=>pure r
 |none=>liftM (unsupported "internal:list.sort.merge-bound")
variable {n f k}{P:Nat -> α -> β -> γ -> Prop}{D:KA->Prop}
structure MR (P:α -> β -> γ -> Prop)(D:KA->Prop)(st0:SortSt)(R:ForInStep (G7 α β γ)->YB):Prop where
 dn:∀{v t sy},SEq st0 sy->D v->R (.done (some v,t)) sy
 go:∀{x y z mg ac bc sy},SEq st0 sy->P x y z->R (.done (none,x,y,z,mg,ac,bc)) sy/\R (.yield (none,x,y,z,mg,ac,bc)) sy
def dy {x:α}{y:β}{z:γ}{mg ac bc:Nat}{R:ForInStep (G7 α β γ)->YB}(h:∀mg,YL prog w A E s (k x y z ac bc mg) R st):YL prog w A E s (m2 k x y z mg ac bc) R st:=wi (λ_=>h _) λ_=>h _
def rq {x:α}{y:β}{z:γ}{Q:KA->YB}(m:kindOf st=kind)(o:P 1 x y z)(q:∀{g x y z},P g x y z->1<=n/\g<=n)(le:∀{g l x y z},P g x y z->l<=g->P l x y z)
 (r:∀{g mg x y z ac bc st} {R:ForInStep (G6 α β γ)->YB},kindOf st=kind->P g x y z->(∀{v t},D v->R (.done (some v,t)) st)->(∀{x y z ac bc},P (g+1) x y z->R (.done (none,x,y,z,ac,bc)) st/\R (.yield (none,x,y,z,ac,bc)) st)->YL prog w A E s (f mg x y z ac bc) R st)
 (u:∀{g x y z ac bc mg i R},MR (P g) D st R->SEq st i->P g x y z->YL prog w A E s (k x y z ac bc mg) R i)
 (h:∀{v i},SEq st i->D v->Q v i):YL prog w A E s (mT n f k x y z) Q st:=by
 refine Yo (wpS_get (Yo (Yq (Yr (I:=λg c j=>SEq st j/\c.1=none/\P (g+1) c.2.1 c.2.2.1 c.2.2.2.1) (Q:=λc j=>SEq st j/\∃v,D v/\c.1=some v) ?_ ?_ ⟨.refl _,rfl,o⟩) ?_)))
 .rintro g c j _ _ ⟨a,_,p⟩;refine Yo (Yq (Yr (I:=λy c b=>b=j/\c.1=none/\P (g+1+y) c.2.1 c.2.2.1 c.2.2.2.1) (Q:=λc b=>b=j/\((∃v,D v/\c.1=some v)\/c.1=none/\P (g+2) c.2.1 c.2.2.1 c.2.2.2.1)) ?_ ?_ ⟨rfl,rfl,p⟩) ?_)
  .rintro y c b _ _ ⟨rfl,_,p⟩;exact r (a.kd.trans m) p (λd=>⟨rfl,.inl ⟨_,d,rfl⟩⟩) λp=>⟨⟨rfl,.inr ⟨rfl,le p ()⟩⟩,rfl,rfl,p⟩
  .rintro c b ⟨rfl,e,p⟩;exact()
  .rintro c b ⟨rfl,⟨v,d,e⟩|⟨e,p⟩⟩
   .unfold mB;rw[e];exact Yp ⟨a,v,d,rfl⟩
   .unfold mB;rw[e];refine Yo (wpS_lift (wpAny_rule ⟨rfl,?_⟩));refine Yo (Yq (Yr (I:=λ_ c b=>SEq st b/\c.1=none/\P (g+2) c.2.1 c.2.2.1 c.2.2.2.1) (Q:=λc b=>SEq st b/\((∃v,D v/\c.1=some v)\/c.1=none/\P (g+2) c.2.1 c.2.2.1 c.2.2.2.1)) ?_ (λc b h=>⟨h.1,.inr h.2⟩) ⟨a,rfl,p⟩) ?_)
    .rintro y c b _ _ ⟨a,_,p⟩;exact dy λ_=>u ⟨λa d=>⟨a,.inl ⟨_,d,rfl⟩⟩,λa p=>⟨⟨a,.inr ⟨rfl,p⟩⟩,a,rfl,p⟩⟩ a p
    .rintro c b ⟨a,⟨v,d,e⟩|⟨e,p⟩⟩
     .unfold mC;rw[e];exact Yp ⟨a,v,d,rfl⟩
     .unfold mC;rw[e];exact Yo (BU a λb a=>Yp ⟨a,rfl,p⟩)
 .rintro c j ⟨_,_,p⟩;have:=(q p).2;lia
 grind[PyProof.Rows.wpS_pure]
end
theorem sz {a:Yi}:(a.map it).size=a.size:=Uj
def bz {a:Yi}{p:Nat}(h:(p == (a.map it).size)=true):p=a.size:=()
def nz {a:Yi}{p:Nat}(h:¬(p == (a.map it).size)=true):p≠a.size:=()
def wR {v:KA}{o:Yj}{x:Nat}(e:v=ar it o):v.push (it x)=ar it (o++[x]):=by rw[e,EH]
def zI {a:Yi}{v:KA}{o:Yj}{i k:Nat}(e:v=ar it o):v++(a.map it).extract i (i+k)=ar it (o++(a.toList.drop i).take k):=by rw[e,ZY,gS,ZZ]
def MD (lt:Yd)(it:Nat->Keyed)(a ys:Yi)(v:KA):Prop:=∃o,zu lt a ys o/\v=ar it o
abbrev L7:=G7 KA Nat Nat
def zY (a b o:KA)(i j:Nat):KA:=o++a.extract i a.size++b.extract j b.size
def v1 (a b o:KA)(i j:Nat):KA:=o++b.extract j b.size++a.extract i a.size
noncomputable def m6 (a b:KA)(mg ac bc i:Nat)(o:KA)(j:Nat):SM (ForInStep L7):=
 elem' a i >>= λx=>if(i+1+1 == a.size)=true then pure (.done (some (v1 a b (o.push x) (i+1) j),o.push x,i+1,j,mg,ac,bc))
  else if(decide (ac<7)&&decide (bc<7))=true then pure (.done (none,o.push x,i+1,j,mg,ac,bc)) else pure (.yield (none,o.push x,i+1,j,mg,ac,bc))
noncomputable def rx (a b:KA)(mg ac i:Nat)(o:KA)(j k:Nat):SM (ForInStep L7):=
 if k > 0 then if(j+k == b.size)=true then pure (.done (some (zY a b (o++b.extract j (j+k)) i (j+k)),o++b.extract j (j+k),i,j+k,mg,ac,k))
  else m6 a b mg ac k i (o++b.extract j (j+k)) (j+k) else m6 a b mg ac k i o j
noncomputable def m7 (a b:KA)(mg ac bc j:Nat)(o:KA)(i:Nat):SM (ForInStep L7):=
 elem' b j >>= λx=>if(j+1 == b.size)=true then pure (.done (some (zY a b (o.push x) i (j+1)),o.push x,i,j+1,mg,ac,bc))
  else elem' a i >>= λy=>Wh true y b (j+1) (b.size-(j+1)) 0 >>= λr=>match r with
   |some k=>rx a b mg ac i (o.push x) (j+1) k
   |_=>pure (.done (some (zY a b (o.push x) i (j+1)),o.push x,i,j+1,mg,ac,bc))
noncomputable def dz (a b:KA)(bc j:Nat)(o:KA)(i mg k:Nat):SM (ForInStep L7):=
 if k > 0 then if(i+k+1 == a.size)=true then pure (.done (some (v1 a b (o++a.extract i (i+k)) (i+k) j),o++a.extract i (i+k),i+k,j,mg,k,bc))
  else if(i+k == a.size)=true then pure (.done (some (zY a b (o++a.extract i (i+k)) (i+k) j),o++a.extract i (i+k),i+k,j,mg,k,bc))
  else m7 a b mg k bc j (o++a.extract i (i+k)) (i+k) else m7 a b mg k bc j o i
noncomputable def rz (a b o:KA)(i j ac bc mg:Nat):SM (ForInStep L7):=
 Ab mg >>= λ_=>elem' b j >>= λx=>Wh false x a i (a.size-i) 0 >>= λr=>match r with
  |some k=>dz a b bc j o i mg k
  |_=>pure (.done (some (zY a b o i j),o,i,j,mg,ac,bc))
noncomputable def wq (a b:KA)(mg:Nat)(o:KA)(i j ac bc:Nat):SM (ForInStep (G6 KA Nat Nat)):=
 elem' b j >>= λx=>elem' a i >>= λy=>lt' x y >>= λr=>match r with
  |some t=>if t=true then elem' b j >>= λx=>if(j+1 == b.size)=true then pure (.done (some (zY a b (o.push x) i (j+1)),o.push x,i,j+1,0,bc+1))
   else if bc+1 ≥ mg then pure (.done (none,o.push x,i,j+1,0,bc+1)) else pure (.yield (none,o.push x,i,j+1,0,bc+1))
   else elem' a i >>= λx=>if(i+1+1 == a.size)=true then pure (.done (some (v1 a b (o.push x) (i+1) j),o.push x,i+1,j,ac+1,0))
    else if ac+1 ≥ mg then pure (.done (none,o.push x,i+1,j,ac+1,0)) else pure (.yield (none,o.push x,i+1,j,ac+1,0))
  |_=>pure (.done (some (zY a b o i j),o,i,j,ac,bc))
set_option smartUnfolding false in
noncomputable def kf {a b:KA}:BR a b=((liftM (rule "list.sort.merge-lo"):SM PUnit) >>= λ_=>elem' b 0 >>= λx=>if(1 == b.size)=true then pure (zY a b #[x] 0 1) else if(0+1 == a.size)=true then pure (v1 a b #[x] 0 1)
 else mT (a.size+b.size) (wq a b) (rz a b) #[x] 0 1):=rfl
end
structure LI (lt:Yd)(xs ys:Yi)(g i j:Nat)(o:Yj):Prop where
 M:MInv lt xs ys i j o
 a:i+1<xs.size
 b:j<ys.size
 g:g<=i+j
def LP (lt:Yd)(it:Nat->Keyed)(a ys:Yi)(g:Nat)(v:KA)(i j:Nat):Prop:=∃o,LI lt a ys g i j o/\v=ar it o
section
variable {prog:Program}{w:World}{A:Around}{E:Ya}{s:Shared}{kind:SortKind}{it:Nat->Keyed}{lt:Yd}{N:Nat}{st st0:SortSt}{xs ys:Yi}{g mg ac bc i j k:Nat}{o:Yj}{v:KA}{R:ForInStep L7->YB}
def XN (e:v=ar it o):zY (xs.map it) (ys.map it) v i j=ar it (o++xs.toList.drop i++ys.toList.drop j):=by
 grind[zY,sz,gf]
def Ac (e:v=ar it o):v1 (xs.map it) (ys.map it) v i j=ar it (o++ys.toList.drop j++xs.toList.drop i):=by
 grind[v1,sz,gf]
variable (lst:∀y∈ys.toList,jI lt y (gx xs (xs.size-1)))
include lst
theorem fS (M:MInv lt xs ys i j o)(z:i+1=xs.size):zu lt xs ys (o++ys.toList.drop j++xs.toList.drop i):=M.last z ()
variable (H:MH lt N xs ys)(L:LI lt xs ys g i j o)(e:v=ar it o)
include H L e
section
variable (C:MR (LP lt it xs ys g) (MD lt it xs ys) st0 R)(se:SEq st0 st)
include C se
theorem kg (q:lt (gx ys j) (gx xs i)=false):YL prog w A E s (m6 (xs.map it) (ys.map it) mg ac bc i v j) R st:=by
 have a:=UW L.a;refine Yo (Qv a ?_);have M2:=L.M.two H.W H.hxy L.b a q;refine wi (λz=>Yp (C.dn se ⟨_,fS lst M2 (bz z),Ac (wR e)⟩)) λz=>?_;have b:=C.go (mg:=mg) (ac:=ac) (bc:=bc) se ⟨_,⟨M2,UA L.a (nz z),L.b,by have:=L.g;lia⟩,wR e⟩;exact wi (λ_=>Yp b.1) λ_=>Yp b.2
theorem my (k2:j+k<=ys.size)(k3:∀m,m<k->be lt true (gx ys (j+m)) (gx xs i)=true)(q:j+k<ys.size->lt (gx ys (j+k)) (gx xs i)=false):YL prog w A E s (rx (xs.map it) (ys.map it) mg ac i v j k) R st:=by
 refine wi (λk0=>?_) λk0=>?_
 .have a:=L.M.galB H.W H.px (UW L.a) k3;refine wi (λz=>Yp (C.dn se ⟨_,a.doneA (Yx (bz z).symm),XN (zI e)⟩)) λz=>?_;have b:=UA k2 (nz z);exact kg lst H ⟨a,L.a,b,by have:=L.g;lia⟩ (zI e) C se (q b)
 .have c:=Nat.eq_zero_of_not_pos k0;subst c;exact kg lst H L e C se (q L.b)
variable (O:xY prog w A s kind it lt N)(kd:kindOf st0=kind)
include O kd
theorem kh (q:lt (gx ys j) (gx xs i)=true):YL prog w A E s (m7 (xs.map it) (ys.map it) mg ac bc j v i) R st:=by
 have a:=UW L.a;refine Yo (Qv L.b ?_);have c:=L.M.one H.W L.b a q;refine wi (λz=>Yp (C.dn se ⟨_,c.doneA (),XN (wR e)⟩)) λz=>?_;have b:=UA L.b (nz z);have z:(ys.map it).size=ys.size:=sz;exact Yo (Qv a (Yo (WY O (se.kd.trans kd) (H.xn _ (Q8 a)) () (λi h=>H.yn _ (Q8 ())) () (EK H.W H.py ()) λk k2 k3 f=>(my lst H ⟨c,L.a,b,by have:=L.g;lia⟩ (wR e) C se () k3 λy=>f k (Zf _) ()))))
theorem mz:YL prog w A E s (rz (xs.map it) (ys.map it) v i j ac bc mg) R st:=by
 have a:=L.a;have z:(xs.map it).size=xs.size:=sz;refine Yo (BU se λst se=>Yo (Qv L.b (Yo (WY O (se.kd.trans kd) (H.yn _ (Q8 L.b)) () (λi h=>H.xn _ (Q8 ())) () (EJ H.W H.px ()) λk k2 k3 f=>?_))));have q:=λhz=>by
  have:(!lt (gx ys j) (gx xs (i+k)))=false:=f k (Zf _) ();simpa using this
 refine wi (λk0=>?_) λk0=>?_
 .have M2:=L.M.galA H.W H.hxy H.py L.b k3;refine wi (λz=>Yp (C.dn se ⟨_,fS lst M2 (bz z),Ac (zI e)⟩)) λb=>wi (λz=>Yp (C.dn se ⟨_,M2.doneB (),XN (zI e)⟩)) λc=>?_;have b:=nz b;have c:=nz c;exact kh lst H ⟨M2,(),L.b,by have:=L.g;lia⟩ (zI e) C se O kd (q ())
 grind[kh]
end
theorem m5 {R:ForInStep (G6 KA Nat Nat)->YB}(O:xY prog w A s kind it lt N)(f:kindOf st=kind)(c:∀{v t},MD lt it xs ys v->R (.done (some v,t)) st)(go:∀{v i j ac bc},LP lt it xs ys (g+1) v i j->R (.done (none,v,i,j,ac,bc)) st/\R (.yield (none,v,i,j,ac,bc)) st):
 YL prog w A E s (wq (xs.map it) (ys.map it) mg v i j ac bc) R st:=by
 have a:=UW L.a;refine Yo (Qv L.b (Yo (Qv a (Yo (XM O f (H.yn _ (Q8 L.b)) (H.xn _ (Q8 a)) (wi (λq=>Yo (Qv L.b ?_)) λq=>Yo (Qv a ?_)))))))
 .have M2:=L.M.one H.W L.b a q;refine wi (λz=>Yp (c ⟨_,M2.doneA (),XN (wR e)⟩)) λz=>?_;have b:=go (ac:=0) (bc:=bc+1) ⟨_,⟨M2,L.a,UA L.b (nz z),Vy L.g⟩,wR e⟩;exact wi (λ_=>Yp b.1) λ_=>Yp b.2
 .have M2:=L.M.two H.W H.hxy L.b a ();refine wi (λz=>Yp (c ⟨_,fS lst M2 (bz z),Ac (wR e)⟩)) λz=>?_;have b:=go (ac:=ac+1) (bc:=0) ⟨_,⟨M2,UA L.a (nz z),L.b,by have:=L.g;lia⟩,wR e⟩;exact wi (λ_=>Yp b.1) λ_=>Yp b.2
end
section
variable {prog:Program}{w:World}{A:Around}{E:Ya}{s:Shared}{kind:SortKind}{it:Nat->Keyed}{lt:Yd}{N:Nat}{st:SortSt}{xs ys:Yi}
def NM {Q:Array Keyed->YB}(H:MH lt N xs ys)(O:xY prog w A s kind it lt N)(b:kindOf st=kind)(l:1<=xs.size)(f:1<=ys.size)(c:lt (gx ys 0) (gx xs 0)=true)(lst:∀y∈ys.toList,jI lt y (gx xs (xs.size-1)))
 (h:∀o a,SEq st a->zu lt xs ys o->Q (ar it o) a):YL prog w A E s (BR (xs.map it) (ys.map it)) Q st:=by
 have M1:MInv lt xs ys 0 1 [gx ys 0]:=(MInv.one (o:=[]) (ia:=0) (ib:=0) H.W ⟨H.px,H.py,Vz _⟩ f l c);rw[kf];refine Yo (wpS_lift (wpAny_rule ⟨rfl,Yo (Qv f (wi (λz=>?_) λg=>wi (λz=>?_) λi=>?_))⟩))
 .rw[XN Aa];exact Yp (h _ _ (.refl _) (M1.doneA ()))
 .rw[Ac Aa];exact Yp (h _ _ (.refl _) (fS lst M1 (bz z)))
 have g:=nz g;have i:=nz i;have n:LI lt xs ys 1 0 1 [gx ys 0]:=⟨M1,(),(),()⟩;have q:(xs.map it).size=xs.size:=sz;have r:(ys.map it).size=ys.size:=sz;exact rq (P:=LP lt it xs ys) b ⟨_,n,Aa⟩ (λp=>by
  obtain⟨_,L,_⟩:=p;have:=L.a;have:=L.b;have:=L.g;lia) (λ⟨o,L,e⟩ h=>⟨o,⟨L.M,L.a,L.b,Zh h L.g⟩,e⟩) (λb ⟨_,L,e⟩ dn go=>m5 lst H L e O b dn go) (λC j ⟨_,L,e⟩=>mz lst H L e C j O b) λj ⟨o,m,e⟩=>by simp_all
end
structure MInvH (lt:Yd)(xs ys:Yi)(na nb:Nat)(o:Yj):Prop where
 a:(xs.toList.take na++o).Pairwise (jI lt)
 b:(ys.toList.take nb++o).Pairwise (jI lt)
 pm:(xs.toList.take na++ys.toList.take nb++o).Perm (xs.toList++ys.toList)
section
variable {it:Nat->Keyed}{o:Yj}{xs ys:Yi}{i j k:Nat}
def NN {x:Nat}:(ar it o.reverse).push (it x)=ar it (x::o).reverse:=by rw[EH,List.reverse_cons]
def NO {p:Yj}:ar it o.reverse++(ar it p).reverse=ar it (p++o).reverse:=by rw[EI,ZZ,List.reverse_append]
def mP:(xs.map it).extract 0 i++(ys.map it).extract 0 j++(ar it o.reverse).reverse=ar it (xs.toList.take i++ys.toList.take j++o):=by
 simp_all [ZY,EI,ZZ]
def EL (h:i<=j):xs.toList.take j=xs.toList.take i++(xs.toList.take j).drop i:=by
 grind[List.take_append_drop]
def BV {x:Nat}(h:x∈(xs.toList.take j).drop i):∃l,i<=l/\l<j/\l<xs.size/\x=gx xs l:=by
 obtain⟨m,a,e⟩:=Jt.mp h;rw[List.length_drop,Uv] at a;have hz:i+m<xs.size:=by grind
 refine⟨i+m,(),(),hz,?_⟩
 simp_all [gx]
def BW (h:j<=xs.size)(a:1<=j):(xs.toList.take j).drop (j-1)=[gx xs (j-1)]:=by
 grind[List.drop_take,WZ]
def EM {x:Nat}(h:x∈xs.toList.take j):∃l,l<j/\l<xs.size/\x=gx xs l:=have ⟨l,_,a,b,c⟩:=BV (i:=0) ();⟨l,a,b,c⟩
end
section
variable {lt:Yd}{xs ys:Yi}{na nb m:Nat}{o:Yj}
def MInvH.addA (M:MInvH lt xs ys na nb o)(f:m<=na)(g:∀c∈(xs.toList.take na).drop m,∀y∈ys.toList.take nb,jI lt y c):MInvH lt xs ys m nb ((xs.toList.take na).drop m++o):=by
 have a:=M.a;have b:=M.b;have h:=M.pm;rw[(EL f)] at a h;rw[Uh] at a;refine⟨a,?_,?_⟩
 .rw[VH] at a b ⊢;refine⟨b.1,a.2.1,λy e x i=>?_⟩;rcases Jb.mp i with z|z
  .exact g x z y e
  .exact b.2.2 y e x z
 grind
def MInvH.addB (M:MInvH lt xs ys na nb o)(f:m<=nb)(g:∀c∈(ys.toList.take nb).drop m,∀x∈xs.toList.take na,jI lt x c):MInvH lt xs ys na m ((ys.toList.take nb).drop m++o):=by
 have b:=M.a;have a:=M.b;have h:=M.pm;rw[(EL f)] at a h;rw[Uh] at a;refine⟨?_,a,?_⟩
 .rw[VH] at b a ⊢;refine⟨b.1,a.2.1,λy e x i=>?_⟩;rcases Jb.mp i with z|z
  .exact g x z y e
  .exact b.2.2 y e x z
 simp_all
def MInvH.doneA (M:MInvH lt xs ys na nb o)(h:na=0):zu lt xs ys (xs.toList.take na++ys.toList.take nb++o):=by
 refine⟨M.pm,?_⟩;rw[h,List.take_zero,List.nil_append];exact M.b
def MInvH.doneB (M:MInvH lt xs ys na nb o)(h:nb=0):zu lt xs ys (xs.toList.take na++ys.toList.take nb++o):=by
 refine⟨M.pm,?_⟩;rw[h,List.take_zero,ZA];exact M.a
def MInvH.first (M:MInvH lt xs ys na nb o)(h:nb=1)(a:1<=ys.size)(b:∀x∈xs.toList,jI lt (gx ys 0) x):zu lt xs ys (ys.toList.take nb++xs.toList.take na++o):=by
 have c:=M.a;have f:=M.b;have e:ys.toList.take 1=[gx ys 0]:=by
  have:=BW a (Zf _)
  simp_all
 refine⟨Vx () M.pm,?_⟩
 grind
variable (W:Wk lt)
include W
theorem MInvH.galA (n:ys.toList.Pairwise (jI lt))(M:MInvH lt xs ys na nb o)(a:m<=na)(b1:1<=nb)(p:nb<=ys.size)(h:∀i,m<=i->i<na->lt (gx ys (nb-1)) (gx xs i)=true):MInvH lt xs ys m nb ((xs.toList.take na).drop m++o):=by
 refine M.addA a λc b y e=>?_;obtain⟨j,f,g,q,rfl⟩:=BV b;obtain⟨l,s,t,rfl⟩:=EM e;have r:jI lt (gx ys (nb-1)) (gx xs j):=.inl (h j f g)
 grind[jI.trans,Xa]
theorem MInvH.galB (a:∀x∈xs.toList,∀y∈ys.toList,x<y)(q:xs.toList.Pairwise (jI lt))(M:MInvH lt xs ys na nb o)(b:m<=nb)(s:1<=na)(t:na<=xs.size)(h:∀i,m<=i->i<nb->lt (gx ys i) (gx xs (na-1))=false):MInvH lt xs ys na m ((ys.toList.take nb).drop m++o):=by
 refine M.addB b λc e x f=>?_;obtain⟨j,g,n,p,rfl⟩:=BV e;obtain⟨l,u,v,rfl⟩:=EM f;have r:jI lt (gx xs (na-1)) (gx ys j):=.inr ⟨h j g n,a _ (Q8 ()) _ (Q8 p)⟩
 grind[jI.trans,Xa]
theorem MInvH.one (a:ys.toList.Pairwise (jI lt))(M:MInvH lt xs ys na nb o)(b:1<=na)(c:na<=xs.size)(b1:1<=nb)(e:nb<=ys.size)(q:lt (gx ys (nb-1)) (gx xs (na-1))=true):MInvH lt xs ys (na-1) nb (gx xs (na-1)::o):=by
 have:=M.galA (m:=na-1) W a () b1 e ()
 rwa [BW c b] at this
theorem MInvH.two (a:∀x∈xs.toList,∀y∈ys.toList,x<y)(b:xs.toList.Pairwise (jI lt))(M:MInvH lt xs ys na nb o)(c:1<=na)(e:na<=xs.size)(b1:1<=nb)(f:nb<=ys.size)(q:lt (gx ys (nb-1)) (gx xs (na-1))=false):MInvH lt xs ys na (nb-1) (gx ys (nb-1)::o):=by
 have:=M.galB (m:=nb-1) W a b () c e ()
 rwa [BW f b1] at this
end
abbrev H7:=G7 Nat Nat KA
def yT (a b:KA)(i j:Nat)(o:KA):KA:=a.extract 0 i++b.extract 0 j++o.reverse
noncomputable def mH (a b:KA)(mg ac bc i j:Nat)(o:KA):SM (ForInStep H7):=
 elem' a (i-1) >>= λx=>if(i-1 == 0)=true then pure (.done (some (yT a b (i-1) j (o.push x)),i-1,j,o.push x,mg,ac,bc))
  else if(decide (ac<7)&&decide (bc<7))=true then pure (.done (none,i-1,j,o.push x,mg,ac,bc)) else pure (.yield (none,i-1,j,o.push x,mg,ac,bc))
noncomputable def r8 (a b:KA)(mg ac i j:Nat)(o:KA)(t:Nat):SM (ForInStep H7):=
 if j-t > 0 then if(t == 1)=true then pure (.done (some (yT b a t i (o++(b.extract t j).reverse)),i,t,o++(b.extract t j).reverse,mg,ac,j-t))
  else if(t == 0)=true then pure (.done (some (yT a b i t (o++(b.extract t j).reverse)),i,t,o++(b.extract t j).reverse,mg,ac,j-t))
  else mH a b mg ac (j-t) i t (o++(b.extract t j).reverse) else mH a b mg ac (j-t) i j o
noncomputable def mI (a b:KA)(mg ac bc j i:Nat)(o:KA):SM (ForInStep H7):=
 elem' b (j-1) >>= λx=>if(j-1 == 1)=true then pure (.done (some (yT b a (j-1) i (o.push x)),i,j-1,o.push x,mg,ac,bc))
  else elem' a (i-1) >>= λy=>Wh true y b 0 (j-1) (j-1-1) >>= λr=>match r with
   |some t=>r8 a b mg ac i (j-1) (o.push x) t
   |_=>pure (.done (some (yT a b i (j-1) (o.push x)),i,j-1,o.push x,mg,ac,bc))
noncomputable def d7 (a b:KA)(bc j i:Nat)(o:KA)(mg t:Nat):SM (ForInStep H7):=
 if i-t > 0 then if(t == 0)=true then pure (.done (some (yT a b t j (o++(a.extract t i).reverse)),t,j,o++(a.extract t i).reverse,mg,i-t,bc))
  else mI a b mg (i-t) bc j t (o++(a.extract t i).reverse) else mI a b mg (i-t) bc j i o
noncomputable def r9 (a b:KA)(i j:Nat)(o:KA)(ac bc mg:Nat):SM (ForInStep H7):=
 Ab mg >>= λ_=>elem' b (j-1) >>= λx=>Wh false x a 0 i (i-1) >>= λr=>match r with
  |some t=>d7 a b bc j i o mg t
  |_=>pure (.done (some (yT a b i j o),i,j,o,mg,ac,bc))
noncomputable def rA (a b:KA)(mg i j:Nat)(o:KA)(ac bc:Nat):SM (ForInStep (G6 Nat Nat KA)):=
 elem' b (j-1) >>= λx=>elem' a (i-1) >>= λy=>lt' x y >>= λr=>match r with
  |some t=>if t=true then elem' a (i-1) >>= λx=>if(i-1 == 0)=true then pure (.done (some (yT a b (i-1) j (o.push x)),i-1,j,o.push x,ac+1,0))
   else if ac+1 ≥ mg then pure (.done (none,i-1,j,o.push x,ac+1,0)) else pure (.yield (none,i-1,j,o.push x,ac+1,0))
   else elem' b (j-1) >>= λx=>if(j-1 == 1)=true then pure (.done (some (yT b a (j-1) i (o.push x)),i,j-1,o.push x,0,bc+1))
    else if bc+1 ≥ mg then pure (.done (none,i,j-1,o.push x,0,bc+1)) else pure (.yield (none,i,j-1,o.push x,0,bc+1))
  |_=>pure (.done (some (yT a b i j o),i,j,o,ac,bc))
set_option smartUnfolding false in
noncomputable def kt {a b:KA}:BS a b=((liftM (rule "list.sort.merge-hi"):SM PUnit) >>= λ_=>elem' a (a.size-1) >>= λx=>if(a.size-1 == 0)=true then pure (yT a b (a.size-1) b.size #[x]) else if(b.size == 1)=true then pure (yT b a b.size (a.size-1) #[x])
 else mT (a.size+b.size) (rA a b) (r9 a b) (a.size-1) b.size #[x]):=rfl
structure HI (lt:Yd)(xs ys:Yi)(g i j:Nat)(o:Yj):Prop where
 M:MInvH lt xs ys i j o
 a:1<=i
 b:2<=j
 ax:i<=xs.size
 bx:j<=ys.size
 g:g+i+j<=xs.size+ys.size
def HL (lt:Yd)(it:Nat->Keyed)(a ys:Yi)(g i j:Nat)(v:KA):Prop:=∃o,HI lt a ys g i j o/\v=ar it o.reverse
section
variable {prog:Program}{w:World}{A:Around}{E:Ya}{s:Shared}{kind:SortKind}{it:Nat->Keyed}{lt:Yd}{N:Nat}{st st0:SortSt}{xs ys:Yi}{g mg ac bc i j k t:Nat}{o:Yj}{v:KA}{R:ForInStep H7->YB}
def Um (e:v=ar it o.reverse):yT (xs.map it) (ys.map it) i j v=ar it (xs.toList.take i++ys.toList.take j++o):=by
 unfold yT;rw[e,mP]
def yu {x:Nat}(e:v=ar it o.reverse):v.push (it x)=ar it (x::o).reverse:=by rw[e,NN]
def zJ (e:v=ar it o.reverse):v++((xs.map it).extract t i).reverse=ar it ((xs.toList.take i).drop t++o).reverse:=by rw[e,ZY,NO]
variable (fst:∀x∈xs.toList,jI lt (gx ys 0) x)(H:MH lt N xs ys)(L:HI lt xs ys g i j o)(e:v=ar it o.reverse)
include fst H L e
section
variable (C:MR (HL lt it xs ys g) (MD lt it xs ys) st0 R)(se:SEq st0 st)
include C se
theorem ku (q:lt (gx ys (j-1)) (gx xs (i-1))=true):YL prog w A E s (mH (xs.map it) (ys.map it) mg ac bc i j v) R st:=by
 have a:=L.a;have c:=L.ax;refine Yo (Qv () ?_);have M2:=L.M.one H.W H.py a c (Uw L.b) L.bx q;refine wi (λz=>Yp (C.dn se ⟨_,M2.doneA (Ys.mp z),Um (yu e)⟩)) λz=>?_;have b:=C.go (mg:=mg) (ac:=ac) (bc:=bc) se ⟨_,⟨M2,(),L.b,(),L.bx,by have:=L.g;lia⟩,yu e⟩;exact wi (λ_=>Yp b.1) λ_=>Yp b.2
theorem mE (f:t<=j)(p:∀m,t<=m->m<j->lt (gx ys m) (gx xs (i-1))=false)(q:1<=t->lt (gx ys (t-1)) (gx xs (i-1))=true):YL prog w A E s (r8 (xs.map it) (ys.map it) mg ac i j v t) R st:=by
 have b:=L.b;have c:=L.bx;refine wi (λk0=>?_) λk0=>?_
 .have a:=L.M.galB H.W H.hxy H.px f L.a L.ax p;refine wi (λz=>Yp (C.dn se ⟨_,a.first (Ys.mp z) () fst,Um (zJ e)⟩)) λh=>wi (λz=>Yp (C.dn se ⟨_,a.doneB (Ys.mp z),Um (zJ e)⟩)) λl=>?_;have n:2<=t:=by
   have h:t≠1:=λy=>h (Ys.mpr y);have l:t≠0:=λy=>l (Ys.mpr y);lia
  exact ku fst H ⟨a,L.a,n,L.ax,Zh f c,by have:=L.g;lia⟩ (zJ e) C se (q (Uw n))
 .have r:t=j:=()
  subst r;exact ku fst H L e C se (q (Uw b))
variable (O:xY prog w A s kind it lt N)(kd:kindOf st0=kind)
include O kd
theorem ky (q:lt (gx ys (j-1)) (gx xs (i-1))=false):YL prog w A E s (mI (xs.map it) (ys.map it) mg ac bc j i v) R st:=by
 have a:=L.a;have b:=L.b;have c:=L.bx;have f:=L.ax;refine Yo (Qv () ?_);have h:=L.M.two H.W H.hxy H.px a f (Uw b) c q;refine wi (λz=>Yp (C.dn se ⟨_,h.first (Ys.mp z) () fst,Um (yu e)⟩)) λz=>?_;have z:j-1≠1:=λy=>z (Ys.mpr y);have p:i-1<xs.size:=()
 refine Yo (Qv p (Yo (WY O (se.kd.trans kd) (H.xn _ (Q8 p)) () (λi r=>H.yn _ (Q8 ())) () (EK H.W H.py ()) λt n l m=>?_)));simp at l m;exact mE fst H ⟨h,a,(),f,(),by have:=L.g;lia⟩ (yu e) C se n m λy=>l (t-1) (Nat.sub_lt y Yw)
theorem mF:YL prog w A E s (r9 (xs.map it) (ys.map it) i j v ac bc mg) R st:=by
 have a:=L.a;have b:=L.b;have c:=L.bx;have n:=L.ax;have p:j-1<ys.size:=()
 refine Yo (BU se λst se=>Yo (Qv p (Yo (WY O (se.kd.trans kd) (H.yn _ (Q8 p)) () (λi B=>H.xn _ (Q8 ())) () (EJ H.W H.px ()) λt f h l=>?_))));simp at h l;have q:=λhz=>by
  have:(!lt (gx ys (j-1)) (gx xs (t-1)))=true:=h (t-1) (Nat.sub_lt hz Yw);simpa using this
 refine wi (λk0=>?_) λk0=>?_
 .have M2:=L.M.galA H.W H.py f (Uw b) c λi r u=>by
   have:(!lt (gx ys (j-1)) (gx xs i))=false:=l i r u;simpa using this
  refine wi (λz=>Yp (C.dn se ⟨_,M2.doneA (Ys.mp z),Um (zJ e)⟩)) λz=>?_;have m:=Nat.pos_of_ne_zero λy=>z (Ys.mpr y);exact ky fst H ⟨M2,m,b,Zh f n,c,by have:=L.g;lia⟩ (zJ e) C se O kd (q m)
 .have x:t=i:=()
  subst x;exact ky fst H L e C se O kd (q a)
end
theorem mG {R:ForInStep (G6 Nat Nat KA)->YB}(O:xY prog w A s kind it lt N)(p:kindOf st=kind)(n:∀{v t},MD lt it xs ys v->R (.done (some v,t)) st)(go:∀{i j v ac bc},HL lt it xs ys (g+1) i j v->R (.done (none,i,j,v,ac,bc)) st/\R (.yield (none,i,j,v,ac,bc)) st):
 YL prog w A E s (rA (xs.map it) (ys.map it) mg i j v ac bc) R st:=by
 have a:=L.a;have b:=L.b;have c:=L.bx;have m:=L.ax;have r:=L.g;have h:i-1<xs.size:=()
 have l:j-1<ys.size:=()
 refine Yo (Qv l (Yo (Qv h (Yo (XM O p (H.yn _ (Q8 l)) (H.xn _ (Q8 h)) (wi (λq=>Yo (Qv h ?_)) λq=>Yo (Qv l ?_)))))))
 .have M2:=L.M.one H.W H.py a m (Uw b) c q;refine wi (λz=>Yp (n ⟨_,M2.doneA (Ys.mp z),Um (yu e)⟩)) λz=>?_;have f:=go (ac:=ac+1) (bc:=0) ⟨_,⟨M2,(),b,Zz h,c,()⟩,yu e⟩;exact wi (λ_=>Yp f.1) λ_=>Yp f.2
 .have M2:=L.M.two H.W H.hxy H.px a m (Uw b) c (Yu.mpr q);refine wi (λz=>Yp (n ⟨_,M2.first (Ys.mp z) () fst,Um (yu e)⟩)) λz=>?_;have f:=go (ac:=0) (bc:=bc+1) ⟨_,⟨M2,a,(),m,Zz l,()⟩,yu e⟩;exact wi (λ_=>Yp f.1) λ_=>Yp f.2
end
section
variable {prog:Program}{w:World}{A:Around}{E:Ya}{s:Shared}{kind:SortKind}{it:Nat->Keyed}{lt:Yd}{N:Nat}{st:SortSt}{xs ys:Yi}
def NP {Q:Array Keyed->YB}(H:MH lt N xs ys)(O:xY prog w A s kind it lt N)(c:kindOf st=kind)(j:1<=xs.size)(g:1<=ys.size)(a:∀x∈xs.toList,jI lt (gx ys 0) x)(lst:lt (gx ys (ys.size-1)) (gx xs (xs.size-1))=true)
 (h:∀o b,SEq st b->zu lt xs ys o->Q (ar it o) b):YL prog w A E s (BS (xs.map it) (ys.map it)) Q st:=by
 have M1:MInvH lt xs ys (xs.size-1) ys.size [gx xs (xs.size-1)]:=by
  refine MInvH.one (o:=[]) (na:=xs.size) (nb:=ys.size) H.W H.py ⟨?_,?_,?_⟩ j (Zf _) g (Zf _) lst
  .rw[UV (),ZA];exact H.px
  .rw[UV (),ZA];exact H.py
  grind[List.append_nil,List.take_of_length_le]
 rw[kt,sz,sz];have p:xs.size-1<xs.size:=()
 have f: #[it (gx xs (xs.size-1))]=ar it [gx xs (xs.size-1)].reverse:=Aa;refine Yo (wpS_lift (wpAny_rule ⟨rfl,Yo (Qv p (wi (λz=>?_) λl=>wi (λz=>?_) λn=>?_))⟩))
 .rw[Um f];exact Yp (h _ _ (.refl _) (M1.doneA (Ys.mp z)))
 .rw[Um f];exact Yp (h _ _ (.refl _) (M1.first (Ys.mp z) g a))
 have l:xs.size-1≠0:=by grind
 have n:ys.size≠1:=by grind
 have q:HI lt xs ys 1 (xs.size-1) ys.size [gx xs (xs.size-1)]:=⟨M1,(),(),(),(),()⟩;exact rq (P:=HL lt it xs ys) c ⟨_,q,f⟩ (λr=>by
  obtain⟨_,L,_⟩:=r;have:=L.g;lia) (λ⟨o,L,e⟩ h=>⟨o,⟨L.M,L.a,L.b,L.ax,L.bx,by have:=L.g;lia⟩,e⟩) (λc ⟨_,L,e⟩ dn go=>mG a H L e O c dn go) (λC i ⟨_,L,e⟩=>mF a H L e C i O c) λi ⟨o,m,e⟩=>by simp_all
end
theorem EN {α: Type}(k):∀l i (a:Array α),k+i+l.length<=a.size->((l.zipIdx i).foldl (λa (p:α × Nat)=>a.setIfInBounds (k+p.2) p.1) a).toList=a.toList.take (k+i)++l++a.toList.drop (k+i+l.length)
 | [],i,a,h=>by simp
 |x::r,i,a,h=>by
  rw[Zu] at h;rw[List.zipIdx_cons,Vh,EN k r (i+1) _ (by rw[Array.size_setIfInBounds];lia),Array.toList_setIfInBounds,Zu];have b:(a.toList.set (k+i) x).take (k+(i+1))=a.toList.take (k+i)++[x]:=by
   rw[show k+(i+1)=(k+i)+1 by lia,Vv,List.take_set_of_le (Zf _),UU (by simp;lia)];rfl
  grind[List.append_assoc,List.drop_set_of_lt]
def EO {α β: Type}(f:α -> β)(a:Array α)(i j):(a.map f).extract i j=(a.extract i j).map f:=()
theorem XO {ix:Yi}{i j a:Nat}(h:i+a<j)(b:j<=ix.size):gx (ix.extract i j) a=gx ix (i+a):=by
 grind[gx,Array.getElem?_extract]
section
variable {prog:Program}{w:World}{A:Around}{E:Ya}{s:Shared}{kind:SortKind}{it:Nat->Keyed}{lt:Yd}{st:SortSt}{n:Nat}
theorem Wi {ix:Yi}{i j x:Nat}(a:j<=ix.size)(h:x∈(ix.extract i j).toList):∃l,i<=l/\l<j/\x=gx ix l:=by
 rw[Array.toList_extract,VT] at h;obtain⟨l,b,c,e⟩:=BT h
 grind
def EQ {ix:Yi}{R:Nat->Nat->Prop}{i j:Nat}(g:j<=ix.size)(h:∀a b,i<=a->a<b->b<j->R (gx ix a) (gx ix b)):(ix.extract i j).toList.Pairwise R:=by
 rw[List.pairwise_iff_getElem];have e:∀c f,c<j-i->(ix.extract i j).toList[c]=gx ix (i+c):=λc f h=>by
  grind[gx,sz,XO,Array.getElem?_eq_getElem]
 grind
def NQ {x y k:Nat}(W:Wk lt)(b:jI lt x y)(h:be lt false y k=true):be lt false x k=true:=by
 have h:(!lt k y)=true:=h;show(!lt k x)=true;cases q:lt k x with
 |false=>rfl
 |true =>
  rcases W.neg _ y _ q with z|z
  .simp_all
  .rw[(jI.no W b)] at z;cases z
def NR {x y k:Nat}(W:Wk lt)(b:jI lt x y)(h:be lt true y k=true):be lt true x k=true:=by
 rcases W.neg _ x _ h with z|z
 .rw[(jI.no W b)] at z;cases z
 .exact z
end
structure PlO (lo N:Nat)(bs ix:Yi)(k:Nat):Prop where
 size:ix.size=N
 perm:ix.Perm (Array.range N)
 low:∀a,a<lo->gx ix a=gx bs a
 mid:∀a,lo<=a->a<k->lo<=gx ix a/\gx ix a<k
 suf:∀a,k<=a->a<N->gx ix a=a
def ER {N a:Nat}{ix:Yi}(p:ix.Perm (Array.range N))(b:a<ix.size):gx ix a<N:=by
 have:=(Jo.mp p).mem_iff.mp (Q8 b)
 simp_all
section
variable {lo N k:Nat}{bs ix:Yi}
def PlO.all (h:PlO lo N bs ix k){a:Nat}(b:a<N):gx ix a<N:=ER h.perm (by rwa [h.size])
def PlO.succ (h:PlO lo N bs ix k)(g:lo<=k)(b:k<N):PlO lo N bs ix (k+1):=by
 refine⟨h.size,h.perm,h.low,λa e i=>?_,λa j f=>h.suf a () f⟩;by_cases c:a<k
 .have:=h.mid a e c;lia
 .have:a=k:=()
  subst this;rw[h.suf a (Zf _) b];lia
def PlO.rev {i:Nat}(h:PlO lo N bs ix k)(g:k<=N)(j:lo<=i)(l:i<=k):PlO lo N bs (mirror ix i k ((k-i) / 2)) k:=by
 have hz:k<=ix.size:=by rwa [h.size]
 refine⟨by rw[mirror_size];exact h.size,(mirror_perm _ _ _ _).trans h.perm,λa b=>?_,λa c b=>?_,λa e f=>?_⟩
 .rw[XL hz,Ze ()];exact h.low a b
 .rw[XL hz]
  split
  .exact h.mid _ () ()
  .exact h.mid a c b
 .rw[XL hz,Ze ()];exact h.suf a e f
end
def yV (lt:Yd)(lo:Nat)(ix:Yi)(k:Nat):Prop:=∀a b,lo<=a->a<b->b<k->jI lt (gx ix a) (gx ix b)
def b8 (lt:Yd)(lo:Nat)(ix:Yi)(k:Nat):Prop:=∀a b,lo<=a->a<b->b<k->jI lt (gx ix b) (gx ix a)
structure SBp (it:Nat->Keyed)(kind:SortKind)(pn:Array (Nat×Nat×Nat))(ix:Yi)(st:SortSt):Prop where
 arr:arrOf st=ix.map it
 kd:kindOf st=kind
 fl:failedOf st=none
 pd:pendingOf st=pn
structure EqO (lt:Yd)(lo:Nat)(ix:Yi)(x u:Nat):Prop where
 le:lo<=u
 ux:u<x
 out:∀a b,lo<=a->a<b->b<x->a<u->lt (gx ix b) (gx ix a)=true\/(b<u/\jI lt (gx ix b) (gx ix a))
 same:∀a b,u<=a->a<x->u<=b->b<x->lt (gx ix a) (gx ix b)=false
 rise:∀a b,u<=a->a<b->b<x->gx ix a<gx ix b
def Wj {ix:Yi}{i j k:Nat}(a:j<=ix.size)(b:i<=k)(c:k<j):∃m,i<=m/\m<j/\k+m+1=i+j/\gx (mirror ix i j ((j-i) / 2)) k=gx ix m:=by
 refine⟨i+j-1-k,(),(),(),?_⟩;rw[XL a,Zd ⟨b,c⟩]
def XP {ix:Yi}{i j k:Nat}(a:j<=ix.size)(h:k<i\/j<=k):gx (mirror ix i j ((j-i) / 2)) k=gx ix k:=by
 rw[XL a,Ze ()]
section
variable {lt:Yd}{lo:Nat}{ix:Yi}(W:Wk lt)
include W
theorem Ad {a:Nat}:lt a a=false:=by
 cases z:lt a a with
 |false=>rfl
 |true=>have:=W.asy _ _ z;simp_all
theorem EqO.down {x u:Nat}(h:EqO lt lo ix x u)(hz:x<=ix.size):b8 lt lo (mirror ix u x ((x-u) / 2)) x:=by
 intro a b i ab g;by_cases f:u<=b
 .obtain⟨l,b1,b2,n,e⟩:=Wj hz f g;rw[e];by_cases c:u<=a
  .obtain⟨o,m,j,p,e⟩:=Wj hz c (Ug ab g);rw[e];exact .inr ⟨h.same _ _ m j b1 b2,h.rise _ _ b1 () j⟩
  .have c:=Yv c;rw[XP hz (.inl c)];rcases h.out a l i (Zg c b1) b2 c with z|z
   .exact .inl z
   .exact z.2
 .have f:=Yv f;have c:=Ug ab f;rw[XP hz (.inl f),XP hz (.inl c)];rcases h.out a b i ab g c with z|z
  .exact .inl z
  .exact z.2
theorem EqO.down0 {x:Nat}(h:EqO lt lo ix (x+1) x):b8 lt lo ix (x+1):=by
 intro a b e ab c;rcases h.out a b e ab c (Zg ab (Uo c)) with z|z
 .exact .inl z
 .exact z.2
theorem xk {x y:Nat}(j:y+1=x)(l:lo<=y)(D:b8 lt lo ix x)(f:lt (gx ix x) (gx ix y)=true):EqO lt lo ix (x+1) x:=by
 have wg:∀a,lo<=a->a<x->lt (gx ix x) (gx ix a)=true:=λa e g=>by
  by_cases c:a=y
  .rwa [c]
  .rcases W.neg _ (gx ix a) _ f with z|z
   .exact z
   .rw[jI.no W (D a y e () ())] at z;exact JF z
 have eq:∀{a},x<=a->a<x+1->a=x:=()
 refine⟨(),UH _,λa b e ab m g=>?_,λa b h i b1 b2=>?_,()⟩
 .by_cases c:b<x
  .exact .inr ⟨c,D a b e ab c⟩
  simp_all
 .rw[eq h i,eq b1 b2];exact Ad W
theorem EqO.more {x y u:Nat}(h:EqO lt lo ix x u)(E:y+1=x)(s:gx ix x=x)(l:∀a,lo<=a->a<x->gx ix a<x)(t:lt (gx ix x) (gx ix y)=false)(v:lt (gx ix y) (gx ix x)=false):EqO lt lo ix (x+1) u:=by
 have le:=h.le;have A:=h.ux;have B:∀k,lt (gx ix y) k=true->lt (gx ix x) k=true:=λk z=>by
  rcases W.neg _ (gx ix x) _ z with y|y
  .rw[v] at y;exact JF y
  lia
 have C:∀k,lt k (gx ix x)=true->lt k (gx ix y)=true:=λk z=>by
  rcases W.neg _ (gx ix y) _ z with y|y
  .exact y
  simp_all
 have m:∀k,lt (gx ix x) k=true->lt (gx ix y) k=true:=λk z=>by
  rcases W.neg _ (gx ix y) _ z with y|y
  .rw[t] at y;exact JF y
  lia
 have n:y<x:=()
 have i:u<=y:=()
 have e:∀{b},b<x+1->¬b=x->b<x:=λh k=>UA (Uo h) k;refine⟨le,UB A,λa b q ab o p=>?_,λa b g r b1 b2=>?_,λa b g ab o=>?_⟩
 .by_cases c:b=x
  .rw[c];rcases h.out a y q (Zg p i) n p with z|z
   .exact .inl (B _ z)
   .exact Zn z.1 (Nat.not_lt_of_le i)
  .exact h.out a b q ab (e o c) p
 .by_cases j:a=x
  .by_cases f:b=x
   .rw[j,f];exact Ad W
   .rw[j];cases z:lt (gx ix x) (gx ix b) with
    |false=>rfl
    |true =>
     have w:=m _ z;rw[h.same y b i n b1 (e b2 f)] at w;exact JF w
  .by_cases f:b=x
   .rw[f];cases z:lt (gx ix a) (gx ix x) with
    |false=>rfl
    |true =>
     have w:=C _ z;rw[h.same a y g (e r j) i n] at w;exact JF w
   .exact h.same a b g (e r j) b1 (e b2 f)
 .by_cases f:b=x
  .rw[f,s];exact l a (Zh le g) (f ▸ ab)
  .exact h.rise a b g ab (e o f)
end
abbrev C2:=Option (Option Nat)×Nat
noncomputable def bw (p c:Nat):SM (ForInStep C2):=ltAt' p (p-1) >>= λr=>match r with
 |some t=>if t=true then pure (.done (none,c)) else pure (.yield (none,c+1))
 |_=>pure (.done (some none,c))
noncomputable def nB (lo a n:Nat):SM (Option Nat):=reverseSlice' lo (lo+n) >>= λ_=>(forIn [n:a] ((none,n):C2) λ_ c=>bw (lo+c.2) c.2) >>= λc=>match c.1 with
 |some r=>pure r
 |none=>pure (some c.2)
noncomputable def rM (lo a n q:Nat):SM (Option Nat):=if q > 0 then reverseSlice' (lo+n-(q+1)) (lo+n) >>= λ_=>nB lo a n else nB lo a n
noncomputable def rL (p n q:Nat):SM (ForInStep C3):=ltAt' p (p-1) >>= λr=>match r with
 |some t=>if t=true then(if q > 0 then reverseSlice' (p-(q+1)) p >>= λ_=>pure (.yield (none,n+1,0)) else pure (.yield (none,n+1,0)))
  else ltAt' (p-1) p >>= λr=>match r with
   |some t=>if t=true then pure (.done (none,n,q)) else pure (.yield (none,n+1,q+1))
   |_=>pure (.done (some none,n,q))
 |_=>pure (.done (some none,n,q))
noncomputable def nE (lo a n:Nat):SM (Option Nat):=(liftM (rule "list.sort.descending-run"):SM PUnit) >>= λ_=>(forIn [n+1:a] ((none,n+1,0):C3) λ_ c=>rL (lo+c.2.1) c.2.1 c.2.2) >>= λc=>match c.1 with
 |some r=>pure r
 |none=>rM lo a c.2.1 c.2.2
noncomputable def dG (lo a n:Nat):SM (Option Nat):=if(n == a)=true then pure (some n) else if n > 1 then ltAt' lo (lo+n-1) >>= λr=>match r with
 |some t=>if t=true then pure (some n) else reverseSlice' lo (lo+n) >>= λ_=>nE lo a n
 |_=>pure none
 else nE lo a n
set_option smartUnfolding false in
def gU {lo a:Nat}:countRun' lo a=((forIn [1:a] ((none,1):C2) λ_ c=>bw (lo+c.2) c.2) >>= λc=>match c.1 with|some r=>pure r|none=>dG lo a c.2):=rfl
section
variable {prog:Program}{w:World}{A:Around}{E:Ya}{s:Shared}{kind:SortKind}{it:Nat->Keyed}{lt:Yd}{lo N:Nat}{bs ix:Yi}{st:SortSt}{pn:Array (Nat×Nat×Nat)}
def XQ {a b k:Nat}{Q:Option Bool->YB}(O:xY prog w A s kind it lt N)(B:SBp it kind pn ix st)(L:PlO lo N bs ix k)(c:a<N)(e:b<N)(h:Q (some (lt (gx ix a) (gx ix b))) st):
 YL prog w A E s (ltAt' a b) Q st:=by
 have f:(arrOf st)[a]? = some (it (gx ix a)):=by rw[B.arr,UO,BP (by rwa [L.size])];rfl
 have g:(arrOf st)[b]? = some (it (gx ix b)):=by rw[B.arr,UO,BP (by rwa [L.size])];rfl
 show wpS _ _ _ _ (elem' (arrOf st) a >>= λx=>elem' (arrOf st) b >>= λy=>lt' x y) Q st;rw[elem'_eq,elem'_eq,f,g];exact Yo (Yp (Yo (Yp (XM O B.kd (L.all c) (L.all e) h))))
def SBp.set {a:Yi}(B:SBp it kind pn ix st){b:Array Keyed}(e:b=a.map it):SBp it kind pn a (setArr st b):=⟨e,B.kd,B.fl,B.pd⟩
def SBp.rev {i j m:Nat}(B:SBp it kind pn ix st):SBp it kind pn (mirror ix i j m) (setArr st (mirror (arrOf st) i j m)):=B.set (by rw[B.arr,NK])
variable (W:Wk lt)(O:xY prog w A s kind it lt N)
include W O
theorem NS {p c:Nat}{R:ForInStep C2->YB}(a:p<N)(g:lo<p)(B:SBp it kind pn ix st)(L:PlO lo N bs ix p)(U:yV lt lo ix p)
 (h:lt (gx ix p) (gx ix (p-1))=true->R (.done (none,c)) st) (go:PlO lo N bs ix (p+1)->yV lt lo ix (p+1)->R (.yield (none,c+1)) st):YL prog w A E s (bw p c) R st:=by
 obtain⟨y,rfl⟩:∃y,p=y+1:=⟨p-1,()⟩;have b:=Uo g;refine Yo (XQ O B L a (UW a) (wi (λq=>Yp (h q)) λq=>Yp (go (L.succ (Vk b) a) λi j f l m=>?_)));have last:jI lt (gx ix y) (gx ix (y+1)):=.inr ⟨Yu.mpr q,by rw[L.suf _ (Zf _) a];exact(L.mid _ b (UH _)).2⟩;by_cases c:j<y+1
 .exact U i j f l c
 .have e:j=y+1:=()
  subst e;by_cases d:i=y
  .simp_all
  .exact jI.trans W (U i y f () (UH _)) last
theorem ES {a b:Nat}{Q:C2->YB}
 (j:lo+b<=N) (l:1<=a) (f:a<=b) (B:SBp it kind pn ix st) (L:PlO lo N bs ix (lo+a)) (U:yV lt lo ix (lo+a))
 (h:∀m,a<=m->m<=b->PlO lo N bs ix (lo+m)->yV lt lo ix (lo+m)->(m=b\/lt (gx ix (lo+m)) (gx ix (lo+m-1))=true)->Q (none,m) st):YL prog w A E s (forIn [a:b] ((none,a):C2) λ_ c=>bw (lo+c.2) c.2) Q st:=by
 refine Yr (I:=λx c e=>e=st/\c=(none,x)/\PlO lo N bs ix (lo+x)/\yV lt lo ix (lo+x)) ?_ ?_ ⟨rfl,rfl,L,U⟩
 .rintro x c e n o ⟨rfl,rfl,g,i⟩;exact NS W O () () B g i () ()
 simp_all
variable {nr x q u:Nat}{Q:Option Nat->YB}(hn:lo+nr<=N)(h:∀k jx st',SBp it kind pn jx st'->1<=k->k<=nr->PlO lo N bs jx (lo+k)->yV lt lo jx (lo+k)->Q (some k) st')
include hn h
theorem ET (c:1<=x)(i:x<=nr)(B:SBp it kind pn ix st)(L:PlO lo N bs ix (lo+x))(D:b8 lt lo ix (lo+x)):YL prog w A E s (nB lo nr x) Q st:=by
 have hz:lo+x<=ix.size:=by rw[L.size];lia
 refine Yo (wpS_reverse (Yo (ES W O hn c i B.rev (L.rev () (Zf _) ()) (λa b f ab g=>?_) λk k1 k2 j l _=>Yp (h k _ _ B.rev (Zh c k1) k2 j l))));have ⟨o,p,m,r,e⟩:=Wj hz f (Ug ab g);have ⟨t,b1,b2,v,n⟩:=Wj hz (Zz (UI f ab)) g;rw[e,n];exact D _ _ b1 () m
theorem NT (a:1<=x)(b:x<=nr)(B:SBp it kind pn ix st)(L:PlO lo N bs ix (lo+x))(X:EqO lt lo ix (lo+x) u)(e:u+(q+1)=lo+x):YL prog w A E s (rM lo nr x q) Q st:=by
 refine wi (λc=>?_) λc=>?_
 .rw[show lo+x-(q+1)=u by lia];exact Yo (wpS_reverse (ET W O hn h a b B.rev (L.rev () X.le (Zz X.ux)) (X.down W (by rw[L.size];lia))))
 .have f:q=0:=()
  subst f;rw[<- e] at X;exact ET W O hn h a b B L (e ▸ X.down0 W)
omit hn h in
theorem NU {p:Nat}{R:ForInStep C3->YB}(b:p<N)(B:SBp it kind pn ix st)(L:PlO lo N bs ix p)(X:EqO lt lo ix p u)(e:u+(q+1)=p)
 (n:R (.done (none,x,q)) st) (go:∀i u q c,SBp it kind pn i c->PlO lo N bs i (p+1)->EqO lt lo i (p+1) u->u+(q+1)=p+1->R (.yield (none,x+1,q)) c):YL prog w A E s (rL p x q) R st:=by
 have le:=X.le;have g:=X.ux;have hz:p<=ix.size:=by rw[L.size];exact Zz b
 obtain⟨y,rfl⟩:∃y,p=y+1:=⟨p-1,()⟩;have j:=UW b;have f:=Zh le (Uo g);refine Yo (XQ O B L b j (wi (λz=>wi (λl=>?_) λl=>?_) λz=>?_))
 .have z:lt (gx ix (y+1)) (gx ix y)=true:=z;rw[show y+1-(q+1)=u by lia];refine Yo (wpS_reverse (Yp (go _ _ 0 _ B.rev ((L.rev (Zz b) le (Zz g)).succ (Vk f) b) (xk W rfl f (X.down W hz) ?_) rfl)));have ⟨m,o,m2,_,e⟩:=Wj hz (Uo g) (UH y);rw[XP hz (.inr (Zf _)),e];rcases W.neg _ (gx ix m) _ z with y|y
  .exact y
  .rw[X.same _ _ o m2 (Uo g) (UH _)] at y;exact JF y
 .have r:=Nat.eq_zero_of_not_pos l;subst r;have e:=UL e;subst e;exact Yp (go ix _ 0 st B (L.succ (Vk f) b) (xk W rfl f (X.down0 W) z) rfl)
 .exact Yo (XQ O B L j b (wi (λ_=>Yp n) λt=>(Yp (go ix u _ st B (L.succ (Vk f) b) (X.more W rfl (L.suf _ (Zf _) b) (λa v C=>(L.mid a v C).2) (Yu.mpr z) (Yu.mpr t)) (Zt (· + 1) e)))))
theorem EU (m:x+1<=nr)(B:SBp it kind pn ix st)(L:PlO lo N bs ix (lo+x+1))(X:EqO lt lo ix (lo+x+1) (lo+x)):YL prog w A E s (nE lo nr x) Q st:=by
 refine Yo (wpS_lift (wpAny_rule ⟨rfl,Yo (Yq (Yr (I:=λx c i=>∃u q a,c=(none,x,q)/\SBp it kind pn a i/\PlO lo N bs a (lo+x)/\EqO lt lo a (lo+x) u/\u+(q+1)=lo+x) (Q:=λc i=>∃y u q a,c=(none,y,q)/\1<=y/\y<=nr/\SBp it kind pn a i/\PlO lo N bs a (lo+y)/\EqO lt lo a (lo+y) u/\u+(q+1)=lo+y) ?_ ?_ ⟨lo+x,0,ix,rfl,B,L,X,rfl⟩) ?_)⟩))
 .rintro y c i n o ⟨u,q,a,rfl,j,f,g,e⟩;exact NU W O (show lo+y<N from ()) j f g e ⟨y,u,q,a,rfl,Zh (Nat.le_add_left 1 x) n,Zz o,j,f,g,e⟩ λp u q r b l x e=>⟨u,q,p,rfl,b,l,x,e⟩
 .rintro c i ⟨u,q,a,rfl,j,f,g,e⟩;rw[Nat.max_eq_right m] at f g e ⊢;exact⟨nr,u,q,a,rfl,Zh (Nat.le_add_left 1 x) m,Zf _,j,f,g,e⟩
 .rintro c i ⟨x,u,q,a,rfl,t,m,j,f,g,e⟩;exact NT W O hn h t m j f g e
theorem NV (R:1<=nr)(B:SBp it kind pn ix st)(L:PlO lo N bs ix (lo+1)):YL prog w A E s (countRun' lo nr) Q st:=by
 rw[gU];refine Yo (ES W O hn (Zf 1) R B L (λa b f ab b1=>()) λm P m2 i l C=>?_);refine wi (λ_=>Yp (h m ix st B P m2 i l)) λo=>?_;have o:m≠nr:=λz=>o (Ys.mpr z);have r:lt (gx ix (lo+m)) (gx ix (lo+m-1))=true:=C.resolve_left o;have m2:m+1<=nr:=UA m2 o;have j:lo+m<N:=()
 have t:lo<lo+m:=()
 have hz:lo+m<=ix.size:=by rw[i.size];exact Zz j
 refine wi (λS=>?_) λS=>?_
 .have F:=λ{G H}=>EU (E:=E) (bs:=bs) (ix:=G) (st:=H) W O hn h m2;have T:=h m ix st B P (Uw m2) i l;generalize lo+m=p at *;obtain⟨y,rfl⟩:∃y,p=y+1:=⟨p-1,()⟩;have r:lt (gx ix (y+1)) (gx ix y)=true:=r;have I:=Uo t;have U:=UW j;have J:=UH y;refine Yo (XQ O B i (Ug t j) U (wi (λ_=>Yp T) λc=>?_));have c:lt (gx ix lo) (gx ix y)=false:=Yu.mpr c;have flat:∀a b,lo<=a->a<y+1->lo<=b->b<y+1->lt (gx ix a) (gx ix b)=false:=λa b f X Y g=>by
   cases z:lt (gx ix a) (gx ix b) with
   |false=>rfl
   |true =>
    rcases W.neg _ (gx ix lo) _ z with w|w
    .by_cases Z:a=lo
     .rw[Z,Ad W] at w;exact JF w
     .rw[jI.no W (l lo a (Zf _) () X)] at w;exact JF w
    .rcases W.neg _ (gx ix y) _ w with u|u
     .rw[c] at u;exact JF u
     .by_cases K:b=y
      .rw[K,Ad W] at u;exact JF u
      .rw[jI.no W (l b y Y () J)] at u;exact JF u
  have n:∀a b,lo<=a->a<b->b<y+1->gx ix a<gx ix b:=λa b f ab g=>by
   rcases l a b f ab g with z|z
   .rw[flat a b f (Ug ab g) (Zh f (Zz ab)) g] at z;exact JF z
   .exact z.2
  refine Yo (wpS_reverse (F B.rev ((i.rev (Zz j) (Zf _) (Zz t)).succ (Zz t) j) (xk W rfl I (λa b f ab g=>?_) ?_)))
  .obtain⟨a',M,v,a3,e⟩:=Wj hz f (Ug ab g);obtain⟨b',b1,b2,b3,e'⟩:=Wj hz (Zh f (Zz ab)) g;rw[e,e'];exact .inr ⟨flat _ _ M v b1 b2,n _ _ b1 () v⟩
  .obtain⟨m,M,v,_,e⟩:=Wj hz I J;rw[XP hz (.inr (Zf _)),e];rcases W.neg _ (gx ix m) _ r with z|z
   .exact z
   .rw[flat _ _ M v I J] at z;exact JF z
 .have e1:m=1:=()
  subst e1;exact EU W O hn h m2 B (i.succ (Ul _ _) j) (xk W rfl (Zf _) (λa b f ab b1=>()) r)
omit hn h
omit O W in
theorem Xb {ix:Yi}{p l k:Nat}(hs:p<ix.size)(a:l<=p)(b:k<=p):(k<l/\gx (bubble ix p (p-l)) k=gx ix k)\/(k=l/\gx (bubble ix p (p-l)) k=gx ix p)\/∃j,k=j+1/\l<=j/\j<p/\gx (bubble ix p (p-l)) k=gx ix j:=by
 rw[EF hs (U8 _ _),show p-(p-l)=l by lia]
 grind
omit O W in
theorem NW {p l:Nat}(y:p<N)(f:l<=p)(o:lo<=l)(L:PlO lo N bs ix p)(U:yV lt lo ix p)(low:∀i,lo<=i->i<l->lt p (gx ix i)=false)(B:∀i,l<=i->i<p->lt p (gx ix i)=true):PlO lo N bs (bubble ix p (p-l)) (p+1)/\yV lt lo (bubble ix p (p-l)) (p+1):=by
 have hs:p<ix.size:=by rw[L.size];exact y
 have ep:gx ix p=p:=L.suf p (Zf _) y;have md:∀{i},lo<=i->i<p->lo<=gx ix i/\gx ix i<p+1:=λh k=>⟨(L.mid _ h k).1,UB (L.mid _ h k).2⟩;refine⟨⟨by rw[bubble_size];exact L.size,(bubble_perm _ _ _).trans L.perm,λa r=>?_,λa C r=>?_,λa F G=>?_⟩,λa b t ab m=>?_⟩
 .rcases Xb hs f (Zz (Zg r (Zh o f))) with ⟨_,e⟩|⟨z,_⟩|⟨j,z,h,_⟩
  .rw[e];exact L.low a r
  .omega
  .omega
 .rcases Xb hs f (Uo r) with ⟨z,e⟩|⟨z,e⟩|⟨j,z,h,k,e⟩
  .rw[e];exact md C (Zg z f)
  .rw[e,ep];exact⟨Zh o f,UH _⟩
  .rw[e];exact md (Zh o h) k
 .rw[EF hs (U8 _ _),Ze (),Ze ()];exact L.suf a (Uw F) G
 .have m:=Uo m;rcases Xb hs f (Zh (Zz ab) m) with ⟨z,e⟩|⟨z,e⟩|⟨i,z,h,k,e⟩
  .rcases Xb hs f m with ⟨g,c⟩|⟨g,c⟩|⟨j,g,v,n,c⟩
   .rw[e,c];exact U a b t ab (Zg g f)
   .rw[e,c,ep];exact .inr ⟨low a t z,(L.mid a t (Zg z f)).2⟩
   .rw[e,c];exact U a j t (Zg z v) n
  .rcases Xb hs f m with ⟨g,c⟩|⟨g,c⟩|⟨j,g,v,n,c⟩
   .omega
   .omega
   .rw[e,c,ep];exact .inl (B j v n)
  .rcases Xb hs f m with ⟨g,c⟩|⟨g,c⟩|⟨j,g,v,n,c⟩
   .omega
   .omega
   .rw[e,c];exact U i j (Zh o h) () n
theorem NX {j ok:Nat}{Q:Bool->YB}(T:lo+j<=N)(X:ok<=j)(p:1<=ok)(B:SBp it kind pn ix st)(L:PlO lo N bs ix (lo+ok))(U:yV lt lo ix (lo+ok))
 (h:∀f g,SBp it kind pn f g->PlO lo N bs f (lo+j)->yV lt lo f (lo+j)->Q true g):YL prog w A E s (binarySort' lo j ok) Q st:=by
 rw[binarySort'_eq];have G:max ok 1=ok:=()
 rw[G];refine Yo (Yq (Yr (I:=λk c g=>c=(none,Yt)/\∃f,SBp it kind pn f g/\PlO lo N bs f (lo+k)/\yV lt lo f (lo+k)) (Q:=λc g=>c=(none,Yt)/\∃f,SBp it kind pn f g/\PlO lo N bs f (lo+j)/\yV lt lo f (lo+j)) ?_ ?_ ⟨rfl,ix,B,L,U⟩) ?_)
 .rintro k c t Y Z ⟨rfl,f,H,J,K⟩;have ek:gx f (lo+k)=lo+k:=J.suf _ (Zf _) ();refine Yo (Yq (Yr (I:=λx c o=>o=t/\∃l r,c=(none,l,r)/\l<=r/\r<=k/\r-l<=k-x/\(∀i,i<l->lt (lo+k) (gx f (lo+i))=false)/\(∀i,r<=i->i<k->lt (lo+k) (gx f (lo+i))=true))
   (Q:=λc o=>o=t/\∃l r,c=(none,l,r)/\l<=k/\(∀i,i<l->lt (lo+k) (gx f (lo+i))=false)/\(∀i,l<=i->i<k->lt (lo+k) (gx f (lo+i))=true)) ?_ ?_ ()) ?_)
  .rintro x c o _ hx ⟨rfl,l,r,rfl,lr,v,C,low,n⟩;dsimp only;by_cases M:l ≥ r
   .rw[Zd M];have e:l=r:=()
    subst e;exact Yp ⟨rfl,l,l,rfl,v,low,n⟩
   .rw[Ze M];obtain⟨m,G,m1,m2,m3,m4⟩:=EE (Yv M) C;rw[G];have mk:=Zg m2 v;refine Yo (XQ O H J () () ?_);rw[ek];cases q:lt (lo+k) (gx f (lo+m)) with
    |true =>
     simp only[if_true];refine Yp ⟨rfl,l,m,rfl,m1,Zz mk,m3,low,λi a b=>?_⟩;by_cases P:i=m
     .rw[P];exact q
     .rcases W.neg (lo+k) (gx f (lo+i)) _ q with z|z
      .exact z
      .rw[jI.no W (K (lo+m) (lo+i) () () ())] at z;exact JF z
    |false =>
     simp only[UC,if_false];refine Yp ⟨rfl,m+1,r,rfl,m2,v,m4,λi a=>?_,n⟩;by_cases P:i=m
     .rw[P];exact q
     .cases z:lt (lo+k) (gx f (lo+i)) with
      |false=>rfl
      |true =>
       rcases W.neg (lo+k) (gx f (lo+m)) _ z with y|y
       .rw[q] at y;exact JF y
       .rw[jI.no W (K (lo+i) (lo+m) () () ())] at y;exact JF y
  .rintro c o ⟨rfl,l,r,rfl,lr,v,C,low,n⟩;have e:l=r:=()
   subst e;exact⟨rfl,l,l,rfl,v,low,n⟩
  .rintro c o ⟨rfl,l,r,rfl,lk,low,n⟩;show wpS _ _ _ _ (moveDown' (lo+k) (lo+l) >>= λ_=>pure (ForInStep.yield (none,Yt))) _ _;rw[moveDown'_eq];have low:∀i,lo<=i->i<lo+l->lt (lo+k) (gx f i)=false:=λi p R=>by
    obtain⟨d,rfl⟩:=U9 p;exact low d (VA R)
   have n:∀i,lo+l<=i->i<lo+k->lt (lo+k) (gx f i)=true:=λi p R=>by
    obtain⟨d,rfl⟩:=U9 (Zh (Ul _ _) p);exact n d (VU p) (VA R)
   have S:=NW () (Nat.add_le_add_left lk lo) (Ul _ _) J K low n;exact Yo (wpS_modify (Yp ⟨rfl,bubble f (lo+k) (lo+k-(lo+l)),H.set (by rw[H.arr,NJ]),S.1,S.2⟩))
 .rintro c t ⟨rfl,f,b1,b2,F⟩;have e:max ok j=j:=()
  rw[e] at b2 F;exact⟨rfl,f,b1,b2,F⟩
 .rintro c t ⟨rfl,f,b1,b2,F⟩;exact Yp (h f t b1 b2 F)
end
structure Seg (lt:Yd)(ix:Yi)(a b:Nat):Prop where
 pl:∀i,a<=i->i<b->a<=gx ix i/\gx ix i<b
 up:∀i j,a<=i->i<j->j<b->jI lt (gx ix i) (gx ix j)
def Seg.same {lt:Yd}{ix f:Yi}{a b:Nat}(S:Seg lt ix a b)(h:∀i,a<=i->i<b->gx f i=gx ix i):Seg lt f a b:=⟨λi c e=>by rw[h i c e];exact S.pl i c e,λi j c e g=>by rw[h i c (),h j () g];exact S.up i j c e g⟩
section
variable {prog:Program}{w:World}{A:Around}{E:Ya}{s:Shared}{kind:SortKind}{it:Nat->Keyed}{lt:Yd}{st:SortSt}{N:Nat}
def Seg.join {a m b:Nat}{ix:Yi}(W:Wk lt)(S:Seg lt ix a m)(T:Seg lt ix m b)(l:m<b)(k:∀i,a<=i->i<m->jI lt (gx ix i) (gx ix m))(n:a<=m):Seg lt ix a b:=by
 refine⟨λi c h=>?_,λi j c f g=>?_⟩
 .by_cases z:i<m
  .have:=S.pl i c z;lia
  .have:=T.pl i () h;lia
 .by_cases z:j<m
  .exact S.up i j c f z
  .by_cases y:m<=i
   .exact T.up i j y f g
   .by_cases e:j=m
    .simp_all
    .exact jI.trans W (k i c ()) (T.up m j (Zf _) () g)
def Seg.put {a e b m k:Nat}{ix:Yi}{o:Yj}(W:Wk lt)(S:Seg lt ix a e)(T:Seg lt ix e b)(hb:b<=ix.size)(C:a<=m)(I:m<e)(hk:1<=k)(v:e+k<=b)(L:∀i,a<=i->i<m->lt (gx ix e) (gx ix i)=false)(O:∀i,e+k<=i->i<b->lt (gx ix i) (gx ix (e-1))=false)
 (M:zu lt (ix.extract m e) (ix.extract e (e+k)) o):∃n:Yi,n.toList=ix.toList.take m++o++ix.toList.drop (e+k)/\o.length=e+k-m/\n.Perm ix/\Seg lt n a b/\∀i,i<a\/b<=i->gx n i=gx ix i:=by
 have ol:o.length=e+k-m:=by
  rw[M.1.length_eq,Ub,Ui,Ui,VI,VI,Vi (),Vi ()];lia
 have Q:m+o.length=e+k:=()
 have F:ix.toList.take m++((ix.extract m e).toList++(ix.extract e (e+k)).toList)++ix.toList.drop (e+k)=ix.toList:=by
  have ex:(ix.extract m e).toList++ix.toList.drop e=ix.toList.drop m:=by
   rw[Array.toList_extract,VT];have:ix.toList.drop e=(ix.toList.drop m).drop (e-m):=by rw[List.drop_drop,Vw (Zz I)]
   rw[this,UK]
  have ey:(ix.extract e (e+k)).toList++ix.toList.drop (e+k)=ix.toList.drop e:=by
   rw[Array.toList_extract,VT,VJ,<- List.drop_drop,UK]
  rw[Uh,Uh,ey,ex,UK]
 have pm:(ix.toList.take m++o++ix.toList.drop (e+k)).Perm ix.toList:=by
  conv=>rhs;rw[<- F]
  exact List.Perm.append_right _ (List.Perm.append_left _ M.1)
 have G:∀x∈o,(∃b,m<=b/\b<e/\x=gx ix b)\/∃b,e<=b/\b<e+k/\x=gx ix b:=λx hx=>by
  rcases Jb.mp (M.1.mem_iff.mp hx) with z|z
  .exact .inl (Wi () z)
  .exact .inr (Wi (Zh v hb) z)
 obtain⟨n,ej⟩:∃n:Yi,n=(ix.toList.take m++o++ix.toList.drop (e+k)).toArray:=⟨_,rfl⟩;have H:n.toList=ix.toList.take m++o++ix.toList.drop (e+k):=by rw[ej]
 have p:(ix.toList.take m).length=m:=by rw[Uv,Ui];exact Vi ()
 have B:∀i,i<m->gx n i=gx ix i:=λi h=>by
  unfold gx;rw[<- Vl,<- Vl,H,Uh,UX (by rw[p];exact h),List.getElem?_take,Zd h]
 have at2:∀j h,gx n (m+j)=o[j]:=λj h=>by
  unfold gx;rw[<- Vl,H,Uh,UY (by rw[p];exact Ul _ _),p,VJ,UX h,Zqg h];rfl
 have g:∀j,gx n (e+k+j)=gx ix (e+k+j):=λj=>by
  unfold gx;rw[<- Vl,<- Vl,H,UY (by rw[Ub,p,Q];exact Ul _ _),Ub,p,Q,VJ,List.getElem?_drop]
 have q:∀i,i<m\/(∃j,j<o.length/\i=m+j)\/∃j,i=e+k+j:=λi=>by
  by_cases c1:i<m
  .exact .inl c1
  .by_cases c2:i<e+k
   .exact .inr (.inl ⟨i-m,(),()⟩)
   .exact .inr (.inr ⟨i-(e+k),()⟩)
 have R:∀i j,a<=i->i<m->e<=j->j<b->jI lt (gx ix i) (gx ix j):=λi j J h f l=>by
  have nb:=UI f l;have U:jI lt (gx ix i) (gx ix e):=.inr ⟨L i J h,Zg (S.pl i J (Ug h I)).2 (T.pl e (Zf _) nb).1⟩;by_cases z:j=e
  .rw[z];exact U
  .exact jI.trans W U (T.up e j (Zf _) () l)
 have sq:∀i c,a<=i->i<e->e+k<=c->c<b->jI lt (gx ix i) (gx ix c):=λi c J f l X=>by
  have Y:jI lt (gx ix (e-1)) (gx ix c):=.inr ⟨O c l X,Zg (S.pl (e-1) () ()).2 (T.pl c (Zh (Ul _ _) l) X).1⟩;by_cases z:i=e-1
  .rw[z];exact Y
  .exact jI.trans W (S.up i (e-1) J () ()) Y
 have sp:∀{y},a<=y->y<e->a<=gx ix y/\gx ix y<b:=λf l=>⟨(S.pl _ f l).1,by have:=(S.pl _ f l).2;lia⟩;have Z:∀{y},e<=y->y<b->a<=gx ix y/\gx ix y<b:=λf l=>⟨by have:=(T.pl _ f l).1;lia,(T.pl _ f l).2⟩;refine⟨n,H,ol,?_,⟨λi f l=>?_,λi j f P K=>?_⟩,λi h=>?_⟩
 .rw[Array.perm_iff_toList_perm,H];exact pm
 .rcases q i with c|⟨j,c,rfl⟩|⟨j,rfl⟩
  .rw[B i c];exact sp f (Ug c I)
  .rw[at2 j c];rcases G _ (Uu c) with ⟨y,r,t,u⟩|⟨y,r,t,u⟩
   .rw[u];exact sp (Zh C r) t
   .rw[u];exact Z r (Zg t v)
  .rw[g j];exact Z () l
 .rcases q i with c|⟨i,c,rfl⟩|⟨i,rfl⟩
  .rw[B i c];rcases q j with d|⟨j,d,rfl⟩|⟨j,rfl⟩
   .rw[B j d];exact S.up i j f P (Ug d I)
   .rw[at2 j d];rcases G _ (Uu d) with ⟨y,r,t,u⟩|⟨y,r,t,u⟩
    .rw[u];exact S.up i y f (Zg c r) t
    .rw[u];exact R i y f c r (Zg t v)
   .rw[g j];exact R i _ f c () K
  .rw[at2 i c];rcases q j with d|⟨j,d,rfl⟩|⟨j,rfl⟩
   .omega
   .rw[at2 j d];exact Ji.mp M.2 i j c d (VA P)
   .rw[g j];rcases G _ (Uu c) with ⟨y,r,t,u⟩|⟨y,r,t,u⟩
    .rw[u];exact sq y _ (Zh C r) t (Ul _ _) K
    .rw[u];exact T.up y _ r (Zg t (Ul _ _)) K
  .rcases q j with d|⟨j,d,rfl⟩|⟨j,rfl⟩
   .omega
   .omega
   .rw[g i,g j];exact T.up _ _ () P K
 .rcases h with z|z
  .exact B i (Zg z C)
  .obtain⟨j,rfl⟩:=U9 (Zh v z);exact g j
def NY {l r:Yc}{x y z:Nat×Nat×Nat}:((l++x::y::r).toArray.setIfInBounds l.length z).eraseIdxIfInBounds (l.length+1)=(l++z::r).toArray:=by
 simp_all [List.eraseIdx_append_of_length_le]
noncomputable def mw (b:Nat)(v:KA):SM Bool:=(modify λs=>setArr s (List.foldl (λa x=>match x with|(p,j)=>a.setIfInBounds (b+j) p) (arrOf s) v.toList.zipIdx)) >>= λ_=>get >>= λz=>pure (failedOf z).isNone
noncomputable def rk (a:KA)(c na b k:Nat):SM Bool:=if(k == 0)=true then pure true else if na<=k then BR (a.extract c b) (a.extract b (b+k)) >>= mw c else BS (a.extract c b) (a.extract b (b+k)) >>= mw c
noncomputable def rm (a:KA)(b na c nb:Nat):SM Bool:=if(na == 0)=true then pure true else elem' a (b+na-1) >>= λx=>Wh true x a c nb (nb-1) >>= λr=>match r with
 |some k=>rk a b na c k
 |_=>pure false
noncomputable def ro (a:KA)(b na c nb:Nat):SM Bool:=elem' a c >>= λx=>Wh false x a b na 0 >>= λr=>match r with
 |some k=>rm a (b+k) (na-k) c nb
 |_=>pure false
set_option smartUnfolding false in
def kb {i:Nat}:mergeAt' i=(get >>= λz=>match (pendingOf z)[i]?,(pendingOf z)[i+1]? with
 |some (sa,na,pw),some (sb,nb,_)=>set (setPending z (((pendingOf z).setIfInBounds i (sa,na+nb,pw)).eraseIdxIfInBounds (i+1))) >>= λ_=>ro (arrOf z) sa na sb nb
 |_,_=>liftM (unsupported "internal:list.sort.pending")):=rfl
def BX {p:Array (Nat×Nat×Nat)}:pendingOf (setPending st p)=p:=by rfl
section
variable {a b q am u k x y:Nat}{ix:Yi}{pn:Array (Nat×Nat×Nat)}{Q:Bool->YB}(W:Wk lt)(S:Seg lt ix a (q+1))(T:Seg lt ix (q+1) b)(hz:ix.size=N)(hb:b<=N)(B:SBp it kind pn ix st)
 (h:∀jx st',SBp it kind pn jx st'->jx.Perm ix->Seg lt jx a b->(∀i,i<a\/b<=i->gx jx i=gx ix i)->Q true st')
include W S T hz hb B h
theorem EV {o:Yj}{j:SortSt}(e:a<=am)(g:am<q+1)(k1:1<=k)(l:q+1+k<=b)(m:∀i,a<=i->i<am->lt (gx ix (q+1)) (gx ix i)=false)(n:∀i,q+1+k<=i->i<b->lt (gx ix i) (gx ix q)=false)
 (c:SEq st j) (M:zu lt (ix.extract am (q+1)) (ix.extract (q+1) (q+1+k)) o):YL prog w A E s (mw am (ar it o)) Q j:=by
 obtain⟨p,r,H,t,v,C⟩:=S.put W T (by rwa [hz]) e g k1 l m n M;refine Yo (wpS_modify (Yo (wpS_get (Yp ?_))));have f:=c.fl.trans B.fl;rw[f];refine h p _ ⟨?_,c.kd.trans B.kd,f,c.pd.trans B.pd⟩ t v C;rw[c.arr,B.arr];apply Vj;have F:(ar it o).toList=o.map it:=by simp[ar]
 refine Eq.trans (Zt (λz=>(List.foldl (λ(a:Array Keyed) (x:Keyed×Nat)=>a.setIfInBounds (am+x.2) x.1) (ix.map it) z.zipIdx).toList) F) ?_;have G:am+o.length=q+1+k:=()
 rw[EN am (o.map it) 0 _ (),Array.toList_map,Array.toList_map,r,Zql,Nat.add_zero,G,Ud,Ud,List.map_take,List.map_drop]
theorem EW (j:∀i,a<=i->i<q+1->jI lt (gx ix i) (gx ix (q+1)))(c:a<=q+1)(e:q+1<b):Q true st:=h ix st B (.refl _) (S.join W T e j c) λ_ _=>rfl
variable (O:xY prog w A s kind it lt N)(wq:∀i,i<N->gx ix i<N)
include O wq
theorem mt (e:am+u=q+1)(u1:1<=u)(f:a<=am)(G:q+1<b)(r:q+1+k<=b)(m3:∀i,a<=i->i<am->lt (gx ix (q+1)) (gx ix i)=false)(m4:∀i,am<=i->i<q+1->lt (gx ix (q+1)) (gx ix i)=true)
 (k3:∀i,q+1<=i->i<q+1+k->lt (gx ix i) (gx ix q)=true) (I:∀i,q+1+k<=i->i<b->lt (gx ix i) (gx ix q)=false):YL prog w A E s (rk (ix.map it) am u (q+1) k) Q st:=by
 have g:am<q+1:=()
 have bz:b<=ix.size:=by rw[hz];exact hb
 refine wi (λc=>Yp (EW W S T hz hb B h (λi h3 hi=>?_) (Zz (UI f g)) G)) λc=>?_
 .have c:k=0:=Ys.mp c;subst c;have b:jI lt (gx ix q) (gx ix (q+1)):=.inr ⟨I _ (Zf _) G,Zg (S.pl q (Zh f (Uo g)) (UH _)).2 (T.pl _ (Zf _) G).1⟩;by_cases z:i=q
  .rw[z];exact b
  .exact by grind
 have k1:1<=k:=by grind
 have t:q+1<=ix.size:=()
 have kz:=Zh r bz;have xn:∀x∈(ix.extract am (q+1)).toList,x<N:=λx m=>by
  grind[Wi]
 have yn:∀y∈(ix.extract (q+1) (q+1+k)).toList,y<N:=λx m=>by
  obtain⟨l,n,p,rfl⟩:=Wi kz m;exact wq _ ()
 have J:∀x∈(ix.extract am (q+1)).toList,∀y∈(ix.extract (q+1) (q+1+k)).toList,x<y:=λx m y K=>by
  obtain⟨l,n,p,rfl⟩:=Wi t m;obtain⟨l',L,P,rfl⟩:=Wi kz K;exact Zg (S.pl l (Zh f n) p).2 (T.pl l' L (Zg P r)).1
 have px:=EQ (ix:=ix) (R:=jI lt) (i:=am) (j:=q+1) t λa b h ab U=>S.up a b (Zh f h) ab U;have py:=EQ (ix:=ix) (R:=jI lt) (i:=q+1) (j:=q+1+k) kz λa b h ab U=>T.up a b h ab (Zg U r);have H:MH lt N (ix.extract am (q+1)) (ix.extract (q+1) (q+1+k)):=⟨W,xn,yn,J,px,py⟩;have F:(ix.extract am (q+1)).size=u:=by rw[VI];lia
 have X:(ix.extract (q+1) (q+1+k)).size=k:=by rw[VI];lia
 have Y:gx (ix.extract am (q+1)) 0=gx ix am:=XO g t;have v:gx (ix.extract am (q+1)) (u-1)=gx ix q:=by rw[XO () t,show am+(u-1)=q by lia]
 have C:gx (ix.extract (q+1) (q+1+k)) 0=gx ix (q+1):=XO () kz;have Z:gx (ix.extract (q+1) (q+1+k)) (k-1)=gx ix (q+k):=by rw[XO () kz,show q+1+(k-1)=q+k by lia]
 rw[EO,EO];refine wi (λ_=>Yo (NM H O B.kd (by rw[F];exact u1) (by rw[X];exact k1) (by rw[C,Y];exact m4 am (Zf _) g) (λy K=>?_) λo s2 se M=>EV W S T hz hb B h f g k1 r m3 I se M))
  λ_=>Yo (NP H O B.kd (by rw[F];exact u1) (by rw[X];exact k1) (λx m=>?_) (by rw[F,X,Z,v];exact k3 _ () ()) λo s2 se M=>EV W S T hz hb B h f g k1 r m3 I se M)
 .obtain⟨l,n,p,rfl⟩:=Wi kz K;rw[F,v];exact .inl (k3 l n p)
 .obtain⟨l,n,p,rfl⟩:=Wi t m;rw[C];exact .inl (m4 l n p)
theorem mu (e:am+u=q+1)(G:1<=y)(H:q+1+y=b)(g:a<=am)(m:∀i,a<=i->i<am->lt (gx ix (q+1)) (gx ix i)=false)(p:∀i,am<=i->i<q+1->lt (gx ix (q+1)) (gx ix i)=true):YL prog w A E s (rm (ix.map it) am u (q+1) y) Q st:=by
 have l:q+1<b:=()
 have r:q+1<N:=()
 have t:a<=q+1:=()
 refine wi (λc=>Yp (EW W S T hz hb B h (λi n v=>.inr ⟨m i n ?_,Zg (S.pl i n v).2 (T.pl _ (Zf _) l).1⟩) t l)) λc=>?_
 .simp_all
 have z:1<=u:=by grind
 rw[show am+u-1=q by rw[e];rfl];refine Yo (Qv () (Yo (WY O B.kd (wq _ (UW r)) () () () (λi j C I q=>NR W (T.up _ _ (Ul _ _) (Nat.add_lt_add_left C _) ()) q) λk k2 k3 F=>(mt W S T hz hb B h O wq e z g l () m p (λi f o=>?_) λi f o=>?_))))
 .obtain⟨d,rfl⟩:=U9 f;exact k3 d (VA o)
 .obtain⟨d,rfl⟩:=U9 (Zh (Ul _ _) f);exact F d (VU f) ()
theorem mv (e:a+x=q+1)(g:1<=x)(l:1<=y)(n:q+1+y=b):YL prog w A E s (ro (ix.map it) a x (q+1) y) Q st:=by
 have o:q+1<N:=()
 refine Yo (Qv () (Yo (WY O B.kd (wq _ o) () () g (λi j p v q=>NQ W (S.up _ _ (Ul _ _) (Nat.add_lt_add_left p _) ()) q) λm m2 r t=>(mu W S T hz hb B h O wq (by rwa [Nat.add_assoc,Vw m2]) l n (Ul _ _) (λi c f=>?_) λi c f=>?_))))
 .obtain⟨d,rfl⟩:=U9 c;have z:(!lt (gx ix (q+1)) (gx ix (a+d)))=true:=r d (VA f);simpa using z
 .obtain⟨d,rfl⟩:=U9 (Zh (Ul _ _) c);have z:(!lt (gx ix (q+1)) (gx ix (a+d)))=false:=t d (VU c) ();simpa using z
end
def NZ {a x y b g:Nat}{l r:Yc}{ix:Yi}{Q:Bool->YB}(W:Wk lt)(O:xY prog w A s kind it lt N)(B:SBp it kind (l++(a,x,b)::(a+x,y,g)::r).toArray ix st)(hz:ix.size=N)(m:ix.Perm (Array.range N))(S:Seg lt ix a (a+x))(T:Seg lt ix (a+x) (a+x+y))(n:1<=x)(o:1<=y)(j:a+x+y<=N)
 (h:∀f c,SBp it kind (l++(a,x+y,b)::r).toArray f c->f.Perm ix->Seg lt f a (a+x+y)->(∀i,i<a\/a+x+y<=i->gx f i=gx ix i)->Q true c):YL prog w A E s (mergeAt' l.length) Q st:=by
 have p:(pendingOf st)[l.length]? = some (a,x,b):=by rw[B.pd];simp
 have t:(pendingOf st)[l.length+1]? = some (a+x,y,g):=by
  rw[B.pd,List.getElem?_toArray,UY (Ul _ _),VJ];rfl
 rw[kb];refine Yo (wpS_get ?_);rw[p,t];rw[B.arr];have u:SBp it kind (l++(a,x+y,b)::r).toArray ix (setPending st (((pendingOf st).setIfInBounds l.length (a,x+y,b)).eraseIdxIfInBounds (l.length+1))):=⟨B.arr,B.kd,B.fl,by rw[BX,B.pd];exact NY⟩;obtain⟨q,e⟩:∃q,a+x=q+1:=⟨a+x-1,()⟩;rw[e] at S T j h ⊢;exact mv W S T hz j u h O (λi v=>ER m (by rwa [hz])) e n o rfl
def yb (lt:Yd)(ix:Yi):Nat->List (Nat×Nat×Nat)->Nat->Prop
 |a,[],b=>a=b
 |a,p::r,b=>p.1=a/\1<=p.2.1/\Seg lt ix a (a+p.2.1)/\yb lt ix (a+p.2.1) r b
theorem yb.le {ix:Yi}:∀{l:Yc} {a b:Nat},yb lt ix a l b->a+l.length<=b
 | [],a,b,h=>by rw[h];simp
 |p::r,a,b,⟨_,h2,_,h4⟩=>by have:=h4.le;grind
theorem yb.app {ix:Yi}:∀{l r:Yc} {a b:Nat},yb lt ix a (l++r) b->∃c,yb lt ix a l c/\yb lt ix c r b
 | [],r,a,b,h=>⟨a,rfl,h⟩
 |p::l,r,a,b,⟨h1,h2,h3,h4⟩=>have ⟨c,e,f⟩:=yb.app h4;⟨c,⟨h1,h2,h3,e⟩,f⟩
theorem yb.cat {ix:Yi}:∀{l r:Yc} {a b c:Nat},yb lt ix a l c->yb lt ix c r b->yb lt ix a (l++r) b
 | [],r,a,b,c,h,k=>by rwa [h]
 |p::l,r,a,b,c,⟨h1,h2,h3,h4⟩,k=>⟨h1,h2,h3,yb.cat h4 k⟩
theorem yb.same {ix c:Yi}:∀{l:Yc} {a b:Nat},yb lt ix a l b->(∀i,a<=i->i<b->gx c i=gx ix i)->yb lt c a l b
 | [],a,b,h,_=>h
 |p::r,a,b,⟨h1,h2,h3,h4⟩,k=>⟨h1,h2,h3.same λi x y=>k i x (by have:=h4.le;lia),h4.same ()⟩
structure RI (it:Nat->Keyed)(kind:SortKind)(lt:Yd)(N:Nat)(ps:Yc)(lo:Nat)(ix:Yi)(st:SortSt):Prop where
 b:SBp it kind ps.toArray ix st
 size:ix.size=N
 perm:ix.Perm (Array.range N)
 ch:yb lt ix 0 ps lo
 le:lo<=N
def EX {i lo:Nat}{ps:Yc}{ix:Yi}{Q:Bool->YB}(W:Wk lt)(O:xY prog w A s kind it lt N)(R:RI it kind lt N ps lo ix st)(M:i+1<ps.length)
 (h:∀b e a,b.length+1=ps.length->RI it kind lt N b lo e a->(∀i,lo<=i->gx e i=gx ix i)->Q true a):YL prog w A E s (mergeAt' i) Q st:=by
 obtain⟨l,x,y,r,rfl,hl⟩:∃l x y r,ps=l++x::y::r/\l.length=i:=⟨ps.take i,ps[i],ps[i+1],ps.drop (i+2),by
  simp,()⟩
 have ⟨c,o,p⟩:=R.ch.app;have ⟨q,f,t⟩:=x;have ⟨P,g,S⟩:=y;have ⟨u,v,z,B,C,F,G⟩:=p;have H:=u;have I:=B;have J:=v;have K:=C;have j:yb lt ix (c+f+g) r lo:=G;subst H I;have T:=j.le;have le:=R.le;subst hl;refine NZ W O R.b R.size R.perm z F J K () λe a L m n U=>h (l++(q,f+g,t)::r) e a () ⟨L,by rw[m.size_eq];exact R.size,m.trans R.perm,?_,R.le⟩ ();rw[Nat.add_assoc] at n;refine(o.same ()).cat ⟨rfl,(),n,?_⟩;rw[<- Nat.add_assoc];exact j.same ()
def Oa {l:Yc}{x:Nat×Nat×Nat}(f):(l++[x]).toArray.modify ((l++[x]).toArray.size-1) f=(l++[f x]).toArray:=by
 have e:∀l:Yc,(l++[x]).modify l.length f=l++[f x]:=λl=>by
  induction l with
  |nil=>rfl
  |cons y l a=>show y::(l++[x]).modify l.length f=_;rw[a];rfl
 simp[e]
abbrev U2:=Option Unit×Unit
abbrev U1:=Option Unit×Nat
noncomputable def rg (a:Nat):SM (ForInStep U2):=get >>= λz=>match (if(pendingOf z).size > 1 then(pendingOf z)[(pendingOf z).size-2]? else none) with
 |some (_,_,older)=>if older<=a then pure (.done (none,Yt)) else mergeAt' ((pendingOf z).size-2) >>= λb=>if(!b)=true then pure (.done (some Yt,Yt)) else pure (.yield (none,Yt))
 |_=>pure (.done (none,Yt))
noncomputable def bW (lo n:Nat):SM (ForInStep U1):=(modify λs=>setPending s ((pendingOf s).push (lo,n,0))) >>= λ_=>pure (.yield (none,lo+n))
noncomputable def re (lo n a:Nat)(c:U2):SM (ForInStep U1):=match c.1 with
 |some r=>pure (.done (some r,lo))
 |none=>(modify λs=>setPending s ((pendingOf s).modify ((pendingOf s).size-1) λ(st,len,_)=>(st,len,a))) >>= λ_=>bW lo n
noncomputable def fN (N lo n:Nat):SM (ForInStep U1):=get >>= λz=>match (pendingOf z).back? with
 |some (s1,n1,_)=>(forIn [:N] ((none,Yt):U2) λ_ _=>rg (power' N (2*s1+n1) (2*s1+n1+n1+n) N)) >>= re lo n (power' N (2*s1+n1) (2*s1+n1+n1+n) N)
 |_=>bW lo n
noncomputable def dm (N a lo:Nat):SM (ForInStep U1):=if lo ≥ N then pure (.done (none,lo)) else countRun' lo (N-lo) >>= λr=>match r with
 |some n=>if n<a then(liftM (rule "list.sort.binary-insertion"):SM PUnit) >>= λ_=>binarySort' lo (min (N-lo) a) n >>= λb=>if(!b)=true then pure (.done (some Yt,lo)) else fN N lo (min (N-lo) a) else fN N lo n
 |_=>pure (.done (some Yt,lo))
def rf (p:Array (Nat×Nat×Nat)):Nat:=if Option.any (λx=>decide (x<p[p.size-2+1]?.elim 0 λx=>x.2.1)) (if p.size-2 > 0 then p[p.size-2-1]?.map (λx=>x.2.1) else none)=true then p.size-2-1 else p.size-2
noncomputable def rh:SM (ForInStep U2):=get >>= λz=>if(pendingOf z).size<=1 then pure (.done (none,Yt)) else mergeAt' (rf (pendingOf z)) >>= λb=>if(!b)=true then pure (.done (some Yt,Yt)) else pure (.yield (none,Yt))
set_option smartUnfolding false in
def vW:sortRuns'=(get >>= λz=>(forIn [:(arrOf z).size] ((none,0):U1) λ_ c=>dm (arrOf z).size (minRun' (arrOf z).size (arrOf z).size 0) c.2) >>= λc=>match c.1 with
 |some r=>pure r
 |none=>(forIn [:(arrOf z).size] ((none,Yt):U2) λ_ _=>rh) >>= λc=>match c.1 with
  |some r=>pure r
  |none=>pure Yt):=rfl
def Ob {c:Prop}[Decidable c]{x y z:Nat}(h:x<=z)(k:y<=z):(if c then x else y)<=z:=by split<;>assumption
def Oc {p:Array (Nat×Nat×Nat)}:rf p<=p.size-2:=Ob (U8 _ _) (Zf _)
section
variable {ps:Yc}{lo k pw:Nat}{jx px:Yi}{R:ForInStep U1->YB}(Sg:Seg lt jx lo (lo+k))(k1:1<=k)(k2:lo+k<=N)(suf:∀i,lo+k<=i->i<N->gx jx i=i)
 (go:∀ps jx st',RI it kind lt N ps (lo+k) jx st'->(∀i,lo+k<=i->i<N->gx jx i=i)->R (.yield (none,lo+k)) st')
include Sg k1 k2 suf go
theorem EY (a:RI it kind lt N ps lo jx st):YL prog w A E s (bW lo k) R st:=
 Yo (wpS_modify (Yp (go (ps++[(lo,k,0)]) jx _ ⟨⟨a.b.arr,a.b.kd,a.b.fl,by rw[BX,a.b.pd];simp⟩,a.size,a.perm,a.ch.cat ⟨rfl,k1,Sg,rfl⟩,k2⟩ suf)))
theorem Od (i:1<=ps.length)(a:RI it kind lt N ps lo jx st):YL prog w A E s (re lo k pw (none,Yt)) R st:=by
 rcases List.eq_nil_or_concat ps with z|⟨l2,v,z⟩
 .simp_all
 .subst z;rw[List.concat_eq_append] at a;refine Yo (wpS_modify (EY (ps:=l2++[(v.1,v.2.1,pw)]) Sg k1 k2 suf go ⟨⟨a.b.arr,a.b.kd,a.b.fl,?_⟩,a.size,a.perm,?_,a.le⟩))
  .rw[BX,a.b.pd];exact Oa _
  .obtain⟨c,b,e,f,g,h⟩:=a.ch.app;exact b.cat ⟨e,f,g,h⟩
end
def Oe {ps:Yc}{lo h:Nat}{e:Yi}{Q:ForInStep U2->YB}(W:Wk lt)(O:xY prog w A s kind it lt N)(m:1<=ps.length)(f:RI it kind lt N ps lo e st)(g:Q (.done (none,Yt)) st)
 (go:∀a c b,1<=a.length->RI it kind lt N a lo c b->(∀i,lo<=i->gx c i=gx e i)->Q (.yield (none,Yt)) b):YL prog w A E s (rg h) Q st:=by
 refine Yo (wpS_get ?_);rw[f.b.pd]
 split
 .have hp:2<=ps.length:=by
   grind
  refine wi (λ_=>Yp g) λ_=>Yo (EX W O f () λa c b n j l=>Yp (go a c b () j l))
 .exact Yp g
def Og {ps:Yc}{lo k:Nat}{ix a:Yi}{R:ForInStep U1->YB}(W:Wk lt)(O:xY prog w A s kind it lt N)(B:SBp it kind ps.toArray a st)(L:PlO lo N ix a (lo+k))(U:yV lt lo a (lo+k))(ch:yb lt ix 0 ps lo)(le:lo<=N)(k1:1<=k)(k2:lo+k<=N)
 (go:∀ps b e,RI it kind lt N ps (lo+k) b e->(∀i,lo+k<=i->i<N->gx b i=i)->R (.yield (none,lo+k)) e):YL prog w A E s (fN N lo k) R st:=by
 have m:Seg lt a lo (lo+k):=⟨L.mid,U⟩;have n:RI it kind lt N ps lo a st:=⟨B,L.size,L.perm,ch.same λi _ g=>L.low i g,le⟩;refine Yo (wpS_get ?_);rw[B.pd];rcases List.eq_nil_or_concat ps with z|⟨l,y,z⟩
 .subst z;exact EY m k1 k2 L.suf go n
 .have f:1<=ps.length:=by simp_all
  rw[show ps.toArray.back? = some y by simp_all];refine Yo (Yq (Yr (I:=λ_ c h=>c=(none,Yt)/\∃ps b,1<=ps.length/\RI it kind lt N ps lo b h/\∀i,lo<=i->gx b i=gx a i) ?_ (λ_ _ z=>z) ⟨rfl,_,a,f,n,λ_ _=>rfl⟩) ?_)
  .rintro y c h _ _ ⟨rfl,ps,b,f,j,un⟩;exact Oe W O f j () ()
  .rintro c h ⟨rfl,ps,b,f,j,un⟩;exact Od (m.same ()) k1 k2 (λi o g=>(un i (Zh (Ul _ _) o)).trans (L.suf i o g)) go f j
def Oh {ps:Yc}{e:Yi}{Q:ForInStep U2->YB}(W:Wk lt)(O:xY prog w A s kind it lt N)(R:RI it kind lt N ps N e st)(f:ps.length<=1->Q (.done (none,Yt)) st)
 (go:∀a g b,a.length+1=ps.length->RI it kind lt N a N g b->Q (.yield (none,Yt)) b):YL prog w A E s rh Q st:=by
 refine Yo (wpS_get ?_);rw[R.b.pd];refine wi (λc=>Yp (f c)) λc=>Yo (EX W O R ?_ λa e b h i _=>Yp (go a e b h i));have:=Oc (p:=ps.toArray)
 grind
def Oi {ix:Yi}{Q:Unit->YB}(W:Wk lt)(O:xY prog w A s kind it lt N)(C:RI it kind lt N [] 0 ix st)(l:∀i,i<N->gx ix i=i)(o:2<=N)
 (h:∀j f,arrOf f=j.map it->failedOf f=none->Pl N j N->Up lt j N->Q Yt f):YL prog w A E s sortRuns' Q st:=by
 have sz:(arrOf st).size=N:=by rw[C.b.arr,Uj];exact C.size
 rw[vW];refine Yo (wpS_get ?_);rw[sz];refine Yo (Yq (Yr (I:=λx c t=>∃lo ps ix,c=(none,lo)/\x<=lo/\RI it kind lt N ps lo ix t/\∀i,lo<=i->i<N->gx ix i=i) (Q:=λc t=>∃ps ix,c=(none,N)/\RI it kind lt N ps N ix t) ?_ ?_ ⟨0,[],ix,rfl,Zf _,C,λi _ X=>l i X⟩) ?_)
 .rintro x c t _ Y ⟨lo,ps,ix,rfl,J,R,l⟩;have le:=R.le;refine wi (λq=>?_) λq=>?_
  .have e:lo=N:=Nat.le_antisymm le q;subst e;exact Yp ⟨ps,ix,rfl,R⟩
  have q:lo<N:=Yv q;have Z:PlO lo N ix ix (lo+1):=⟨R.size,R.perm,λ_ _=>rfl,λa u o=>by
   rw[l a u (Zg o q)];exact⟨u,o⟩,λa u o=>l a (Uw u) o⟩
  have sub:∀{k},k<=N-lo->lo+k<=N:=λh=>Zh (Nat.add_le_add_left h _) (Yx (Vw le));have y:∀{k z F} {n:ForInStep U1->YB},SBp it kind ps.toArray z F->1<=k->k<=N-lo->PlO lo N ix z (lo+k)->yV lt lo z (lo+k)->(∀ps j f,x+1<=lo+k->RI it kind lt N ps (lo+k) j f->(∀i,lo+k<=i->i<N->gx j i=i)->n (.yield (none,lo+k)) f)->YL prog w A E s (fN N lo k) n F:=
   λB k1 k2 L U g=>Og W O B L U R.ch le k1 (sub k2) λps j f n s'=>g ps j f (Nat.add_le_add J k1) n s'
  exact Yo (NV W O (sub (Zf _)) (λm kx s2 K M m2 P U2=>wi (λS=>Yo (wpS_lift (wpAny_rule ⟨rfl,Yo (NX W O (sub (Nat.min_le_left _ _)) (Nat.le_min.mpr ⟨m2,Zz S⟩) M K P U2 λz F B3 L3 U3=>y B3 (Nat.le_min.mpr ⟨Nat.sub_pos_of_lt q,Nat.zero_lt_of_lt S⟩) (Nat.min_le_left _ _) L3 U3 λps j f g n s'=>⟨_,ps,j,rfl,g,n,s'⟩)⟩))) λ_=>y K M m2 P U2 λps j f g n s'=>⟨_,ps,j,rfl,g,n,s'⟩) (Nat.sub_pos_of_lt q) R.b Z)
 .rintro c t ⟨lo,ps,ix,rfl,J,R,l⟩;have le:=R.le
  grind
 .rintro c t ⟨ps,ix,rfl,R⟩;refine Yo (Yq (Yr (I:=λx c v=>∃ps ix,c=(none,Yt)/\(ps.length<=1\/ps.length+x<=N)/\RI it kind lt N ps N ix v) (Q:=λc v=>∃ps ix,c=(none,Yt)/\ps.length<=1/\RI it kind lt N ps N ix v) ?_ ?_ ⟨ps,ix,rfl,.inr (by have:=R.ch.le;lia),R⟩) ?_)
  .rintro x c v _ Y ⟨ps,ix,rfl,T,R⟩;exact Oh W O R (λc1=>⟨ps,ix,rfl,c1,R⟩) ()
  .grind
  .rintro c v ⟨ps,ix,rfl,T,R⟩;cases ps with
   |nil =>
    have:0=N:=R.ch;lia
   |cons p r =>
    have e:r=[]:=List.eq_nil_of_length_eq_zero (Nat.le_zero.mp (Nat.le_of_succ_le_succ T));subst e;obtain⟨d1,d2,G,H⟩:=R.ch;have H:0+p.2.1=N:=H;rw[H] at G;exact Yp (h ix v R.b.arr R.b.fl ⟨R.size,R.perm,λa ha=>(G.pl a (Ua _) ha).2,λa u o=>Zn o (Nat.not_lt_of_le u)⟩ λa b ab bn=>G.up a b (Ua _) ab bn)
end
open PySem PyProof.Rows
section
variable {prog:Program}{w:World}{A:Around}{E:Ya}{s:Shared}{kind:SortKind}{it:Nat->Keyed}{lt:Yd}{n:Nat}{ix:Yi}{st:SortSt}
def EZ (W:Wk lt)(O:xY prog w A s kind it lt n){Q:Unit->YB}(B:SB it kind ix st)(L:Pl n ix 1)(c:2<=n)(e:n<1000)
 (h:∀b a,arrOf a=b.map it->failedOf a=none->Pl n b n->Up lt b n->Q Yt a):YL prog w A E s sortRuns' Q st:=
 Oi W O ⟨⟨B.arr,B.kd,B.fl,B.pd⟩,L.size,L.perm,rfl,Ua _⟩ (λi f=>if z:i=0 then by rw[z];have:=L.pre 0 ();lia else L.suf i () f) c h
end
def jC (a:Yf)(i:Nat):Value:=a.getD i .none
def BY (vs):vs.toArray.zip vs.toArray=(Array.range vs.length).map λi=>(jC vs i,jC vs i):=by
 apply Array.ext_getElem?;intro k;rw[UO];by_cases h:k<vs.length
 .rw[Array.getElem?_range,Zd h];have e:jC vs k=vs[k]:=by unfold jC;rw[Us,Zqg h];rfl
  simp[Array.getElem?_zip_eq_some,h,e]
 .rw[Array.getElem?_range,Ze h,VV (by simp;lia)];rfl
def Fa (h:k<n):gx (Array.range n) k=k:=by
 simp_all [gx]
def Ae (n k)(b:k<=n):Pl n (Array.range n) k:=by
 refine⟨Array.size_range,Array.Perm.refl _,λa c=>?_,λa _ h=>Fa h⟩
 rwa [Fa ()]
section
variable {prog:Program}{w:World}{A:Around}{E:Ya}{s:Shared}{lt:Yd}
def zP (prog:Program)(w:World)(A:Around)(s:Shared)(a:Yf)(lt:Yd):Prop:=
 ∃kind,(∀(E:Ya) (Q:SortKind->YC),Q kind s->YK prog w A (keyKind' a.toArray) Q E s)/\xY prog w A s kind (λi=>(jC a i,jC a i)) lt a.length
def Fb (W:Wk lt)(m:s.heap.get? a=some (seqObj "list" vs.toArray n))(r:vs.length<1000)
 (z:∀x,(∀b o,b≠a->s.heap.get? b=some o->x.get? b=some o)->2<=vs.length->zP prog w A { s with heap:=x } vs lt)
 (h:∀c,Pl vs.length c vs.length->Up lt c vs.length->P (.done (.ret .none)) { s with heap:=sortedHeap s.heap a vs (c.map (jC vs)) }):
 YK prog w A (Builtin.«list.sort» ⟨[.ref a],[]⟩) P E s:=by
 rw[list_sort_plain];have I:a<s.heap.objs.size:=Zk m;obtain⟨t,g1⟩:∃t,(s.heap.update a (Obj.mapSeq λ_ => #[])).get? a=some (seqObj "list" #[] t):=⟨_,get?_update_seq m (λ_ => #[])⟩;refine Za (listItems_at m rfl (Za (listUpdate_at m rfl (Za (seqEpoch_at g1 rfl (Za (wpAny_newTuple (Za (wpAny_newList (wpAny_holding ?_))))))))));have u:∀b,b<s.heap.objs.size->b≠(s.heap.update a (Obj.mapSeq λ_ => #[])).objs.size:=λb p=>by
  rw[Heap.size_update];exact Zi p
 have v:∀b,b<s.heap.objs.size->b≠((s.heap.update a (Obj.mapSeq λ_ => #[])).push (seqObj "tuple" vs.toArray 0)).objs.size:=λb p=>by
  rw[size_push',Heap.size_update];exact by lia
 have q:(((s.heap.update a (Obj.mapSeq λ_ => #[])).push (seqObj "tuple" vs.toArray 0)).push (seqObj "list" #[] 0)).get? a=some (seqObj "list" #[] t):=by
  grind[Heap.get?_push_ne]
 have B:∀b o,b≠a->s.heap.get? b=some o->(((s.heap.update a (Obj.mapSeq λ_ => #[])).push (seqObj "tuple" vs.toArray 0)).push (seqObj "list" #[] 0)).get? b=some o:=λb o p e=>by
  rw[Heap.get?_push_ne _ _ _ (v b (Zk e)),Heap.get?_push_ne _ _ _ (u b (Zk e)),Heap.get?_update_ne _ _ _ _ p];exact e
 have y:∀(c:Yi),(c.map λi=>(jC vs i,jC vs i)).map (·.2)=c.map (jC vs):=by simp
 show YK prog w A _ P E { s with heap:=((s.heap.update a (Obj.mapSeq λ_ => #[])).push (seqObj "tuple" vs.toArray 0)).push (seqObj "list" #[] 0) };dsimp only;have sz:vs.toArray.size=vs.length:=by simp
 by_cases g:vs.toArray.size<2
 .rw[Zd g,Zd g];refine Za (Zb ?_);rw[StateT.run_pure];refine Za (Zb ?_);dsimp only;refine Za (seqEpoch_at q rfl (Za (listUpdate_at q rfl ?_ (hsz2:=by rw[Uj,BY,Uj,Array.size_range,sizeLine_eq];lia))));simp only[bne_self_eq_false,UC,if_false];have f:=h (Array.range vs.length) (Ae _ _ (Zf _)) λi j J K=>()
  rw[<- y,<- BY] at f;exact Zb f
 .rw[Ze g,Ze g];obtain⟨kind,k1,k2⟩:=z _ B ();refine Za (k1 _ _ ?_);refine Za (Zc (EZ W k2 (ix:=Array.range vs.length) (st:=SortSt.mk' kind (vs.toArray.zip vs.toArray) #[] 7 none) (Q:=λ_ l=>∃c,arrOf l=c.map (λi=>(jC vs i,jC vs i))/\failedOf l=none/\Pl vs.length c vs.length/\Up lt c vs.length)
   ⟨BY vs,rfl,rfl,rfl⟩ (Ae _ _ ()) () r λc l C F G H=>⟨c,C,F,G,H⟩) ?_ λ_ _ e=>e)
  rintro⟨⟨⟩,l⟩ s' ⟨rfl,c,q1,q2,q3,q4⟩;dsimp only;refine Za (seqEpoch_at q rfl (Za (listUpdate_at q rfl ?_ (hsz2:=by
   rw[Uj,q1,Uj,q3.size,sizeLine_eq];lia))))
  rw[q2];simp only[bne_self_eq_false,UC,if_false];have f:=h c q3 q4;rw[<- y,<- q1] at f;exact Zb f
def Fc (W:Wk lt)
 (j:wpAny (model prog w) A.in1 (collect x) (λa c=>a.length<1000/\(∀f,(∀b o,c.heap.get? b=some o->f.get? b=some o)->2<=a.length->zP prog w A.in1.in1 { c with heap:=f } a lt) /\
  ∀g f l,Pl a.length g a.length->Up lt g a.length->(∀b o,c.heap.get? b=some o->f.get? b=some o)->c.heap.objs.size<=l->(∃e,f.get? l=some (seqObj "list" (g.map (jC a)) e))->Q (.ref l) { c with heap:=f }) E s):
 YK prog w A (call (.builtin "sorted") [x]) Q E s:=by
 refine Calls.call_function_entry kind_sorted plain_sorted entry_sorted (args_sorted1 _) (Za (Zb (Za (Zc j (λa c z=>?_) λ_ _ e=>e))));obtain⟨h,m,n⟩:=z;have i:(c.heap.push (seqObj "list" a.toArray 0)).get? c.heap.objs.size=some (seqObj "list" a.toArray 0):=Zr _ rfl;have q:∀b o,c.heap.get? b=some o->b≠c.heap.objs.size:=λb o e=>Zi (Zk e);refine Za (wpAny_newList (Za (wpAny_holding (wpAny_call_entry slot_list_sort ⟨_,i,rfl⟩ entry_list_sort (Fb W i h (λf r=>m f λb o e=>r b o (q b o e) (Zq _ e)) λg p u=>⟨_,rfl,Zb ⟨_,rfl,n g _ _ p u (λb o e=>?_) (Zf _) (sortedHeap_at i)⟩⟩) (args_list_sort _)))))
 grind[size_push',sortedHeap_old,Nat.lt_succ_of_lt,Heap.lt_size,Heap.get?_push_of_some]
end
structure Tot {α: Type}(ltb:α -> α -> Bool):Prop where
 asy:∀a b,ltb a b=true->ltb b a=false
 neg:∀a b c,ltb a c=true->ltb a b=true\/ltb b c=true
 tot:∀a b,ltb a b=false->ltb b a=false->a=b
def Tot.irr {α: Type}{ltb:α -> α -> Bool}(T:Tot ltb)(a):ltb a a=false:=by
 cases q:ltb a a with
 |false=>rfl
 |true=>have:=T.asy _ _ q;simp_all
def Tot.wk {α: Type}{ltb:α -> α -> Bool}(T:Tot ltb)(f:Nat -> α):Wk λi j=>ltb (f i) (f j):=⟨λi j=>T.asy _ _,λi j k=>T.neg _ _ _⟩
def jV (p q:Int×Int):Bool:=decide (p.1<q.1)||(decide (p.1=q.1)&&decide (p.2<q.2))
theorem W6:jV p q=true↔p.1<q.1\/(p.1=q.1/\p.2<q.2):=by
 unfold jV;simp
theorem XR:jV p q=false↔¬(p.1<q.1\/(p.1=q.1/\p.2<q.2)):=by
 rw[<- W6];simp
def wb:Tot jV:=by
 refine⟨λa b h=>?_,λa b c h=>?_,λa b e f=>?_⟩
 .rw[W6] at h;rw[XR];lia
 .grind[W6]
 grind[XR]
def j9:Jy->Jy->Bool
 | [],[]=>false
 | [],_::_=>true
 |_::_,[]=>false
 |p::r,q::s=>if p=q then j9 r s else jV p q
def Ux (p q)(r s):j9 (p::r) (q::s)=if p=q then j9 r s else jV p q:=rfl
theorem Fd:∀a b:Jy,j9 a b=true->j9 b a=false
 | [],[],h=>JF h
 | [],_::_,_=>rfl
 |_::_,[],h=>JF h
 |p::r,q::s,h=>by
  rw[Ux] at h ⊢;by_cases e:p=q
  .rw[Zd e] at h;rw[Zd e.symm];exact Fd r s h
  .rw[Ze e] at h;rw[Ze (λz=>e z.symm)];exact wb.asy _ _ h
theorem Fe:∀a b c:Jy,j9 a c=true->j9 a b=true\/j9 b c=true
 | [],[],c,h=>.inr h
 | [],_::_,_,_=>.inl rfl
 |_::_,_,[],h=>JF h
 |p::r,[],q::s,_=>.inr rfl
 |p::r,x::t,q::s,h=>by
  rw[Ux] at h;rw[Ux,Ux];by_cases e:p=q
  .rw[Zd e] at h;by_cases f:p=x
   .rw[Zd f,Zd (f.symm.trans e)];exact Fe r t s h
   .rw[Ze f,Ze (λz=>f (e.trans z.symm))];cases z:jV p x with
    |true=>simp
    |false =>
     right;rw[<- e];cases y:jV x p with
     |true=>rfl
     |false=>exact Zn (wb.tot _ _ z y) f
  .rw[Ze e] at h;by_cases f:p=x
   .simp_all
   .rw[Ze f];by_cases g:x=q
    .left
     rwa [g]
    .rw[Ze g];exact wb.neg _ _ _ h
theorem Ff:∀a b:Jy,j9 a b=false->j9 b a=false->a=b
 | [],[],_,_=>rfl
 | [],_::_,h,_=>by cases h
 |_::_,[],_,h=>by cases h
 |p::r,q::s,h1,h2=>by
  rw[Ux] at h1 h2;by_cases e:p=q
  .rw[Zd e] at h1;rw[Zd e.symm] at h2;rw[e,Ff r s h1 h2]
  .rw[Ze e] at h1;rw[Ze (λz=>e z.symm)] at h2;exact Zn (wb.tot _ _ h1 h2) e
def xM:Tot j9:=⟨Fd,Fe,Ff⟩
section
variable {α: Type}(ltb:α -> α -> Bool)
def zb (x:α):List α -> List α
 | []=>[x]
 |y::r=>if ltb x y=true then x::y::r else y::zb x r
def JV:List α -> List α
 | []=>[]
 |x::r=>zb ltb x (JV r)
def Sd (l:List α):Prop:=l.Pairwise λa b=>ltb b a=false
variable {ltb}
theorem BZ (x):∀l:List α,(zb ltb x l).Perm (x::l)
 | []=>Vz _
 |y::r=>by
  unfold zb
  split
  .rfl
  .exact((BZ x r).cons y).trans (List.Perm.swap x y r)
theorem Q4:∀l:List α,(JV ltb l).Perm l
 | []=>Vz _
 |x::r=>(BZ x _).trans ((Q4 r).cons x)
theorem Fg (T:Tot ltb)(x):∀l:List α,Sd ltb l->Sd ltb (zb ltb x l)
 | [],_=>VW _ _
 |y::r,h=>by
  have ⟨b,a⟩:=Jh.mp h;unfold zb
  split
  .rename_i c;refine Jh.mpr ⟨λz hz=>?_,h⟩;rcases U0.mp hz with e|e
   .rw[e];exact T.asy _ _ c
   .cases q:ltb z x with
    |false=>rfl
    |true =>
     rcases T.neg x z y c with u|u
     .rw[T.asy _ _ u] at q;exact JF q
     simp_all
  .refine Jh.mpr ⟨λz hz=>?_,Fg T x r a⟩
   grind[BZ]
theorem W7 (T:Tot ltb):∀l:List α,Sd ltb (JV ltb l)
 | []=>List.Pairwise.nil
 |x::r=>Fg T x _ (W7 T r)
theorem Af (T:Tot ltb):∀{a b:List α},a.Perm b->Sd ltb a->Sd ltb b->a=b
 | [],b,p,_,_=>p.nil_eq
 |x::r,b,p,ha,hb=>by
  cases b with
  |nil=>simp_all
  |cons y t =>
   have ⟨c,f⟩:=Jh.mp ha;have ⟨b1,b2⟩:=Jh.mp hb;have e:x=y:=by
    rcases U0.mp (p.mem_iff.mp Zqs) with z|z
    .exact z
    .rcases U0.mp (p.mem_iff.mpr Zqs) with u|u
     .exact u.symm
     .exact T.tot _ _ (b1 x z) (c y u)
   subst e;rw[Af T p.cons_inv f b2]
def Cb (T:Tot ltb){l:List α}{d:α}(p:Pl l.length jx l.length)(u:Up (λi j=>ltb (l.getD i d) (l.getD j d)) jx l.length):jx.toList.map (λi=>l.getD i d)=JV ltb l:=by
 refine Af T ?_ ?_ (W7 T l)
 .refine Vx ?_ (Q4 l).symm;have q:jx.toList.Perm (List.range l.length):=by
   have:=Jo.mp p.perm;simpa using this
  refine(q.map _).trans (List.Perm.of_eq ?_);apply List.ext_getElem
  .simp
  .intro i m c;simp[c]
 .refine Ji.mpr λa b e f ab=>?_;rw[VL,VL];have sz:jx.toList.length=l.length:=by rw[Ui,p.size]
  rw[Zql] at e f;have g:jx.toList[a]=gx jx a:=by
   simp_all [gx]
  have h:jx.toList[b]=gx jx b:=by
   simp_all [gx]
  rw[g,h];exact jI.no (T.wk λi=>l.getD i d) (u a b ab ())
end
theorem Qg {α: Type}{l:List α}{d x:α}(h:l[i]? = some x):l.getD i d=x:=()
def W8 (h:Heap)(b:Yf)(ps:Jy):Prop:=b.length=ps.length/\∀(i:Nat) p,ps[i]? = some p->∃a o n t u,b[i]? = some (.ref a)/\h.get? a=some o/\o.cls=.type "tuple" /\ o.data=.seq #[.int p.1 t,.int p.2 u] n
section
variable {prog:Program}{w:World}{A:Around}{s:Shared}
theorem Fh:∀{b:Yf} {ps:Jy},W8 h b ps->∃fs,W.KatTups h b fs/\fs.length=b.length/\∀v∈fs,∃k t,v=Value.int k t
 | [],ps,q=>⟨[],.nil,rfl,()⟩
 |v::b,[],q=>by have:=q.1;simp at this
 |v::b,p::ps,q=>by
  obtain⟨a,o,n,t,u,c,e,f,g⟩:=q.2 0 p rfl;obtain rfl:=Zqi c;have ⟨fs,k1,k2,k3⟩:=Fh ⟨by have:=q.1;simp_all,λi p hp=>q.2 (i+1) p hp⟩;refine⟨.int p.1 t::fs,.cons e f g rfl k1,by simp[k2],λv j=>?_⟩
  grind
def Oj (q:W8 s.heap vs ps)(B:2<=vs.length):zP prog w A s vs λi j=>jV (ps.getD i (0,0)) (ps.getD j (0,0)):=by
 obtain⟨fs,k1,k2,k3⟩:=Fh q;refine⟨tuples' (Value.type "int" != Value.type "tuple"),λE Q h=>W.kat_kind (T:=Value.type "int") k1 () (λv b=>?_) rfl h,λi j C F E Q h=>?_⟩
 .obtain⟨k,t,rfl⟩:=k3 v b;exact W.Looks.of_pure rfl
 .have G:=q.1;obtain⟨p,hp⟩:∃p,ps[i]? = some p:=by grind
  obtain⟨p',hp'⟩:∃p,ps[j]? = some p:=by grind
  obtain⟨a,o,n,t,u,e,f,H,l⟩:=q.2 i p hp;obtain⟨I,J,K,t',m,r,x,L,y⟩:=q.2 j p' hp';dsimp only at h;rw[Qg hp,Qg hp'] at h;show YK prog w A (keyLt' _ (jC vs i) (jC vs j)) Q E s;unfold jC;rw[Qg e,Qg r];refine W.kat_lt f l x y ?_;refine W.kat_cons (PySem.SeqAt.EqAt.int_int p.1 t p'.1 t' prog w _ _ ?_);by_cases c:p.1=p'.1
  .rw[show(p.1 == p'.1)=true by simpa using c];refine W.kat_yes (W.kat_cons (PySem.SeqAt.EqAt.int_int p.2 u p'.2 m prog w _ _ ?_));by_cases d:p.2=p'.2
   .rw[show(p.2 == p'.2)=true by simpa using d];refine W.kat_yes (W.kat_nil ?_)
    grind[XR]
   .rw[show(p.2 == p'.2)=false by simp_all];refine W.kat_no (W.kat_one _ _ (lt_int ?_));have z:jV p p'=decide (p.2<p'.2):=by
     grind[W6,XR]
    rw[z] at h;exact h
  .rw[show(p.1 == p'.1)=false by simpa using c];refine W.kat_no (oneLt_int ?_);have z:jV p p'=decide (p.1<p'.1):=by
    by_cases g:p.1<p'.1
    .rw[Zp g,W6];lia
    .rw[Zo g,XR];lia
   rwa [z] at h
structure RowAt (h:Heap)(v:Value)(r:Jy)(a:Addr)(o:Obj)(us:Yf)(n:Nat):Prop where
 isv:v=.ref a
 get:h.get? a=some o
 cls:o.cls=.type "tuple"
 dat:o.data=.seq us.toArray n
 prs:W8 h us r
def Cc (ok:qH P w H h)(g:Is H (rD r) x)(j:jv x v):∃a o l n,RowAt h v r a o l n:=by
 obtain⟨a,J,rfl,m,c⟩:=g;obtain rfl:=j;obtain⟨_,its,e,o,q,t,n,y⟩:=(ok a _ m);refine⟨a,o,its,n,rfl,q,t,y,?_,λi p hp=>?_⟩
 .have K:=c.length;have L:=e.length
  simp_all
 .obtain⟨x,z,B⟩:=c.get (by rw[Zv,hp];rfl);obtain⟨u,M,C⟩:=e.get z;obtain⟨b,rfl,E⟩:=bB.mp B;obtain rfl:=C;obtain⟨_,f,F,N,O,Q,R,S⟩:=(ok b _ E);obtain⟨T,U,rfl,G,I⟩:=ZO F;obtain⟨X,rfl⟩:=(G);obtain⟨Y,rfl⟩:=(I)
  simp_all
theorem Fi (I:A.units+4<cLine){f:Bool}{E:Ya}{Q:Bool->YC}:∀{r g:Jy} {e b:Yf} i,W8 s.heap e r->W8 s.heap b g ->
 f=decide (r.length<g.length)->Q (j9 r g) s->W.KatLex prog w A false f Q (e.zip b) i s
 | [],[],e,b,i,q,q',hf,h=>by
  obtain rfl:e=[]:=Jp.mp q.1;refine W.kat_nil ?_;rw[hf];exact h
 | [],p::g,e,b,i,q,q',hf,h=>by
  obtain rfl:e=[]:=Jp.mp q.1;refine W.kat_nil ?_;rw[hf,Zp ()];exact h
 |p::r,[],e,b,i,q,q',hf,h=>by
  obtain rfl:b=[]:=Jp.mp q'.1;rw[List.zip_nil_right];refine W.kat_nil ?_;rw[hf,Zo ()];exact h
 |p::r,p'::g,e,b,i,q,q',hf,h=>by
  obtain⟨a,o,n,t,u,j,m,x,y⟩:=q.2 0 p rfl;obtain⟨B,J,K,t',C,l,F,G,H⟩:=q'.2 0 p' rfl;cases e with
  |nil=>exact J6 j
  |cons v e =>
   cases b with
   |nil=>exact J6 l
   |cons L b =>
    have j:some v=some (Value.ref a):=j;have l:some L=some (Value.ref B):=l;obtain rfl:=Zqi j;obtain rfl:=Zqi l;have M:Reads s.heap (.ref a) (pD p) _:=.tuple m x y (.cons (.int p.1 t) (.cons (.int p.2 u) .nil));have R2:Reads s.heap (.ref B) (pD p') _:=.tuple F G H (.cons (.int p'.1 t') (.cons (.int p'.2 C) .nil));have P:∀z:Int×Int,(pD z).depth=1:=λz=>by
     rfl
    refine W.kat_cons (PySem.SeqAt.eqAt_reads _ _ A s _ _ _ _ M R2 rfl rfl () prog w _ _ ?_);rw[Ux] at h;by_cases c:p=p'
    .subst c;rw[N7 (BM p)];rw[Zd rfl] at h;refine W.kat_yes (Fi I (E:=E) (i+1) ⟨by have:=q.1;simp_all,λi z hz=>q.2 (i+1) z hz⟩ ⟨by have:=q'.1;simp_all,λi z hz=>q'.2 (i+1) z hz⟩ () h)
    .rw[Ze c] at h;have ne:pD p≠pD p':=λz=>c (by
      grind[pD])
     rw[N6 (BM p) (BM p') ne];have N:IntsAre (#[Value.int p.1 t,Value.int p.2 u]:Yn).toList [p.1,p.2]:=.cons _ _ (.cons _ _ .nil);have O:IntsAre (#[Value.int p'.1 t',Value.int p'.2 C]:Yn).toList [p'.1,p'.2]:=.cons _ _ (.cons _ _ .nil);refine W.kat_one _ _ (HT.lt_tupInts ⟨o,m,x,n,y⟩ ⟨J,F,G,K,H⟩ N O () ?_);have z:HT.lexLt [p.1,p.2] [p'.1,p'.2]=jV p p':=by
      grind[jV,HT.lexLt_cons,HT.lexLt_nil_nil]
     rwa [z]
def Fj {P:Program}{H:Hp}{rs:Jz}{J:YF}{c:Yf}(S:A.units+4<cLine)(ok:qH P w H s.heap)(K:qh H (rs.map rD) J)(L:ju J c)(e:∀r∈rs,r ≠ [])(h2:2<=c.length):
 zP prog w A s c λi j=>j9 (rs.getD i []) (rs.getD j []):=by
 have U:=K.length;have l2:=L.length;rw[Zql] at U;have at_:∀(i:Nat) r,rs[i]? = some r->∃v a o l n,c[i]? = some v/\RowAt s.heap v r a o l n:=λi r g=>by
  obtain⟨x,X,M⟩:=K.get (i:=i) (d:=rD r) (by rw[Zv,g];rfl);obtain⟨v,m,Y⟩:=L.get X;obtain⟨a,o,l,n,R⟩:=Cc ok M Y;exact⟨v,a,o,l,n,m,R⟩
 have f:∀c (rs:Jz),c.length=rs.length->(∀r∈rs,r ≠ [])->(∀(i:Nat) r,rs[i]? = some r->∃v a o l n,c[i]? = some v/\RowAt s.heap v r a o l n)->∃fs,W.KatTups s.heap c fs/\fs.length=c.length/\∀v∈fs,∃b q,v=Value.ref b/\s.heap.get? b=some q/\q.cls=.type "tuple" := by
  intro c
  induction c with
  |nil=>exact λ_ _ _ _=>⟨[],.nil,rfl,λv m=>nomatch m⟩
  |cons v c Z =>
   intro rs N e B;cases rs with
   |nil=>simp at N
   |cons r rs =>
    obtain⟨O,a,o,l,n,C,R⟩:=B 0 r rfl;have C:some v=some O:=C;obtain rfl:=Zqi C;obtain⟨fs,k1,k2,k3⟩:=Z rs (by simpa using N) (λr g=>e r (Zqm _ g)) λi r g=>B (i+1) r g;cases r with
    |nil=>exact Zn rfl (e [] Zqs)
    |cons p r =>
     obtain⟨b,q,nb,t,u,G,I,g3,g4⟩:=R.prs.2 0 p rfl;obtain rfl:v=Value.ref a:=R.isv;refine⟨.ref b::fs,.cons R.get R.cls R.dat (by simpa using G) k1,by simp[k2],λz hz=>?_⟩;rcases U0.mp hz with y|y
     .exact⟨b,q,y,I,g3⟩
     .exact k3 z y
 obtain⟨fs,k1,k2,k3⟩:=f c rs () e at_;refine⟨tuples' (Value.type "tuple" != Value.type "tuple"),λE Q h=>W.kat_kind (T:=Value.type "tuple") k1 () (λv m=>?_) rfl h,λi j M hj E Q h=>?_⟩
 .obtain⟨b,q,rfl,G,I⟩:=k3 v m;rw[<- I];exact(W.Looks.ld G).andThen .now
 .obtain⟨r,g⟩:∃r,rs[i]? = some r:=by grind
  obtain⟨r',hr'⟩:∃r,rs[j]? = some r:=⟨_,Zqg ()⟩;obtain⟨v,a,o,l,n,C,R⟩:=at_ i r g;obtain⟨O,a',o',us',n',f1,F⟩:=at_ j r' hr';dsimp only at h;rw[Qg g,Qg hr'] at h;show YK prog w A (keyLt' _ (jC c i) (jC c j)) Q E s;unfold jC;rw[Qg C,Qg f1,R.isv,F.isv];refine W.kat_lt R.get R.dat F.get F.dat ?_;exact Fi S (E:=E) 0 R.prs F.prs (by rw[Zm,Zm,R.prs.1,F.prs.1]) h
end
section
variable {X:Cx}{tg iter elt c:Expr}{scope:Scope}{pos:Pos}{wi:TI}{g:TG}{te:TE}{tt:TT}
def Fk (N)(cap)(p:X.calm=true)(l:QH scope X.env N X.N cap=true)(r:PI X tg iter wi)(t:∀a C s H f,PG (JK X scope N a C s H f) tg g)(u:∀a C s H f,PT (JK X scope N a C s H f) c tt)(v:∀a C s H f,PE (JK X scope N a C s H f) elt te)
 (hs:∀x,foldedSetIterable iter X.env x=pure x) {use:Option (Value->Sem Unit)} {R:Ya} {i:Pos} {Y:Yb} {s:Shared} {Z: St} {H:Hp} {Q:VK} (I:Inv X Y Z H s) (h:XF cap wi g tt te Z H Q) (m:XG X Y Z Q use R):
 YJ X (comprehension (.ListComp elt [⟨tg,iter,[c],0⟩] scope pos) scope X.env i (newList []) false (eval iter X.env) use) R X.xe s:=
 Ez (test:=λenv R Q s=>YJ X (isTrue c env (eval c env)) Q (notedBy (model X.prog X.w) X.A env λe s'=>R (.error e) s') s) N (λI j n h=>W.kct_loop I j n h)
  (λa C s H f _ _ _ _ _ _ _ _ o I q k=>Zc (u a C s H f _ _ _ _ _ I q) (λb w z=>by obtain⟨y,A,B⟩:=z;exact k b w y A B) λe s' E=>Zc E (λ_ F z=>o _ _ z) λ_ _ z=>o _ _ z) cap p l r t (λa C s H f _=>v a C s H f) hs I h m
def Ol (N)(cap)(f:X.calm=true)(e:QH scope X.env N X.N cap=true)(i:PI X tg iter wi)(j:∀a C s H b,PG (JK X scope N a C s H b) tg g)(l:∀a C s H b,PT (JK X scope N a C s H b) c tt)(m:∀a C s H b,PE (JK X scope N a C s H b) elt te)
 (hs:∀x,foldedSetIterable iter X.env x=pure x:=by intro _;rfl):PE X (.ListComp elt [⟨tg,iter,[c],0⟩] scope pos) (XF cap wi g tt te):=λY s Z H Q I h=>Fk N cap f e i j l m hs I h Ey
end
theorem Om {L:List (Addr×HO)}{b:Addr}{u:HO}(h:L.lookup b=some u):(b,u)∈L:=by
 induction L with
 |nil=>exact J6 h
 |cons p r a =>
  grind
def qz (H:Hp)(L:List (Addr×HO)):Hp:=λb=>match L.lookup b with
 |some o=>some o
 |none=>H b
def Ag (h:∀p∈L,p.1≠b):qz H L b=H b:=by
 grind[qz,List.lookup_cons]
def Fl (b:(L.map (·.1)).Nodup)(h:(a,o)∈L):qz H L a=some o:=by
 unfold qz;have e:L.lookup a=some o:=by
  induction L with
  |nil=>cases h
  |cons p r c =>
   grind
 rw[e]
def Fo (h:qz H L b=some u):(b,u)∈L\/((∀p∈L,p.1≠b)/\H b=some u):=by
 grind[qz,Zqi,Om]
def Inv.laidMany (I:Inv X Y Z H s)(k:∀b u,s.heap.get? b=some u->h'.get? b=some u)(hp:∀p∈L,s.heap.objs.size<=p.1)
 (ok:∀p∈L,xL X.prog X.w (qz H L) h' p.1 p.2):Inv X Y Z (qz H L) { s with heap:=h',toks:=t' }:=by
 have a:∀b u,s.heap.get? b=some u->∀p∈L,p.1≠b:=λb u e p c z=>Zn (Zg (Zk e) (by rw[<- z];exact hp p c)) (Zy _);have f:∀b u,H b=some u->qz H L b=some u:=λb u e=>by
  rwa [Ag λp c z=>Zn (Zg (I.hok.lt e) (by rw[<- z];exact hp p c)) (Zy _)]
 refine I.un ⟨(),λb u q _ _ _=>⟨u.slots,k b u q⟩,λb u q n _=>by rwa [Ag (a b u q)],(),(),(),λb ps q=>⟨#[],()⟩⟩ λb u e=>?_;rcases Fo e with z|⟨z,e'⟩
 .exact ok (b,u) z
 .exact(I.hok b u e').stay () () ()
theorem Fp:∀{L:Yj},(∀i∈L,Is H (f i) (g i))->qh H (L.map f) (L.map g)
 | [],_=>by rfl
 |i::L,h=>⟨_,_,rfl,(),Fp ()⟩
theorem Xc:∀{L:Yj},(∀i∈L,jv (g i) (u i))->ju (L.map g) (L.map u)
 | [],_=>.nil
 |i::L,h=>.cons () (Xc ())
def Pl.mem (p:Pl n jx n)(h:i∈jx.toList):i<n:=by
 have q:=(Jo.mp p.perm).mem_iff.mp h
 simp_all
def Pl.len (p:Pl n jx k):jx.toList.length=n:=by rw[Ui,p.size]
section
variable {X:Cx}
def Oo (P:X.A.units+64<cLine):jU X (.builtin "sorted") (λt H Q=>∃a ys rs,t=[.ref a]/\Rd H a (.lst ys)/\qh H (rs.map rD) ys/\(∀r∈rs,r ≠ [])/\rs.length<1000 /\
 ∀l (ix:Yj),H l=none->(∀i∈ix,i<rs.length)->ix.map (λi=>rs.getD i [])=JV j9 rs->Q (.ref l) (jB H l (.lst (ix.map λi=>ys.getD i .non)))):=by
 intro Y s Z H t R Q I z h;obtain⟨a,ys,rs,rfl,A,g,j,B,q⟩:=h;obtain⟨u,rfl,C⟩:=QU z;obtain rfl:u=Value.ref a:=C;obtain⟨its,m,pl,hz⟩:=I.list (.inl A);have E:=g.length;have S:=m.length;rw[Zql] at E;have F:its.length=rs.length:=()
 have G:∀b o,s.heap.get? b=some o->((s.heap.push (seqObj "list" #[] 0)).update s.heap.objs.size (Obj.mapSeq (· ++ its.toArray))).get? b=some o:=λb o e=>by
  rw[Heap.get?_update_ne _ _ _ _ (Zi (Zk e)),Heap.get?_push_ne _ _ _ (Zi (Zk e))];exact e
 refine Fc (xM.wk λi=>rs.getD i []) (collect_list pl.isList ⟨(),λJ w K=>Fj () (I.hok.kept λb o e=>w b o (G b o e)) g m j K,λf J l p u w T n=>?_⟩ ());obtain⟨e,n⟩:=n;rw[F] at p u;have c:s.heap.objs.size<=l:=by
  grind[Heap.size_update,size_push']
 have at_:∀i∈f.toList,∃x v,ys[i]? = some x/\its[i]? = some v/\jv x v/\Is H (rD (rs.getD i [])) x:=λi L=>by
  have U:=p.mem L;obtain⟨x,y,M⟩:=g.get (i:=i) (d:=rD (rs.getD i [])) (by
   grind[List.getElem?_map,Zqg,Qg])
  obtain⟨v,N,O⟩:=m.get y;exact⟨x,v,y,N,O,M⟩
 refine⟨.ref l,jB H l (.lst (f.toList.map λi=>ys.getD i .non)),I.laid () c ⟨?_,f.toList.map (jC its),e,?_,?_⟩,rfl,q l f.toList (I.hok.fresh c) () (Cb xM p u)⟩
 .rw[Zql,p.len];lia
 .grind[jC,Xc,Qg]
 .rw[n]
  congr 3
  apply Vj;simp
def Wl (a d:Addr):HO:=.ext λh=>h.IsItemsView a d
def Op:nM X "dict.items" (λx c H Q=>∃d a,x=.ref d/\c=[]/\H d=some (.dK a)/\∀p,H p=none->Q (.ref p) (jB H p (Wl p d))):=by
 intro Y s Z H x c v n Q I f g h;obtain⟨d,a,rfl,rfl,i,q⟩:=h;obtain rfl:=f;obtain rfl:=zi g;obtain⟨z,lo,j,l,dd⟩:=BE I.hok i;exact call_meetsIn PySem.F.slot_dict_items dd.typeIs PySem.F.entry_dict_items (PySem.F.args_dict_items_1 _) (meets_dict_items (Q3 X.prog X.w) d lo) ⟨⟨j,dd⟩,⟨.ref s.heap.objs.size,jB H s.heap.objs.size (Wl s.heap.objs.size d),I.laid (λb o e=>Zq _ e) (Zf _) (⟨⟨_,Zr _ rfl,rfl,rfl⟩,⟨_,Zr _ rfl⟩,λt u z m=>have ⟨o,e,r⟩:=z;⟨o,m o e,r⟩⟩),rfl,q _ (I.hok.fresh (Zf _))⟩⟩
def Oq (hc:X.calm=true):jU X (.builtin "sorted") (λxs H Q=>∃j d r,xs=[.ref j]/\H j=some (Wl j d)/\H d=some (.dK (xq r))/\r ≠ []/\r.length<1000 /\
 ∀l L,(∀p∈L,H p.1=none)->(L.map (·.1)).Nodup->(∀G,Is (qz G L) (.list ((JV jV r).map pD)) (.ref l))->Q (.ref l) (qz H L)):=by
 intro Y s Z H xs us Q I rv h;obtain⟨j,d,r,rfl,hv,hd,S,h64,q⟩:=h;obtain⟨u,rfl,ru⟩:=QU rv;obtain rfl:u=Value.ref j:=ru;obtain⟨w,_,_⟩:=(show xL X.prog X.w H s.heap j (Wl j d) from I.hok j _ hv);obtain⟨z,lo,ws,J,od,es,ep,d1,d2,d3,d4,d5,d6⟩:=BE I.hok hd;have lk:=J.length;have lr:(xq r).length=r.length:=Zql _;have T:s.heap.DictAt (Q3 X.prog X.w) d ws ep:=⟨od,es,d1,d2,d3,d4,d5,d6⟩;refine Fc (wb.wk λi=>r.getD i (0,0)) (W.kdx_collect (knd:=Q3 X.prog X.w) (I.ok.hd hc) w T (by rw[<- lk,lr];exact QY ()) λh1 tk c U la G=>?_);have lv:(c.map Value.ref).length=r.length:=by rw[Zql];lia
 have pa:∀n,(∀b o,h1.get? b=some o->n.get? b=some o)->W8 n (c.map Value.ref) r:=λn A=>by
  refine⟨lv,λi p hp=>?_⟩;have f:i<c.length:=by
   have:=(Jc.mp hp).1;lia
  obtain⟨B,k,x,g1,g2,g3⟩:=G.pairs i c[i] ();have kv:KV (xq r) ws:=J;have hk:(xq r)[i]? = some (Ue p.1,V.int p.2):=by unfold xq;rw[Zv,hp];rfl
  have K:∀{l1:List (j7×V)} {l2:List (j7×Value)} {i:Nat} {a:j7×V} {b:j7×Value},KV l1 l2->l1[i]? = some a->l2[i]? = some b->a.1=b.1/\jv a.2 b.2:=by
   intro l1 l2 i a b M;unfold KV at M
   induction M generalizing i with
   |nil=>intro e;simp at e
   |cons hh tt ih =>
    cases i with
    |zero =>
     intro v C;simp at v C;subst v C;exact hh
    |succ i =>
     intro v C;exact ih (by simpa using v) (by simpa using C)
  obtain⟨b1,b2⟩:=K kv hk g1;have b1:(Ue p.1:j7)=k:=b1;subst b1;obtain⟨t1,rfl⟩:=(show ∃t,x=Value.int p.2 t from b2);obtain⟨t0,rfl⟩:∃t,B=Value.int p.1 t:=by
   rcases KI (show Wz (Ue p.1) B=true from g2) with ⟨i0,t,v,C⟩|⟨x0,t,v,C⟩
   .cases v;exact⟨t,C⟩
   .cases v
  exact⟨c[i],_,_,t0,t1,by rw[Zv,Zqg f];rfl,A _ _ g3,rfl,rfl⟩
 refine⟨(),λn A h2=>Oj (pa n A) h2,λjx n l p u A hl gl=>?_⟩;obtain⟨e,gl⟩:=gl;rw[lv] at p u;have kk:∀b o,s.heap.get? b=some o->n.get? b=some o:=λb o e=>A b o (U b o e);have N:∀a∈c,s.heap.objs.size<a:=G.above;have O:∀a∈c,a<l:=λa ha=>Zg (G.there ha) hl;have szl:s.heap.objs.size<=l:=by
  cases c with
  |nil=>exact Zn (Jp.mp (by rw[<- lv];rfl)) S
  |cons a as'=>exact Zz (Ug (N a Zqs) (O a Zqs))
 obtain⟨L,hL⟩:∃L:List (Addr×HO),L=(l,.lst (jx.toList.map λi=>V.ref (c.getD i 0)))::(c.zip r).map λz=>(z.1,HO.tup [.int z.2.1,.int z.2.2]):=⟨_,rfl⟩;have g:L.map (·.1)=l::c:=by
  rw[hL,Zl,Zw];show l::(c.zip r).map (λz=>z.1)=_;rw[List.map_fst_zip ()]
 have nd:(L.map (·.1)).Nodup:=by
  rw[g];refine Jm.mpr ⟨λm=>Zy _ (O l m),?_⟩;exact G.rise.imp λhlt=>Zi hlt
 have P:∀p∈L,s.heap.objs.size<=p.1:=λp hp=>by
  have:p.1∈L.map (·.1):=Ja.mpr ⟨p,hp,rfl⟩;rw[g] at this;rcases U0.mp this with z|z
  .rw[z];exact szl
  .exact Zz (N _ z)
 have E:∀G (i:Nat) p,r[i]? = some p->qz G L (c.getD i 0)=some (.tup [.int p.1,.int p.2]):=λG i p hp=>by
  have f:i<c.length:=by
   have:=(Jc.mp hp).1;lia
  refine Fl nd ?_;rw[hL];refine Zqm _ (Ja.mpr ⟨(c[i],p),?_,by rw[Qg (Zqg f)]⟩);refine Uf (i:=i) ?_;rw[VS];exact⟨Zqg f,hp⟩
 refine⟨.ref l,qz H L,I.laidMany (t':=tk) kk P λy hy=>?_,rfl,q l L (λp hp=>I.hok.fresh (P p hp)) nd λG'=>?_⟩
 .rw[hL] at hy;rcases U0.mp hy with z'|z'
  .rw[z'];refine⟨?_,jx.toList.map (jC (c.map Value.ref)),e,?_,?_⟩
   .rw[Zql,p.len];exact QY ()
   .refine Xc λi f=>?_;have hn:=p.mem f;have R:i<c.length:=()
    unfold jC;rw[Qg (Zqg R),Qg (x:=Value.ref c[i]) (by rw[Zv,Zqg R];rfl)];rfl
   .rw[gl]
    congr 3
    apply Vj;simp
  .obtain⟨⟨a,p'⟩,hm,rfl⟩:=Ja.mp z';obtain⟨i,f⟩:=Jl.mp hm;rw[VS] at f;obtain⟨i1,i2⟩:=f;obtain⟨a',o',n',t',u',f1,f2,f3,f4⟩:=(pa n A).2 i p' i2;rw[Zv,i1] at f1;cases f1;obtain⟨B,k,x,g1,g2,g3⟩:=G.pairs i a i1;have F:=A _ _ g3;rw[F] at f2;obtain rfl:=Zqi f2;exact⟨⟨(by show 2<=sizeLine;decide),_,F,rfl⟩,[.int p'.1 t',.int p'.2 u'],.cons ⟨t',rfl⟩ (.cons ⟨u',rfl⟩ .nil),_,F,rfl,n',f4⟩
 .rw[x6];refine⟨l,_,rfl,Fl nd (by rw[hL];exact Zqs),?_⟩;rw[<- Cb wb p u,Zw];refine Fp λi f=>?_;have hn:=p.mem f;refine bB.mpr ⟨c.getD i 0,rfl,?_⟩;have:=E G' i (r.getD i (0,0)) (by rw[Qg (Zqg hn)];exact Zqg hn);exact this
end
def qD (r:Jy)(t w:Int):Jy:=if(r.any λp=>decide (p.1=t))=true then r.map (λp=>if p.1=t then(p.1,w) else p) else r++[(t,w)]
def Os:decide ((Ue a:j7)=Ue b)=decide (a=b):=()
def Ot (r)(t w):qs (xq r) (Ue t) (V.int w)=xq (qD r t w):=by
 have e:((xq r).any λa=>decide (a.1=Ue t))=r.any λp=>decide (p.1=t):=by
  unfold xq;rw[List.any_map]
  congr 1
  funext p
  exact Os
 unfold qs qD;rw[e]
 split
 .unfold xq;rw[Zw,Zw];apply UZ;intro p _;by_cases c:p.1=t
  .simp[c]
  .simp[c]
 .unfold xq;rw[Ud];rfl
theorem Ah (p)(r)(t):JC (p::r) t=match JC r t with|some w=>some w|none=>if p.1=t then some p.2 else none:=rfl
def Ou (r)(t w j):JC (r.map λp=>if p.1=t then(p.1,w) else p) j=(JC r j).map λx=>if j=t then w else x:=by
 induction r with
 |nil=>rfl
 |cons p r a =>
  grind[List.map_cons,Ah,Option.map]
def Ov (r)(t):(r.any λp=>decide (p.1=t))=(JC r t).isSome:=by
 cases q:JC r t with
 |none =>
  grind[Option.isSome_none,List.any_eq_false,EC]
 |some w =>
  rw[Option.isSome_some,VM];exact⟨_,Qi q,()⟩
def Ow (r)(t w j):JC (qD r t w) j=if j=t then some w else JC r j:=by
 unfold qD;rw[Ov];by_cases a:(JC r t).isSome=true
 .rw[Zd a,Ou];by_cases e:j=t
  .rw[Zd e,e];have ⟨x,b⟩:=Jr.mp a;rw[b];simp
  simp_all
 .rw[Ze a,NG];show(match (if t=j then some w else none) with|some w=>some w|none=>JC r j)=_
  grind
def Ox (r)(t w):(qD r t w).map (·.1)=if(r.any λp=>decide (p.1=t))=true then r.map (·.1) else r.map (·.1)++[t]:=by
 grind[qD,List.map_map,List.map_append,List.map_congr_left]
def Oy (h:j8 r):j8 (qD r t w):=by
 unfold j8;rw[Ox]
 split
 .exact h
 .rename_i c;unfold j8 at h;rw[List.nodup_append];refine⟨h,(),λa g b f=>?_⟩;simp at f;subst f;rintro rfl;obtain⟨p,hp,e⟩:=Ja.mp g;exact c (VM.mpr ⟨p,hp,by simp[e]⟩)
def Oz (r)(t w):(qD r t w).length<=r.length+1:=by
 grind[qD,Zql,List.length_append]
theorem Fq:∀r b,W2 (xq b) (xq r)=xq (r.foldl (λa p=>qD a p.1 p.2) b)
 | [],b=>rfl
 |p::r,b=>by
  have e:W2 (xq b) (xq (p::r))=W2 (qs (xq b) (Ue p.1) (V.int p.2)) (xq r):=rfl;rw[e,Ot,Fq r];rfl
theorem Fs:∀r b,j8 (b++r)->r.foldl (λa p=>qD a p.1 p.2) b=b++r
 | [],b,_=>by simp
 |p::r,b,h=>by
  have c:(b.any λq=>decide (q.1=p.1))=false:=by
   grind[j8,List.any_eq_false,List.map_append,List.nodup_append]
  have e:qD b p.1 p.2=b++[p]:=by
   unfold qD;rw[c];simp
  rw[Vh,e,Fs r (b++[p]) (),Uh];rfl
def jw:Option Int->Option Int->Option Int
 |none,b=>b
 |some x,none=>some x
 |some x,some y=>some (if x > y then x else y)
def V0 (a:Jy)(p:Int×Int):Jy:=qD a p.1 (if(JC a p.1).getD p.2 > p.2 then(JC a p.1).getD p.2 else p.2)
def Qn (r o:Jy):Jy:=o.foldl V0 r
def O0 (acc)(p)(t):JC (V0 acc p) t=if t=p.1 then jw (JC acc t) (some p.2) else JC acc t:=by
 unfold V0;rw[Ow];by_cases e:t=p.1
 .rw[Zd e,Zd e,e];cases JC acc p.1 with
  |none=>simp[jw]
  |some x=>simp[jw]
 simp_all
theorem Ai (t):∀o r,j8 o->JC (Qn r o) t=jw (JC r t) (JC o t)
 | [],r,_=>by
  show JC r t=jw (JC r t) none;cases JC r t<;>rfl
 |p::o,r,h=>by
  have ⟨a,b⟩:=Jm.mp (h);have e:Qn r (p::o)=Qn (V0 r p) o:=rfl;rw[e,Ai t o _ b,O0,Ah];by_cases c:t=p.1
  .have n:JC o t=none:=by
    cases q:JC o t with
    |none=>rfl
    |some w=>exact Zn (Ja.mpr ⟨_,Qi q,c⟩) a
   rw[Zd c,n,Zd c.symm];cases jw (JC r t) (some p.2)<;>rfl
  grind
theorem Aj:∀o r,j8 r->j8 (Qn r o)
 | [],r,h=>h
 |p::o,r,h=>Aj o _ (Oy h)
theorem Cd:∀o r,(Qn r o).length<=r.length+o.length
 | [],r=>Zf _
 |p::o,r=>by
  have a:=Cd o (V0 r p);have b:(V0 r p).length<=r.length+1:=Oz _ _ _;show(Qn (V0 r p) o).length<=_
  grind
def Ft (h:r ≠ [])(b:j8 o):Qn r o ≠ []:=by
 intro z;cases r with
 |nil=>exact h rfl
 |cons p r =>
  have q:=Ai p.1 o (p::r) b;rw[z] at q;have:∃x,JC (p::r) p.1=some x:=by
   grind[Ah]
  obtain⟨x,c⟩:=this;rw[c] at q;cases a:JC o p.1 with
  |none=>rw[a] at q;exact J6 q
  |some y=>rw[a] at q;exact J6 q
def Fu (h:j8 r):(t,w)∈r↔JC r t=some w:=⟨λm=>h.look m,Qi⟩
theorem W9 {α: Type}{ltb:α -> α -> Bool}(T:Tot ltb):∀{a b:List α},a.Pairwise (λx y=>ltb x y=true)->b.Pairwise (λx y=>ltb x y=true)->(∀x,x∈a↔x∈b)->a=b
 | [],[],_,_,_=>rfl
 | [],y::b,_,_,h=>by
  cases ((h y).mpr Zqs)
 |x::a,[],_,_,h=>by
  cases ((h x).mp Zqs)
 |x::a,y::b,ha,hb,h=>by
  obtain⟨c,f⟩:=Jh.mp ha;obtain⟨b1,b2⟩:=Jh.mp hb;have e:x=y:=by
   rcases U0.mp ((h x).mp Zqs) with z|z
   .exact z
   .rcases U0.mp ((h y).mpr Zqs) with u|u
    .exact u.symm
    .have:=T.asy _ _ (b1 x z)
     simp_all
  subst e
  congr 1
  refine W9 T f b2 λz=>⟨λhz=>?_,λhz=>?_⟩
  .rcases U0.mp ((h z).mp (Zqm _ hz)) with u|u
   .rw[u] at hz;have:=c x hz;rw[T.irr] at this;exact JF this
   lia
  .rcases U0.mp ((h z).mpr (Zqm _ hz)) with u|u
   .rw[u] at hz;have:=b1 x hz;rw[T.irr] at this;exact JF this
   lia
theorem Fv {α β: Type}(f:α -> β):∀{l:List α},(l.map f).Nodup->l.Nodup
 | [],_=>VB
 |x::r,h=>by
  rw[Zl,List.nodup_cons] at h;exact Jm.mpr ⟨(),Fv f h.2⟩
def O1 (h:j8 r):(JV jV r).Pairwise λx y=>jV x y=true:=by
 refine(List.Pairwise.and (W7 wb r) ((Q4 r).nodup_iff.mpr (Fv (λp:Int×Int=>p.1) h))).imp λ{x y} z=>?_;cases q:jV x y with
 |true=>rfl
 |false=>exact Zn (wb.tot _ _ q z.1) z.2
end L2
namespace L2.DL
def Ce {c:Prop}{_:Decidable c}{α: Type}{a z:α}(h:(if c then some a else none)=some z):c/\a=z:=()
inductive D where
 |non|bl (b:Bool)|int (i:Int)|str (x:Str)|ty (n:String)|scr (ns:Yh)
 |tup (ds:List D)|lst (ds:List D)|dct (ks:List j7) (ds:List D)|ins (c:Str) (fs:Yk) (ds:List D)
 |exc (c:Str)|ucl (c:Str)
 |adr (a:Addr)|dcf (ks:List j7) (ds:List D)
 |pin (a:Addr) (d:D)
abbrev _root_.YH:=List D
abbrev _root_.YI:=Option D
inductive Res (α: Type) where
 |ok (a:α)|ex (c:Str) (fs:YH)|no
noncomputable def Res.bind {α β: Type}(r:Res α)(g:α -> Res β):Res β:= match r with
 | .ok a=>g a
 | .ex c fs=>.ex c fs
 | .no=>.no
def Res.need {α: Type}(r:Res α)(p:α -> Prop)(q:Str->YH->Prop):Prop:=match r with
 | .ok a=>p a
 | .ex c fs=>q c fs
 | .no=>False
@[simp]theorem jy {α β: Type}(a)(g:α -> Res β):(Res.ok a).bind g=g a:=rfl
@[simp]def wW {α β: Type}(c)(fs)(g:α -> Res β):(Res.ex c fs:Res α).bind g=.ex c fs:=rfl
@[simp]def wV {α β: Type}(g:α -> Res β):(Res.no:Res α).bind g=.no:=rfl
def ja {α β: Type}{r:Res α}{g:α -> Res β}{p:β -> Prop}(h:(r.bind g).need p q):r.need (λa=>(g a).need p q) q:=by
 cases r<;>exact h
def Res.need.mono {α: Type}{r:Res α}{p b: α -> Prop}(h:r.need p q)(hp:∀a,p a->b a)(e:∀c fs,q c fs->q' c fs):r.need b q':=by
 cases r with
 |ok a=>exact hp a h
 |ex c fs=>exact e c fs h
 |no=>exact h
def Res.need.monoE {α: Type}{r:Res α}{p b: α -> Prop}(h:r.need p q)(hp:∀a,r=.ok a->p a->b a)(e:∀c fs,q c fs->q' c fs):r.need b q':=by
 cases r with
 |ok a=>exact hp a rfl h
 |ex c fs=>exact e c fs h
 |no=>exact h
def fB (C x:Addr):HO:=.ext λh=>∃o,h.get? x=some o/\o.cls=.ref C
def xW (_:W.Frag)(H:Hp)(a:Addr)(b:YF):Prop:=H a=some (.tup b)
def xW.same {K:W.Frag}{H b:Hp}{a:Addr}{c:YF}(e:jm H b)(h:xW K H a c):xW K b a c:=e _ _ h
def xW.of {K:W.Frag}{H:Hp}{a:Addr}{b:YF}(h:H a=some (.tup b)):xW K H a b:=h
def xW.sq {K:W.Frag}{H:Hp}{a:Addr}{b:YF}(h:xW K H a b):yi K H a b:=yi.of h
def xx (_:W.Frag)(H:Hp)(a:Addr)(b:YF):Prop:=Rd H a (.lst b)
def xx.same {K:W.Frag}{H b:Hp}{a:Addr}{c:YF}(e:jm H b)(h:xx K H a c):xx K b a c:=h.imp (λq=>e _ _ q) λ⟨o,q⟩=>⟨o,e _ _ q⟩
def xx.of {K:W.Frag}{H:Hp}{a:Addr}{b:YF}(h:H a=some (.lst b)):xx K H a b:=.inl h
def xx.sq {K:W.Frag}{H:Hp}{a:Addr}{b:YF}(h:xx K H a b):xb K H a b:=.inl h
section
variable (K:W.Frag)
mutual
def jg (H:Hp):D->V->Prop
 | .non,v=>v=.non
 | .bl b,v=>v=.bl b
 | .int i,v=>v=.int i
 | .str x,v=>v=.str x
 | .ty n,v=>v=.ty n
 | .scr ns,v=>∃a,v=.ref a/\xb K H a (ns.map V.int)
 | .tup ds,v=>∃a e,v=.ref a/\xW K H a e/\jd H ds e
 | .lst ds,v=>∃a e,v=.ref a/\xx K H a e/\jd H ds e
 | .dct ks ds,v=>∃a e,v=.ref a/\H a=some (.dK (ks.zip e))/\ks.length=e.length/\jd H ds e
 | .ins c fs ds,v=>∃a C f e,v=.ref a/\W.nsIn K mainGlobals c=some (some (.ref C))/\H a=some (.ins C f (fs.zip e))/\fs.length=e.length/\jd H ds e
 | .exc c,v=>∃a C,v=.ref a/\W.nsIn K mainGlobals c=some (some (.ref C))/\H a=some (fB C a)
 | .ucl c,v=>∃C,v=.ref C/\W.nsIn K mainGlobals c=some (some (.ref C))
 | .adr a,v=>v=.ref a
 | .dcf ks ds,v=>∃a o e,v=.ref a/\H a=some (.frz o (.dK (ks.zip e)))/\ks.length=e.length/\jd H ds e
 | .pin a d,v=>v=.ref a/\jg H d v
def jd (H:Hp):YH->YF->Prop
 | [],xs=>xs=[]
 |d::ds,xs=>∃x r,xs=x::r/\jg H d x/\jd H ds r
end
end
section
variable {K:W.Frag}{H H':Hp}
def jD:jg K H .non v↔v=.non:=.rfl
def jp:jg K H (.bl b) v↔v=.bl b:=.rfl
def je:jg K H (.int i) v↔v=.int i:=.rfl
def jr:jg K H (.str x) v↔v=.str x:=.rfl
def qZ:jg K H (.ty n) v↔v=.ty n:=.rfl
def qj:jg K H (.scr ns) v↔∃a,v=.ref a/\xb K H a (ns.map V.int):=.rfl
theorem j1:jg K H (.tup ds) v↔∃a b,v=.ref a/\xW K H a b/\jd K H ds b:=.rfl
theorem jn:jg K H (.lst ds) v↔∃a b,v=.ref a/\xx K H a b/\jd K H ds b:=.rfl
def jZ:jg K H (.dct ks ds) v↔∃a b,v=.ref a/\H a=some (.dK (ks.zip b))/\ks.length=b.length/\jd K H ds b:=.rfl
def jY:jg K H (.ins c fs ds) v↔∃a C e b,v=.ref a/\W.nsIn K mainGlobals c=some (some (.ref C))/\H a=some (.ins C e (fs.zip b))/\fs.length=b.length/\jd K H ds b:=.rfl
def qO:jg K H (.exc c) v↔∃a C,v=.ref a/\W.nsIn K mainGlobals c=some (some (.ref C))/\H a=some (fB C a):=.rfl
def yB:jg K H (.ucl c) v↔∃C,v=.ref C/\W.nsIn K mainGlobals c=some (some (.ref C)):=.rfl
def qa:jg K H (.adr a) v↔v=.ref a:=.rfl
def ql:jg K H (.dcf ks ds) v↔∃a o b,v=.ref a/\H a=some (.frz o (.dK (ks.zip b)))/\ks.length=b.length/\jd K H ds b:=.rfl
def qk:jg K H (.pin a d) v↔v=.ref a/\jg K H d v:=.rfl
def jd.nil_iff:jd K H [] xs↔xs=[]:=.rfl
theorem jo:jd K H (d::ds) xs↔∃x r,xs=x::r/\jg K H d x/\jd K H ds r:=.rfl
mutual
theorem jg.same (e:jm H H'):∀d v,jg K H d v->jg K H' d v
 | .non,_,h=>h
 | .bl _,_,h=>h
 | .int _,_,h=>h
 | .str _,_,h=>h
 | .ty _,_,h=>h
 | .scr _,_,h=>by
  obtain⟨a,f,g⟩:=qj.mp h;exact qj.mpr ⟨a,f,jm.seq e g⟩
 | .tup ds,_,h=>by
  obtain⟨a,b,f,g,i⟩:=j1.mp h;exact j1.mpr ⟨a,b,f,g.same e,jd.same e ds b i⟩
 | .lst ds,_,h=>by
  obtain⟨a,b,f,g,i⟩:=jn.mp h;exact jn.mpr ⟨a,b,f,g.same e,jd.same e ds b i⟩
 | .dct ks ds,_,h=>by
  obtain⟨a,b,f,g,j,i⟩:=jZ.mp h;exact jZ.mpr ⟨a,b,f,e _ _ g,j,jd.same e ds b i⟩
 | .ins c fs ds,_,h=>by
  obtain⟨a,C,l,b,f,m,g,j,i⟩:=jY.mp h;exact jY.mpr ⟨a,C,l,b,f,m,e _ _ g,j,jd.same e ds b i⟩
 | .exc _,_,h=>by
  obtain⟨a,C,f,g,i⟩:=qO.mp h;exact qO.mpr ⟨a,C,f,g,e _ _ i⟩
 | .ucl _,_,h=>h
 | .adr _,_,h=>h
 | .dcf ks ds,_,h=>by
  obtain⟨a,o,b,f,g,j,i⟩:=ql.mp h;exact ql.mpr ⟨a,o,b,f,e _ _ g,j,jd.same e ds b i⟩
 | .pin a d,v,h=>qk.mpr ⟨(qk.mp h).1,jg.same e d v (qk.mp h).2⟩
theorem jd.same (e:jm H H'):∀ds a,jd K H ds a->jd K H' ds a
 | [],_,h=>h
 |d::ds,_,h=>have ⟨x,r,b,c,f⟩:=jo.mp h;jo.mpr ⟨x,r,b,jg.same e d x c,jd.same e ds r f⟩
end
def jd.mk (h:jg K H d x)(r:jd K H ds xs):jd K H (d::ds) (x::xs):=jo.mpr ⟨x,xs,rfl,h,r⟩
def jd.nil:jd K H [] []:=jd.nil_iff.mpr rfl
theorem jd.length:∀{ds:YH} {a:YF},jd K H ds a->a.length=ds.length
 | [],a,h=>by simp_all [jd.nil_iff]
 |d::ds,a,h=>by
  obtain⟨x,r,rfl,_,b⟩:=h;rw[Zu,Zu,jd.length b]
theorem jd.get:∀{ds:YH} {a:YF} {i:Nat} {d:D},jd K H ds a->ds[i]? = some d->∃x,a[i]? = some x/\jg K H d x
 | [],_,_,_,_,e=>J6 e
 |d::ds,a,i,e,h,q=>by
  obtain⟨x,r,rfl,c,b⟩:=h;cases i with
  |zero=>simp_all
  |succ i=>exact jd.get (i:=i) b q
def jd.getV {ds:YH}{a:YF}{i:Nat}{x:V}(h:jd K H ds a)(q:a[i]? = some x):∃d,ds[i]? = some d/\jg K H d x:=by
 have c:=h.length;have b:i<ds.length:=();obtain⟨y,e,f⟩:=h.get (Zqg b)
 simp_all
theorem jd.append:∀{ds es:YH} {a ys:YF},jd K H ds a->jd K H es ys->jd K H (ds++es) (a++ys)
 | [],_,a,_,h,h'=>by simp_all [jd.nil_iff]
 |d::ds,_,a,_,h,h'=>by
  obtain⟨x,r,rfl,b,c⟩:=h;exact jd.mk b (jd.append c h')
def jd.snoc (h:jd K H ds xs)(a:jg K H d x):jd K H (ds++[d]) (xs++[x]):=h.append (.mk a .nil)
theorem jd.set:∀n {ds:YH} {a:YF} {d:D} {x:V},jd K H ds a->jg K H d x->jd K H (ds.set n d) (a.set n x)
 |_,[],a,_,_,h,_=>by simp_all [jd.nil_iff]
 | 0,d::ds,a,_,_,h,q=>by
  grind[jo]
 |n+1,d::ds,a,_,_,h,q=>by
  obtain⟨x,r,rfl,b,c⟩:=h;exact jd.mk b (jd.set n c q)
theorem qx:∀(ns:Yh),jd K H (ns.map D.int) (ns.map V.int)
 | []=>.nil
 |n::ns=>.mk (je.mpr rfl) (qx ns)
theorem qp:∀{ns:Yh} {a:YF},jd K H (ns.map D.int) a->a=ns.map V.int
 | [],_,h=>jd.nil_iff.mp h
 |n::ns,a,h=>by
  obtain⟨x,r,rfl,b,c⟩:=h;rw[b,qp c];rfl
end
structure Ext (F H F' H':Hp):Prop where
 ff:jm F F'
 fh:jm F' H'
 hh:jm H H'
 new:∀a,F a=none->H a≠none->F' a=none
theorem Ext.refl (h:jm F H):Ext F H F H:=⟨.refl _,h,.refl _,λ_ e _=>e⟩
theorem Ext.trans (a:Ext F H F1 H1)(b:Ext F1 H1 F2 H2):Ext F H F2 H2:=
 ⟨a.ff.trans b.ff,b.fh,a.hh.trans b.hh,λx e n=>b.new x (a.new x e n) (by
  cases q:H x with
  |none=>exact Zn q n
  |some o=>rw[a.hh _ _ q];simp)⟩
def Qj (h:jm F H)(hp:H p=none):F p=none:=h.free hp
def qQ (h:jm F H)(hp:H p=none)(o):Ext F H (jB F p o) (jB H p o):=
 ⟨Kx (h.free hp) o,λb u e=>by
  by_cases q:b=p
  .simp_all [JM]
  .rw[JJ q] at e ⊢;exact h _ _ e,Kx hp o,λa e n=>by
  have q:a≠p:=by grind
  rwa [JJ q]⟩
def Ext.keep (h:jm F H)(hp:H p=none)(o):Ext F H F (jB H p o):=
 ⟨.refl _,h.trans (Kx hp o),Kx hp o,λ_ e _=>e⟩
def Ext.grow (h:jm F H)(a:jm H H'):Ext F H F H':=⟨.refl _,h.trans a,a,λ_ e _=>e⟩
inductive SV where
 |val (d:D)|own (p:Bool) (d:D)
structure Bs where
 F0:Hp
 H0:Hp
 pa:Nat->Option (Addr×YF)
abbrev SD:=List (Option SV)
def yE (K:W.Frag)(F H:Hp)(l:Addr):D->Prop
 | .lst ds=>∃a,H l=some (.lst a)/\jd K F ds a
 | .dct ks ds=>∃a,H l=some (.dK (ks.zip a))/\ks.length=a.length/\jd K F ds a
 | .ins c fs ds=>∃C b a,W.nsIn K mainGlobals c=some (some (.ref C))/\H l=some (.ins C b (fs.zip a))/\fs.length=a.length/\jd K F ds a
 |_=>False
def yE.has {K:W.Frag}{F H:Hp}{l:Addr}{d:D}(h:yE K F H l d):∃o,H l=some o:=by
 cases d with
 |lst ds=>have ⟨a,e,_⟩:=h;exact⟨_,e⟩
 |dct ks ds=>have ⟨a,e,_⟩:=h;exact⟨_,e⟩
 |ins c fs ds=>have ⟨C,b,a,_,e,_⟩:=h;exact⟨_,e⟩
 |_=>exact False.elim h
def yE.ext {K:W.Frag}{F H g i:Hp}{l:Addr}{d:D}(h:yE K F H l d)(b:jm F g)(f:∀o,H l=some o->i l=some o):yE K g i l d:=by
 cases d with
 |lst ds=>have ⟨a,e,q⟩:=h;exact⟨a,f _ e,jd.same b _ _ q⟩
 |dct ks ds=>obtain⟨a,e,z,q⟩:=h;exact⟨a,f _ e,z,jd.same b _ _ q⟩
 |ins c fs ds=>obtain⟨C,j,a,k,e,z,q⟩:=h;exact⟨C,j,a,k,f _ e,z,jd.same b _ _ q⟩
 |_=>exact False.elim h
def yE.frz {K:W.Frag}{F H:Hp}{l:Addr}{d:D}{o:HO}(h:yE K F H l d)(e:H l=Option.some o)(n:F l=none):jg K (jB F l o) d (.ref l):=by
 cases d with
 |lst ds =>
  have ⟨b,a,q⟩:=h;rw[e] at a;obtain rfl:=Zqi a;exact jn.mpr ⟨l,b,rfl,.of JM,jd.same (Kx n _) _ _ q⟩
 |dct ks ds =>
  obtain⟨b,a,z,q⟩:=h;rw[e] at a;obtain rfl:=Zqi a;exact jZ.mpr ⟨l,b,rfl,JM,z,jd.same (Kx n _) _ _ q⟩
 |ins c fs ds =>
  obtain⟨C,f,b,k,a,z,q⟩:=h;rw[e] at a;obtain rfl:=Zqi a;exact jY.mpr ⟨l,C,f,b,rfl,k,JM,z,jd.same (Kx n _) _ _ q⟩
 |_=>exact False.elim h
def fG (H:Hp)(l:Addr)(o:Option (Addr×YF)):Prop:=∃a,o=some (l,a)/\H l=some (.lst a)
structure RS (K:W.Frag)(B:Bs)(F H:Hp)(sd:SD)(Z: St):Prop where
 ext:Ext B.F0 B.H0 F H
 len:Z.length=sd.length
 val:∀{i:Nat} {d:D},sd[i]? = some (some (.val d))->∃v,Z[i]? = some (some v)/\jg K F d v
 own:∀{i:Nat} {p:Bool} {d:D},sd[i]? = some (some (.own p d))->∃l,Z[i]? = some (some (.ref l))/\B.H0 l=none/\F l=none/\yE K F H l d/\(p=true->fG H l (B.pa i))
 apart:∀{i j:Nat} {p q:Bool} {d e:D} {l:Addr},i≠j->sd[i]? = some (some (.own p d))->sd[j]? = some (some (.own q e)) -> Z[i]? = some (some (.ref l)) -> Z[j]? ≠ some (some (.ref l))
section
variable {K:W.Frag}{B:Bs}{F H F' H':Hp}{sd:SD}{Z: St}
def fG.mono (h:fG H l o)(k:∀u,H l=some u->H' l=some u):fG H' l o:=let ⟨xs,h1,h2⟩:=h;⟨xs,h1,k _ h2⟩
def RS.step (r:RS K B F H sd Z)(e:Ext F H F' H'):RS K B F' H' sd Z where
 ext:=r.ext.trans e
 len:=r.len
 val:=λh=>let ⟨v,a,b⟩:=r.val h;⟨v,a,jg.same e.ff _ _ b⟩
 own:=λh=>by
  obtain⟨l,a,b,f,c,g⟩:=r.own h;obtain⟨o,i⟩:=c.has;exact⟨l,a,b,e.new l f (),c.ext e.ff λo q=>e.hh _ _ q,λp=>(g p).mono λu q=>e.hh _ _ q⟩
 apart:=r.apart
def Q5 {α: Type}{l:List α}{a:α}(h:i≠j):(l.set i a)[j]? = l[j]?:= Zx h
def Kk {α: Type}{l:List α}{a b:α}(h:(l.set i a)[i]? = some b):b=a/\i<l.length:=()
def RS.setVal (r:RS K B F H sd Z)(h:jg K F d v):RS K B F H (sd.set i (some (.val d))) (Z.set i (some v)) where
 ext:=r.ext
 len:=by rw[UM,UM,r.len]
 val:=λ{j e} q=>by
  by_cases z:i=j
  .subst z;obtain⟨a,o⟩:=Kk q;cases a;exact⟨v,UU (by rwa [r.len]),h⟩
  .rw[Q5 z] at q ⊢;exact r.val q
 own:=λ{j p e} q=>by
  by_cases z:i=j
  .subst z;obtain⟨a,_⟩:=Kk q;cases a
  .rw[Q5 z] at q ⊢;exact r.own q
 apart:=λ{j k s t u w l} n b c f=>by
  have g:i≠j:=λz=>by subst z;obtain⟨a,_⟩:=Kk b;cases a
  have m:i≠k:=λz=>by subst z;obtain⟨a,_⟩:=Kk c;cases a
  rw[Q5 g] at b f;rw[Q5 m] at c ⊢;exact r.apart n b c f
def RS.setOwn (r:RS K B F H sd Z)(u:B.H0 l=none)(v:F l=none)(h:yE K F H l d)(g:∀(j:Nat) p e,sd[j]? = some (some (SV.own p e)) -> Z[j]? ≠ some (some (.ref l))):
 RS K B F H (sd.set i (some (.own false d))) (Z.set i (some (.ref l))) where
 ext:=r.ext
 len:=by rw[UM,UM,r.len]
 val:=λ{j e} q=>by
  by_cases z:i=j
  .subst z;obtain⟨f,_⟩:=Kk q;cases f
  .rw[Q5 z] at q ⊢;exact r.val q
 own:=λ{j p e} q=>by
  by_cases z:i=j
  .subst z;obtain⟨f,o⟩:=Kk q;cases f;exact⟨l,UU (by rwa [r.len]),u,v,h,λz=>by cases z⟩
  .rw[Q5 z] at q ⊢;exact r.own q
 apart:=λ{j k w x y A m} n c a b=>by
  by_cases s:i=j
  .subst s;obtain⟨_,o⟩:=Kk c;rw[Q5 n] at a ⊢;rw[UU (by rwa [r.len])] at b;cases b;exact g k x A a
  .rw[Q5 s] at c b;by_cases t:i=k
   .subst t;obtain⟨_,o⟩:=Kk a;rw[UU (by rwa [r.len])];intro e;cases e;exact g j w y c b
   .rw[Q5 t] at a ⊢;exact r.apart n c a b
def RS.chg {i:Nat}{p:Bool}{d a:D}{l:Addr}{o:HO}(r:RS K B F H sd Z)(b:sd[i]? = some (some (.own p d)))(c:Z[i]? = some (some (.ref l)))(h:yE K F (jB H l o) l a):
 RS K B F (jB H l o) (sd.set i (some (.own false a))) Z:= by
 obtain⟨O,f,v,w,_,_⟩:=r.own b;rw[c] at f;cases f;have x:i<sd.length:=by grind
 refine⟨⟨r.ext.ff,BL o r.ext.fh w,BL o r.ext.hh v,r.ext.new⟩,by rw[UM,r.len],λ{j e} q=>?_,λ{j p e} q=>?_,λ{j k s t P Q m} n y A C=>?_⟩
 .by_cases z:i=j
  .simp_all
  .rw[Q5 z] at q;exact r.val q
 .by_cases z:i=j
  .simp_all
  .rw[Q5 z] at q;obtain⟨m,E,m2,G,I,J⟩:=r.own q;have ne:m≠l:=λe=>r.apart z b q c (by rwa [<- e]);exact⟨m,E,m2,G,I.ext (.refl _) λu L=>by rwa [JJ ne],λp=>(J p).mono λu L=>by rwa [JJ ne]⟩
 .have g:∀{j:Nat} {p:Bool} {e:D},(sd.set i (some (.own false a)))[j]? = some (some (.own p e))->∃M N,sd[j]? = some (some (.own M N)):=by grind
  have ⟨_,_,s⟩:=g y;have ⟨_,_,t⟩:=g A;exact r.apart n s t C
def RS.frz1 (r:RS K B F H sd Z)(h:sd[i]? = some (some (.own p d))):∃F',jm F F'/\RS K B F' H (sd.set i (some (.val d))) Z:= by
 obtain⟨l,s,P,t,w,_⟩:=r.own h;obtain⟨o,e⟩:=w.has;have y:i<sd.length:=();have c:=Kx t o;refine⟨jB F l o,c,⟨r.ext.ff.trans c,λb u q=>?_,r.ext.hh,λa f g=>?_⟩,by rw[UM,r.len],λ{j x} q=>?_,λ{j p x} q=>?_,λ{j k Q R S T m} n f g A=>?_⟩
 .by_cases z:b=l
  .simp_all [JM]
  .rw[JJ z] at q;exact r.ext.fh _ _ q
 .have z:a≠l:=by grind
  rw[JJ z];exact r.ext.new a f g
 .by_cases z:i=j
  .subst z;obtain⟨C,_⟩:=Kk q;cases C;exact⟨_,s,w.frz e t⟩
  .rw[Q5 z] at q;have ⟨v,E,G⟩:=r.val q;exact⟨v,E,jg.same c _ _ G⟩
 .by_cases z:i=j
  .simp_all
  .rw[Q5 z] at q;obtain⟨m,I,m2,U,J,L⟩:=r.own q;have ne:m≠l:=λe=>r.apart z h q s (by rwa [<- e]);exact⟨m,I,m2,by rwa [JJ ne],J.ext c λu M=>M,L⟩
 .have N:i≠j:=λz=>by simp_all
  have O:i≠k:=λz=>by simp_all
  rw[Q5 N] at f;rw[Q5 O] at g;exact r.apart n f g A
def jS:Yj->SD->SD
 | [],sd=>sd
 |i::is,sd=>jS is (match sd[i]? with
  |some (some (.own _ d))=>sd.set i (some (.val d))
  |_=>sd)
theorem RS.frz:∀is {F:Hp} {sd:SD},RS K B F H sd Z -> ∃F',jm F F'/\RS K B F' H (jS is sd) Z
 | [],F,sd,r=>⟨F,.refl _,r⟩
 |i::is,F,sd,r=>by
  unfold jS
  split
  .rename_i p d h;obtain⟨g,a,b⟩:=r.frz1 h;obtain⟨c,e,f⟩:=RS.frz is b;exact⟨c,a.trans e,f⟩
  .exact RS.frz is r
end
def fD (K:W.Frag)(F H:Hp)(c:Str)(fs:YH)(b:Value)(a:Option Addr):Prop:=
 ∃C,b=.ref C/\W.nsIn K mainGlobals c=some (some (.ref C))/\(fs=[]\/∃p n d x,fs=[d]/\a=some p/\H p=some (.xd [(n,x)])/\jg K F d x)
def XW (K:W.Frag)(E:XK)(F H:Hp)(c:Str)(fs:YH):Prop:=∀e a f b,Ext F H f b->fD K f b c fs e a->E e a b
def XW.ext {K:W.Frag}{E:XK}{F H b f:Hp}{c:Str}{fs:YH}(h:XW K E F H c fs)(e:Ext F H b f):XW K E b f c fs:=λg a i j l q=>h g a i j (e.trans l) q
abbrev FE:=SD->Res D
abbrev FT:=SD->Res Bool
abbrev FA:=SD->Res YH
def yq (K:W.Frag)(F H:Hp)(Q:VK)(d:D):Prop:=∀v a b,Ext F H a b->jg K a d v->Q v b
def vp (F H:Hp)(Q:Bool->Hp->Prop)(b:Bool):Prop:=∀c a,Ext F H c a->Q b a
def dH (K:W.Frag)(F H:Hp)(Q:YF->Hp->Prop)(ds:YH):Prop:=∀a b c,Ext F H b c->jd K b ds a->Q a c
def xK (K:W.Frag)(F H:Hp)(Q:VK)(d:D):Prop:=∀l a b,Ext F H a b->H l=none->a l=none->yE K a b l d->Q (.ref l) b
def tD (K:W.Frag)(E:XK)(f:FE):TE:=λZ H Q=>∃B F sd,RS K B F H sd Z /\ (f sd).need (yq K F H Q) (XW K E F H)
def fK (K:W.Frag)(E:XK)(f:FT):TT:=λZ H Q=>∃B F sd,RS K B F H sd Z /\ (f sd).need (vp F H Q) (XW K E F H)
def rb (K:W.Frag)(E:XK)(f:FA):TA:=λZ H Q=>∃B F sd,RS K B F H sd Z /\ (f sd).need (dH K F H Q) (XW K E F H)
def vd (K:W.Frag)(E:XK)(f:FE):TE:=λZ H Q=>∃B F sd,RS K B F H sd Z /\ (f sd).need (xK K F H Q) (XW K E F H)
abbrev QE (X:Cx)(E:XK)(e:Expr)(f:FE):Prop:=PE X e (tD X.K E f)
abbrev QT (X:Cx)(E:XK)(e:Expr)(f:FT):Prop:=PT X e (fK X.K E f)
abbrev QW (X:Cx)(E:XK)(e:Expr)(f:FT):Prop:=PW X e (fK X.K E f)
abbrev QA (X:Cx)(E:XK)(es:Ym)(f:FA):Prop:=PA X es (rb X.K E f)
abbrev QN (X:Cx)(E:XK)(e:Expr)(f:FE):Prop:=PE X e (vd X.K E f)
def PE.weak (h:PE X e t)(w:∀Z H Q,t' Z H Q->t Z H Q):PE X e t':=λY s Z H Q I q=>h Y s Z H Q I (w _ _ _ q)
def PT.weak (h:PT X e t)(w:∀Z H Q,t' Z H Q->t Z H Q):PT X e t':=λY s Z H Q I q=>h Y s Z H Q I (w _ _ _ q)
def PW.weak (h:PW X e t)(w:∀Z H Q,t' Z H Q->t Z H Q):PW X e t':=λa Y s Z H Q I q=>h a Y s Z H Q I (w _ _ _ q)
def PA.weak (h:PA X e t)(w:∀Z H Q,t' Z H Q->t Z H Q):PA X e t':=λa Y s Z H Q I q=>h a Y s Z H Q I (w _ _ _ q)
def PS.weak (h:PS X e t)(w:∀D Z H,t' D Z H->t D Z H):PS X e t':=λY s Z H D I q=>h Y s Z H D I (w _ _ _ q)
def qG.weak (h:qG X e t)(w:∀D Z H,t' D Z H->t D Z H):qG X e t':=λY s Z H D I q=>h Y s Z H D I (w _ _ _ q)
def PI.weak (h:PI X tg e t)(w:∀Z H R,t' Z H R->t Z H R):PI X tg e t':=λY s Z H R I q=>h Y s Z H R I (w _ _ _ q)
section
variable {K:W.Frag}{E:XK}{F H F' H':Hp}
def yq.ext (h:yq K F H Q d)(e:Ext F H F' H'):yq K F' H' Q d:=λv a b c q=>h v a b (e.trans c) q
def vp.ext (h:vp F H Q b)(e:Ext F H F' H'):vp F' H' Q b:=λa c f=>h a c (e.trans f)
def xK.ext (h:xK K F H Q d)(e:Ext F H F' H'):xK K F' H' Q d:=λl a b c q=>h l a b (e.trans c) (Qj e.hh q)
def Ak {Q:VK}{r:Res D}(h:r.need (yq K F H Q) (XW K E F H))(e:Ext F H F' H'):r.need (yq K F' H' Q) (XW K E F' H'):=h.mono (λ_ q=>q.ext e) λ_ _ q=>q.ext e
def Fw {Q:Bool->Hp->Prop}{r:Res Bool}(h:r.need (vp F H Q) (XW K E F H))(e:Ext F H F' H'):r.need (vp F' H' Q) (XW K E F' H'):=h.mono (λ_ q=>q.ext e) λ_ _ q=>q.ext e
def Cf {Q:VK}{r:Res D}(h:r.need (xK K F H Q) (XW K E F H))(e:Ext F H F' H'):r.need (xK K F' H' Q) (XW K E F' H'):=h.mono (λ_ q=>q.ext e) λ_ _ q=>q.ext e
theorem yq.new (h:yq K F H Q d):xK K F H Q d:=λl F' H' e n c o=>by
 obtain⟨u,f⟩:=o.has;refine h (.ref l) (jB F' l u) H' ⟨e.ff.trans (Kx c u),λb v q=>?_,e.hh,λa g i=>?_⟩ (o.frz f c)
 .by_cases z:b=l
  .simp_all [JM]
  .rw[JJ z] at q;exact e.fh _ _ q
 .have z:a≠l:=by grind
  rw[JJ z];exact e.new a g i
end
section
variable {X:Cx}{E:XK}
def j4 (h:QN X E e f):QE X E e f:=PE.weak h λZ H Q ⟨B,F,sd,r,n⟩=>⟨B,F,sd,r,n.mono (λ_ q=>q.new) λ_ _ q=>q⟩
def jb (i:Nat):FE:=λsd=>match sd[i]? with
 |some (some (.val d))=>.ok d
 |_=>.no
def dC (d:D):FE:=λ_=>.ok d
def uz (h:PE X e (xC i)):QE X E e (jb i):=PE.weak h λZ H Q a=>by
 obtain⟨B,F,sd,r,n⟩:=a;unfold jb at n
 split at n
 .rename_i d q;obtain⟨v,b,c⟩:=r.val q;exact⟨v,b,n v F H (.refl r.ext.fh) c⟩
 .exact n.elim
def XS (h:PE X e (tC v))(i:∀F,jg X.K F d v):QE X E e (dC d):=PE.weak h λZ H Q ⟨B,F,sd,r,n⟩=>n v F H (.refl r.ext.fh) (i F)
def J3 {i j pos}:QE X E (.Constant (.int i) j pos) (dC (.int i)):=XS LC λ_=>je.mpr rfl
def Qw {b j pos}:QE X E (.Constant (.bool b) j pos) (dC (.bl b)):=XS uI λ_=>jp.mpr rfl
def Fx {j pos}:QE X E (.Constant .none j pos) (dC .non):=XS LD λ_=>jD.mpr rfl
def V1 {x j pos}:QE X E (.Constant (.str x) j pos) (dC (.str x)):=XS DO λ_=>jr.mpr rfl
def Res.ofO {α: Type}:Option α -> Res α
 |some a=>.ok a
 |none=>.no
@[simp]def wA {α: Type}(a:α):Res.ofO (some a)=.ok a:=rfl
@[simp]def wC {α: Type}:Res.ofO (none:Option α)=.no:=rfl
def jh {α: Type}{o:Option α}{p:α -> Prop}(h:(Res.ofO o).need p q):∃a,o=some a/\p a:=by
 cases o with
 |none=>exact h.elim
 |some a=>exact⟨a,rfl,h⟩
def jf (g:D->D->YI)(a b:FE):FE:=λsd=>(a sd).bind λx=>(b sd).bind λy=>.ofO (g x y)
def qM (g:D->YI)(a:FE):FE:=λsd=>(a sd).bind λx=>.ofO (g x)
def wQ (K:W.Frag)(g:D->D->YI):R2:=λv w H Q=>∃F d e z,jm F H/\jg K F d v/\jg K F e w/\g d e=some z/\yq K F H Q z
def uu (K:W.Frag)(g:D->D->YI):R2:=λv w H Q=>∃F d e z,jm F H/\jg K F d v/\jg K F e w/\g d e=some z/\xK K F H Q z
def mn (K:W.Frag)(g:D->YI):V->Hp->VK->Prop:=λv H Q=>∃F d z,jm F H/\jg K F d v/\g d=some z/\yq K F H Q z
def zX (K:W.Frag)(g:YH->YI):YF->Hp->VK->Prop:=λa H Q=>∃F ds z,jm F H/\jd K F ds a/\g ds=some z/\yq K F H Q z
def zC (K:W.Frag)(g:YH->YI):YF->Hp->VK->Prop:=λa H Q=>∃F ds z,jm F H/\jd K F ds a/\g ds=some z/\xK K F H Q z
def XT {K:W.Frag}{g:D->D->YI}{c e:FE}{Z: St}{H:Hp}{Q:VK}(h:tD K E (jf g c e) Z H Q):wP (wQ K g) (tD K E c) (tD K E e) Z H Q:=by
 obtain⟨B,F,sd,r,n⟩:=h;refine⟨B,F,sd,r,(ja n).mono (λx f v i p a j=>⟨B,i,sd,r.step a,(ja f).mono (λy l w m s b o=>?_) λ_ _ q=>q.ext a⟩) λ_ _ q=>q⟩;obtain⟨z,hz,q⟩:=jh l;exact⟨m,x,y,z,b.fh,jg.same b.ff _ _ j,o,hz,q.ext (a.trans b)⟩
def O2 {K:W.Frag}{g:D->D->YI}{c e:FE}{Z: St}{H:Hp}{Q:VK}(h:vd K E (jf g c e) Z H Q):wP (uu K g) (tD K E c) (tD K E e) Z H Q:=by
 obtain⟨B,F,sd,r,n⟩:=h;refine⟨B,F,sd,r,(ja n).mono (λx f v i p a j=>⟨B,i,sd,r.step a,(ja f).mono (λy l w m s b o=>?_) λ_ _ q=>q.ext a⟩) λ_ _ q=>q⟩;obtain⟨z,hz,q⟩:=jh l;exact⟨m,x,y,z,b.fh,jg.same b.ff _ _ j,o,hz,q.ext (a.trans b)⟩
def vP {K:W.Frag}{g:D->YI}{a:FE}{Z: St}{H:Hp}{Q:VK}(h:tD K E (qM g a) Z H Q):nZ (mn K g) (tD K E a) Z H Q:=by
 obtain⟨B,F,sd,r,n⟩:=h;refine⟨B,F,sd,r,(ja n).mono (λx c v e i b f=>?_) λ_ _ q=>q⟩;obtain⟨z,hz,q⟩:=jh c;exact⟨e,x,z,b.fh,f,hz,q.ext b⟩
abbrev yX (X:Cx)(f:Value->Value->Sem Value)(g:D->D->YI):Prop:=xi X f (wQ X.K g)
abbrev f7 (X:Cx)(f:Value->Value->Sem Value)(g:D->D->YI):Prop:=xi X f (uu X.K g)
def xi.weak (h:xi X f r)(w:∀x y H Q,r' x y H Q->r x y H Q):xi X f r':=λY s Z H x y v u Q I a b q=>h Y s Z H x y v u Q I a b (w _ _ _ _ q)
def w5.weak (h:w5 X f r)(w:∀x H Q,r' x H Q->r x H Q):w5 X f r':=λY s Z H x v Q I a q=>h Y s Z H x v Q I a (w _ _ _ q)
def jU.weak (h:jU X f r)(w:∀x H Q,r' x H Q->r x H Q):jU X f r':=λY s Z H x v Q I a q=>h Y s Z H x v Q I a (w _ _ _ q)
def yH.weak (h:yH X r)(w:∀x y H Q,r' x y H Q->r x y H Q):yH X r':=λa b Y s Z H x y v u Q I c f q e=>h a b Y s Z H x y v u Q I c f (w _ _ _ _ q) e
variable {a b:Expr}{fa fb:FE}{pos:Pos}
def jl (c:yX X (binaryOp op) g)(e:QE X E a fa)(f:QE X E b fb):QE X E (.BinOp a op b pos) (jf g fa fb):=PE.weak (DT c e f) λ_ _ _ h=>XT h
def u0 (c:f7 X (binaryOp op) g)(e:QE X E a fa)(f:QE X E b fb):QN X E (.BinOp a op b pos) (jf g fa fb):=PE.weak (DT c e f) λ_ _ _ h=>O2 h
def xO (c:w5 X (unaryOp op) (mn X.K g))(e:QE X E a fa):QE X E (.UnaryOp op a pos) (qM g fa):=PE.weak (uH c e) λ_ _ _ h=>vP h
def Fy (c:yX X (compareOp op) g)(e:QE X E a fa)(f:QE X E b fb)(i:behindInMarks op b=false):QE X E (.Compare a [op] [b] pos) (jf g fa fb):=PE.weak (Mn c e f i) λ_ _ _ h=>XT h
def JD (fa:FE):FT:=λsd=>(fa sd).bind λx=>match x with
 | .bl b=>.ok b
 |_=>.no
def WA {K:W.Frag}{Z: St}{H:Hp}{Q:Bool->Hp->Prop}(h:fK K E (JD fa) Z H Q):tD K E fa Z H (λx e=>∃k,x=.bl k/\Q k e):=by
 obtain⟨B,F,sd,r,n⟩:=h;refine⟨B,F,sd,r,(ja n).mono (λx c v f g i j=>?_) λ_ _ q=>q⟩;cases x with
 |bl k=>exact⟨k,jp.mp j,c f g i⟩
 |_=>exact c.elim
def Qx {op:CmpOp}{g:D->D->YI}(c:yX X (compareOp op) g)(e:QE X E a fa)(f:QE X E b fb)(i:behindInMarks op b=false):QT X E (.Compare a [op] [b] pos) (JD (jf g fa fb)):=
 PT.weak (DY c e f i) λZ H Q h=>have h:=WA h;XT h
def QJ (e:QE X E a fa)(f:∀c,isTrue a X.env c=(do let v <- c;standAt a.pos;holding [v] (truthy v)):=by intro _;rfl):QT X E a (JD fa):=PT.weak (LK e f) λZ H Q q=>WA q
def Qo (f:FT):FT:=λsd=>(f sd).bind λb=>.ok (!b)
def Am (f g:FT):FT:=λsd=>(f sd).bind λb=>if b then g sd else .ok false
def zH (f g:FT):FT:=λsd=>(f sd).bind λb=>if b then .ok true else g sd
variable {f g:FT}{rest:Ym}
def Ky (c:QT X E a f):QT X E (.UnaryOp .Not a pos) (Qo f):=PT.weak (LO c) λZ H Q ⟨B,F,sd,r,n⟩ =>
 ⟨B,F,sd,r,(ja n).mono (λ_ q=>q) λ_ _ q=>q⟩
def O3 (c:QT X E a f):QW X E (.BoolOp .And [a] pos) f:=LL c
def Cg (c:QT X E a f):QW X E (.BoolOp .Or [a] pos) f:=LM c
def O4 (i:QT X E a f)(j:QW X E (.BoolOp .And (b::rest) pos) g):QW X E (.BoolOp .And (a::b::rest) pos) (Am f g):=PW.weak (LN i j) λZ H Q l=>by
 obtain⟨B,F,sd,r,n⟩:=l;refine⟨B,F,sd,r,(ja n).mono (λk e h m c=>?_) λ_ _ q=>q⟩;cases k with
 |true=>exact⟨B,h,sd,r.step c,Fw e c⟩
 |false=>exact e h m c
def Ch (i:QT X E a f)(j:QW X E (.BoolOp .Or (b::rest) pos) g):QW X E (.BoolOp .Or (a::b::rest) pos) (zH f g):=PW.weak (uB i j) λZ H Q l=>by
 obtain⟨B,F,sd,r,n⟩:=l;refine⟨B,F,sd,r,(ja n).mono (λk e h m c=>?_) λ_ _ q=>q⟩;cases k with
 |true=>exact e h m c
 |false=>exact⟨B,h,sd,r.step c,Fw e c⟩
def yW (h:QW X E e f):QT X E e f:=f5 h
def XU (fa fb:FE):FE:=λsd=>(JD fa sd).bind λb=>if b then fb sd else .ok (.bl false)
def Ci (fa:FE):FE:=λsd=>(JD fa sd).bind λb=>.ok (.bl !b)
def Fz {op}(h:QE X E a fa):QE X E (.BoolOp op [a] pos) fa:=LQ h
def Cj (i:QE X E a fa)(j:QE X E (.BoolOp .And (b::rest) pos) fb):QE X E (.BoolOp .And (a::b::rest) pos) (XU fa fb):=PE.weak (LR i j) λZ H Q l=>by
 obtain⟨B,F,sd,r,n⟩:=l;refine WA ⟨B,F,sd,r,(ja n).mono (λk e h m c=>?_) λ_ _ q=>q⟩;cases k with
 |true=>exact⟨B,h,sd,r.step c,Ak e c⟩
 |false=>exact e _ h m c (jp.mpr rfl)
def u2 (c:QE X E a fa):QE X E (.UnaryOp .Not a pos) (Ci fa):=PE.weak (LS c) λZ H Q ⟨B,F,sd,r,n⟩=>WA ⟨B,F,sd,r,(ja n).mono (λk e h i j=>(e _ h i j (jp.mpr rfl))) λ_ _ q=>q⟩
def jc:FA:=λ_=>.ok []
def J0 (fa:FE)(c:FA):FA:=λsd=>(fa sd).bind λx=>(c sd).bind λe=>.ok (x::e)
def J2:QA X E [] jc:=PA.weak W0 λZ H Q ⟨B,F,sd,r,n⟩=>n [] F H (.refl r.ext.fh) .nil
def J1 (i:QE X E e fe)(j:QA X E es fr)(hs:starEach (e::es) X.env=(false,eval e X.env)::starEach es X.env:=by rfl):QA X E (e::es) (J0 fe fr):=
 PA.weak (Wf i j hs) λZ H Q ⟨B,F,sd,r,n⟩=>⟨B,F,sd,r,(ja n).mono (λx l v m w c o=>⟨B,m,sd,r.step c,(ja l).mono (λy p z s t h u=>(p _ s t (c.trans h) (.mk (jg.same h.ff _ _ o) u))) λ_ _ q=>q.ext c⟩) λ_ _ q=>q⟩
def qN (e:FA):FE:=λsd=>(e sd).bind λc=>if c.length<=1000 then .ok (.lst c) else .no
def xA (e:FA):FE:=λsd=>(e sd).bind λc=>if c.length<=1000 then .ok (.tup c) else .no
def Kz (h:QA X E es fr):QN X E (.List es pos) (qN fr):=PE.weak (M9 h) λZ H Q l=>by
 obtain⟨B,F,sd,r,n⟩:=l;refine⟨B,F,sd,r,(ja n).mono (λs e i m o c j=>?_) λ_ _ q=>q⟩
 split at e
 .have hz:=j.length;exact⟨QY (),λp hp=>(e p m (jB o p (.lst i)) (c.trans (.keep c.fh hp _)) (Qj c.hh hp) (Qj c.fh hp) ⟨i,JM,j⟩)⟩
 .exact e.elim
def Xd {x1}(h:QA X E es fr):QE X E (.Tuple es x1 pos) (xA fr):=PE.weak (M8 h) λZ H Q m=>by
 obtain⟨B,F,sd,r,n⟩:=m;refine⟨B,F,sd,r,(ja n).mono (λo c e s t i j=>?_) λ_ _ q=>q⟩
 split at c
 .have hz:=j.length;refine⟨QY (),λp hp=>?_⟩;have l:=qQ i.fh hp (.tup e);exact c _ _ _ (i.trans l) (j1.mpr ⟨p,e,rfl,.of JM,jd.same l.ff _ _ j⟩)
 .exact c.elim
def qw (K:W.Frag)(c:YH->Res D):Sp:=λe H Q _=>∃F ds,jm F H/\jd K F ds e/\(c ds).need (yq K F H Q) (XW K E0 F H)
def zj (K:W.Frag)(c:YH->Res D):Sp:=λe H Q _=>∃F ds,jm F H/\jd K F ds e/\(c ds).need (xK K F H Q) (XW K E0 F H)
def J5 (c:YH->Res D)(e:FA):FE:=λsd=>(e sd).bind c
def jG {name:Str}{k:Nat}{ps:Yk}{h:YH->Res D}{p:Pos}{e:Expr}{es:Ym}{l:FA}(c:zV X.prog X.w X.K X.mg X.base name k ps (qw X.K h))(o:Room k X.A)(s:Gl X name)(t:QA X E0 (e::es) l)
 (i:(name == ("__debug__" : Str))=false:=by decide) (u:starEach (e::es) X.env=(false,eval e X.env)::starEach es X.env:=by rfl) (j:(backTo pos (starEach es X.env)).any (·.1)=false:=by rfl):
 QE X E0 (.Call (.Name name p) (e::es) [] pos) (J5 h l):=PE.weak (ZU c o s t i u j) λZ H Q v=>by
 obtain⟨B,F,sd,r,n⟩:=v;refine⟨B,F,sd,r,(ja n).mono (λw x y z A m C=>?_) λ_ _ q=>q⟩;show qw X.K h (y++[]) A Q E0;rw[ZA];exact⟨z,w,m.fh,C,Ak x m⟩
def An {name:Str}{k:Nat}{ps:Yk}{h:YH->Res D}{p:Pos}{e:Expr}{es:Ym}{l:FA}(c:zV X.prog X.w X.K X.mg X.base name k ps (zj X.K h))(o:Room k X.A)(s:Gl X name)(t:QA X E0 (e::es) l)
 (i:(name == ("__debug__" : Str))=false:=by decide) (u:starEach (e::es) X.env=(false,eval e X.env)::starEach es X.env:=by rfl) (j:(backTo pos (starEach es X.env)).any (·.1)=false:=by rfl):
 QN X E0 (.Call (.Name name p) (e::es) [] pos) (J5 h l):=PE.weak (ZU c o s t i u j) λZ H Q v=>by
 obtain⟨B,F,sd,r,n⟩:=v;refine⟨B,F,sd,r,(ja n).mono (λw x y z A m C=>?_) λ_ _ q=>q⟩;show zj X.K h (y++[]) A Q E0;rw[ZA];exact⟨z,w,m.fh,C,Cf x m⟩
def jq (g:YH->YI)(c:FA):FE:=λsd=>(c sd).bind λe=>.ofO (g e)
def JU {id:String}{x:Str}{p:Pos}{e:Expr}{es:Ym}{g:YH->YI}{i:FA}(l:jU X (.builtin id) (zX X.K g))(m:Gl X x)(o:X.mg x=none)(s:bootBuiltins x=some (.builtin id))(t:QA X E (e::es) i)(u:x ≠ "__name__" := by decide)(c:(x == ("__debug__" : Str))=false:=by decide)
 (v:starEach (e::es) X.env=(false,eval e X.env)::starEach es X.env:=by rfl) (h:(backTo pos (starEach es X.env)).any (·.1)=false:=by rfl):QE X E (.Call (.Name x p) (e::es) [] pos) (jq g i):=
 PE.weak (ZP l m o s t u c v h) λZ H Q w=>by
  obtain⟨B,F,sd,r,n⟩:=w;refine⟨B,F,sd,r,(ja n).mono (λy A I C J j G=>?_) λ_ _ q=>q⟩;obtain⟨z,hz,q⟩:=jh A;exact⟨C,y,z,j.fh,G,hz,q.ext j⟩
def O5 {id:String}{x:Str}{p:Pos}{e:Expr}{es:Ym}{g:YH->YI}{i:FA}(l:jU X (.builtin id) (zC X.K g))(m:Gl X x)(o:X.mg x=none)(s:bootBuiltins x=some (.builtin id))(t:QA X E (e::es) i)(u:x ≠ "__name__" := by decide)(c:(x == ("__debug__" : Str))=false:=by decide)
 (v:starEach (e::es) X.env=(false,eval e X.env)::starEach es X.env:=by rfl) (h:(backTo pos (starEach es X.env)).any (·.1)=false:=by rfl):QN X E (.Call (.Name x p) (e::es) [] pos) (jq g i):=
 PE.weak (ZP l m o s t u c v h) λZ H Q w=>by
  obtain⟨B,F,sd,r,n⟩:=w;refine⟨B,F,sd,r,(ja n).mono (λy A I C J j G=>?_) λ_ _ q=>q⟩;obtain⟨z,hz,q⟩:=jh A;exact⟨C,y,z,j.fh,G,hz,q.ext j⟩
def Xe {T:String}{x:Str}{p:Pos}{e:Expr}{es:Ym}{g:YH->YI}{i:FA}(l:jU X (.type T) (zX X.K g))(m:Gl X x)(o:X.mg x=none)(s:bootBuiltins x=some (.type T))(t:QA X E (e::es) i)(u:x ≠ "__name__" := by decide)(c:(x == ("__debug__" : Str))=false:=by decide)
 (v:starEach (e::es) X.env=(false,eval e X.env)::starEach es X.env:=by rfl) (h:(backTo pos (starEach es X.env)).any (·.1)=false:=by rfl):QE X E (.Call (.Name x p) (e::es) [] pos) (jq g i):=
 PE.weak (B7 l m o s t u c v h) λZ H Q w=>by
  obtain⟨B,F,sd,r,n⟩:=w;refine⟨B,F,sd,r,(ja n).mono (λy A I C J j G=>?_) λ_ _ q=>q⟩;obtain⟨z,hz,q⟩:=jh A;exact⟨C,y,z,j.fh,G,hz,q.ext j⟩
def Kl {T:String}{x:Str}{p:Pos}{e:Expr}{es:Ym}{g:YH->YI}{i:FA}(l:jU X (.type T) (zC X.K g))(m:Gl X x)(o:X.mg x=none)(s:bootBuiltins x=some (.type T))(t:QA X E (e::es) i)(u:x ≠ "__name__" := by decide)(c:(x == ("__debug__" : Str))=false:=by decide)
 (v:starEach (e::es) X.env=(false,eval e X.env)::starEach es X.env:=by rfl) (h:(backTo pos (starEach es X.env)).any (·.1)=false:=by rfl):QN X E (.Call (.Name x p) (e::es) [] pos) (jq g i):=
 PE.weak (B7 l m o s t u c v h) λZ H Q w=>by
  obtain⟨B,F,sd,r,n⟩:=w;refine⟨B,F,sd,r,(ja n).mono (λy A I C J j G=>?_) λ_ _ q=>q⟩;obtain⟨z,hz,q⟩:=jh A;exact⟨C,y,z,j.fh,G,hz,q.ext j⟩
def KB:D->Bool
 | .tup _=>false
 | .lst _=>false
 | .dct _ _=>false
 | .ins _ _ _=>false
 | .exc _=>false
 | .dcf _ _=>false
 | .pin _ _=>false
 | .scr _=>false
 |_=>true
def jg.scal {K:W.Frag}{F c:Hp}{d:D}{v:V}(s:KB d=true)(h:jg K F d v):jg K c d v:=by
 cases d with
 |tup _=>exact JF s
 |lst _=>exact JF s
 |dct _ _=>exact JF s
 |ins _ _ _=>exact JF s
 |exc _=>exact JF s
 |dcf _ _=>exact JF s
 |pin _ _=>exact JF s
 |scr _=>exact JF s
 |_=>exact h
def Res.bare {α: Type}(r:Res α):Res α:= match r with
 | .ok a=>.ok a
 | .ex c []=>.ex c []
 |_=>.no
def qV {α: Type}{K:W.Frag}{F H e:Hp}{r:Res α}{p:α -> Prop}(i:jm F H)(h:r.bare.need p (XW K E0 F H)):r.need p (XW K E0 e H):=by
 cases r with
 |ok a=>exact h
 |no=>exact h
 |ex c fs =>
  cases fs with
  |nil=>exact λj a q l m ⟨C,n,o,_⟩=>h j none F l (.grow i m.hh) ⟨C,n,o,.inl rfl⟩
  |cons d r=>exact h.elim
def xU (is:Yj)(f:FE):FE:=λsd=>(f (jS is sd)).bare.bind λd=>if KB d then .ok d else .no
def XV {e:Expr}{j:FE}(is)(h:QE X E0 e j):QE X E0 e (xU is j):=PE.weak h λZ H Q l=>by
 obtain⟨B,F,sd,r,n⟩:=l;obtain⟨m,u,o⟩:=r.frz is;refine⟨B,m,_,o,(qV r.ext.fh (ja n)).mono (λd i v w p s t=>?_) λc fs q=>q⟩
 split at i
 .rename_i hs;exact i v F p (.grow r.ext.fh s.hh) (t.scal hs)
 .exact i.elim
end
inductive Out where
 |next (sd:SD)|ret (d:D)|brk (sd:SD)|cont (sd:SD)
def b6 (K:W.Frag)(F H:Hp)(Q:VK)(d:D):Prop:=if KB d=true then yq K F H Q d else xK K F H Q d
def Ao (K:W.Frag)(m:Option Bool)(B:Bs)(Q:VK)(d:D):Prop:=match m with
 |some true=>xK K B.F0 B.H0 Q d
 |some false=>yq K B.F0 B.H0 Q d
 |none=>b6 K B.F0 B.H0 Q d
def zv (K:W.Frag)(m:Option Bool)(B:Bs)(F:Hp)(T:Ends):Out->Prop
 | .next sd=>∀Z a b,jm F a->RS K B a b sd Z -> T.nx Z b
 | .brk sd=>∀Z a b,jm F a->RS K B a b sd Z -> T.bk Z b
 | .cont sd=>∀Z a b,jm F a->RS K B a b sd Z -> T.ct Z b
 | .ret d=>Ao K m B T.rt d
abbrev FS:=SD->Res Out
def vz (K:W.Frag)(E:XK)(m:Option Bool)(g:FS):TS:=λT Z H=>∃B F sd,RS K B F H sd Z /\ (g sd).need (zv K m B F T) (XW K E B.F0 B.H0)
abbrev QS (X:Cx)(E:XK)(m:Option Bool)(st:Stmt)(g:FS):Prop:=PS X st (vz X.K E m g)
abbrev zt (X:Cx)(E:XK)(m:Option Bool)(st:List Stmt)(g:FS):Prop:=qG X st (vz X.K E m g)
section
variable {K:W.Frag}{E:XK}{m:Option Bool}{B:Bs}{F F' H:Hp}{T:Ends}
def zv.mono (h:zv K m B F T o)(e:jm F F'):zv K m B F' T o:=by
 cases o with
 |next sd=>exact λZ a b s r=>h Z a b (e.trans s) r
 |brk sd=>exact λZ a b s r=>h Z a b (e.trans s) r
 |cont sd=>exact λZ a b s r=>h Z a b (e.trans s) r
 |ret d=>exact h
end
section
variable {X:Cx}{E:XK}{m:Option Bool}{st:Stmt}{sts:List Stmt}{g g1 g2:FS}{pos:Pos}
def JN:FS:=λsd=>.ok (.next sd)
def ji (g1 g2:FS):FS:=λsd=>(g1 sd).bind λo=>match o with
 | .next sd'=>g2 sd'
 |o=>.ok o
def Qe:zt X E m [] JN:=qG.weak ZL λT Z H ⟨B,F,sd,r,n⟩=>n Z F H (.refl _) r
def J7 (h:QS X E m st g):zt X E m [st] g:=Bw h
def J8 (b:QS X E m st g1)(c:zt X E m sts g2):zt X E m (st::sts) (ji g1 g2):=qG.weak (X9 b c) λT Z H e=>by
 obtain⟨B,F,sd,r,n⟩:=e;refine⟨B,F,sd,r,(ja n).mono (λo a=>?_) λ_ _ q=>q⟩;cases o with
 |next sd'=>exact λi f j s h=>⟨B,f,sd',h,a.mono (λo q=>q.mono s) λ_ _ q=>q⟩
 |ret d=>exact a
 |brk sd'=>exact a
 |cont sd'=>exact a
def WC (is)(h:QS X E m st g):QS X E m st (λsd=>g (jS is sd)):=PS.weak h λT Z H a=>by
 obtain⟨B,F,sd,r,n⟩:=a;obtain⟨b,c,e⟩:=r.frz is;exact⟨B,b,_,e,n.mono (λ_ q=>q.mono c) λ_ _ q=>q⟩
def vf:FS:=λsd=>.ok (.brk sd)
def O6:QS X E m (.Break pos) vf:=PS.weak LV λT Z H ⟨B,F,sd,r,n⟩=>n Z F H (.refl _) r
variable {e:Expr}{fe:FE}
def j3 (i:Nat)(f:FE):FS:=λsd=>(f sd).bind λd=>.ok (.next (sd.set i (some (.val d))))
def qb (i:Nat)(f:FE):FS:=λsd=>(f sd).bind λd=>.ok (.next (sd.set i (some (.own false d))))
def JS (b:X.N.Nodup)(c:X.N[i]? = some x)(f:yG X.env.scope x)(h:QE X E e fe)(hs:swapsWith e (some (.Name x pos')) pos.line X.env=pure false:=by rfl)
 (j:X.fn x=true\/X.env.scope.names.lookup x=some .local:=by trivial):QS X E m (.Assign [.Name x pos'] e pos) (j3 i fe):=PS.weak (DR b c f h hs j) λT Z H ⟨B,F,sd,r,n⟩=>⟨B,F,sd,r,(ja n).mono (λd l v o p a s=>(l _ o p a.ff ((r.step a).setVal s))) λ_ _ q=>q.ext r.ext⟩
def Kf (b:X.N.Nodup)(c:X.N[i]? = some x)(f:yG X.env.scope x)(h:QN X E e fe)(hs:swapsWith e (some (.Name x pos')) pos.line X.env=pure false:=by rfl)
 (s:X.fn x=true\/X.env.scope.names.lookup x=some .local:=by trivial):QS X E m (.Assign [.Name x pos'] e pos) (qb i fe):=PS.weak (DR b c f h hs s) λT Z H t=>by
 obtain⟨B,F,sd,r,n⟩:=t;refine⟨B,F,sd,r,(ja n).mono (λd u l v w a y z A=>(u _ v w a.ff ((r.step a).setOwn (Qj r.ext.hh y) z A λj p I C J=>?_))) λ_ _ q=>q.ext r.ext⟩;obtain⟨K,L,_,_,G,_⟩:=r.own C;obtain⟨o,M⟩:=G.has
 simp_all
def j0 (f:FE):FS:=λsd=>(f sd).bind λd=>.ok (.ret d)
def JL (a:QE X E e fe):QS X E false (.Return (some e) pos) (j0 fe):=PS.weak (ZM a) λT Z H ⟨B,F,sd,r,n⟩=>⟨B,F,sd,r,(ja n).mono (λd b v c f h i=>(b v c f (r.ext.trans h) i)) λ_ _ q=>q.ext r.ext⟩
def XX (a:QN X E e fe):QS X E true (.Return (some e) pos) (j0 fe):=PS.weak (ZM a) λT Z H ⟨B,F,sd,r,n⟩=>⟨B,F,sd,r,(ja n).mono (λd b l c f h i j o=>(b l c f (r.ext.trans h) (Qj r.ext.hh i) j o)) λ_ _ q=>q.ext r.ext⟩
def Kg (i:Nat):FS:=λsd=>match sd[i]? with
 |some (some (.own _ d))=>.ok (.ret d)
 |_=>.no
def Xf (a:PE X e (xC i)):QS X E true (.Return (some e) pos) (Kg i):=PS.weak (ZM a) λT Z H b=>by
 obtain⟨B,F,sd,r,n⟩:=b;unfold Kg at n
 split at n
 .rename_i d q;obtain⟨l,c,f,h,j,_⟩:=r.own q;exact⟨.ref l,c,n l F H r.ext f h j⟩
 .exact n.elim
def qi (c:FT)(g1 g2:FS):FS:=λsd=>(c sd).bind λb=>if b then g1 sd else g2 sd
def Qa (j:QT X E c fc)(l:zt X E m a g1)(o:zt X E m b g2):QS X E m (.If c a b pos) (qi fc g1 g2):=PS.weak (Bz j l o) λT Z H p=>by
 obtain⟨B,F,sd,r,n⟩:=p;refine⟨B,F,sd,r,(ja n).mono (λb h i s f=>?_) λ_ _ q=>q.ext r.ext⟩;cases b with
 |true=>exact⟨B,i,sd,r.step f,h.mono (λ_ q=>q.mono f.ff) λ_ _ q=>q⟩
 |false=>exact⟨B,i,sd,r.step f,h.mono (λ_ q=>q.mono f.ff) λ_ _ q=>q⟩
def Q6 (i:Nat)(f:FE):FS:=λsd=>match sd[i]? with
 |some (some (.own false (.lst ds)))=>(f sd).bind λd=>if ds.length<sizeLine then .ok (.next (sd.set i (some (.own false (.lst (ds++[d])))))) else .no
 |_=>.no
def KN (z:PE X o (xC i))(A:QE X E e fe)
 (hp:∀{p:TE} {t:TA},PE X o p->PA X [e] t->PE X (.Call (.Attribute o "append" apos) [e] [] cpos) (fM X.K "list" BA p t))
 (hs:swapsWith (.Call (.Attribute o "append" apos) [e] [] cpos) none pos.line X.env=pure false:=by rfl)
 (f:starEach [e] X.env=(false,eval e X.env)::starEach [] X.env:=by rfl):QS X E m (.Expr (.Call (.Attribute o "append" apos) [e] [] cpos) pos) (Q6 i fe):=
 PS.weak (Bx (hp z (J1 A J2 f)) hs) λT Z H C=>by
  obtain⟨B,F,sd,r,n⟩:=C;unfold Q6 at n
  split at n
  .rename_i ds s;obtain⟨l,u,L,M,⟨h,x,y⟩,_⟩:=r.own s;refine⟨.ref l,u,.inl ⟨rfl,h,xb.of x⟩,B,F,sd,r,?_⟩;unfold J0 jc;have a:=ja n;cases q:fe sd with
   |no=>rwa [q] at a
   |ex c fs=>rw[q] at a;exact a.ext r.ext
   |ok d =>
    rw[q] at a;intro N G O b I;obtain⟨v,w,rfl,J,K⟩:=I;subst K;have j:=a
    split at j
    .have P:=y.length;exact⟨l,h,v,rfl,rfl,b.hh _ _ x,(),j Z G _ b.ff ((r.step b).chg s u ⟨h++[v],JM,(jd.same b.ff _ _ y).snoc J⟩)⟩
    .exact j.elim
  .exact n.elim
def Xg (i:Nat)(f:FE):FS:=λsd=>match sd[i]? with
 |some (some (.own false (.lst ds)))=>(f sd).bind λd=>match d with
  | .lst es=>if ds.length+es.length<=sizeLine then .ok (.next (sd.set i (some (.own false (.lst (ds++es)))))) else .no
  |_=>.no
 |_=>.no
def O7 (x:PE X o (xC i))(y:QN X E e fe)
 (hp:∀{j:TE} {t:TA},PE X o j->PA X [e] t->PE X (.Call (.Attribute o "extend" apos) [e] [] cpos) (fM X.K "list" El j t))
 (hs:swapsWith (.Call (.Attribute o "extend" apos) [e] [] cpos) none pos.line X.env=pure false:=by rfl)
 (c:starEach [e] X.env=(false,eval e X.env)::starEach [] X.env:=by rfl):QS X E m (.Expr (.Call (.Attribute o "extend" apos) [e] [] cpos) pos) (Xg i fe):=
 PS.weak (Bx (hp x (Wf y W0 c)) hs) λT Z H z=>by
  obtain⟨B,F,sd,r,n⟩:=z;unfold Xg at n
  split at n
  .rename_i ds p;obtain⟨l,s,I,J,⟨f,u,v⟩,_⟩:=r.own p;refine⟨.ref l,s,.inl ⟨rfl,f,xb.of u⟩,B,F,sd,r,(ja n).mono (λd w b A K a L M C=>?_) λ_ _ q=>q.ext r.ext⟩;cases d with
   |lst es =>
    have ⟨ys,g1,g2⟩:=C;have h:(if ds.length+es.length<=sizeLine then Res.ok (Out.next (sd.set i (some (.own false (.lst (ds++es)))))) else .no).need (zv X.K m B F T) (XW X.K E B.F0 B.H0):=w
    split at h
    .have N:=v.length;have G:=g2.length;exact⟨l,b,f,ys,rfl,rfl,a.hh _ _ u,g1,(),h Z A _ a.ff ((r.step a).chg p s ⟨f++ys,JM,(jd.same a.ff _ _ v).append g2⟩)⟩
    .exact h.elim
   |_=>exact w.elim
  .exact n.elim
inductive Tg where
 |one (i:Nat)|tup (is:Yj)
def setAll:Yj->YH->SD->SD
 |i::is,d::ds,sd=>setAll is ds (sd.set i (some (.val d)))
 |_,_,sd=>sd
def JR:Tg->D->SD->Res SD
 | .one i,d,sd=>.ok (sd.set i (some (.val d)))
 | .tup is,.tup ds,sd=>if ds.length=is.length then .ok (setAll is ds sd) else .no
 |_,_,_=>.no
def Ap:Yj->YF->St->St
 |i::is,v::vs,Z => Ap is vs (Z.set i (some v))
 |_,_,Z => Z
theorem RS.setAll {K:W.Frag}{B:Bs}{F H:Hp}:∀{is:Yj} {ds:YH} {a:YF} {sd:SD} {Z: St},RS K B F H sd Z -> jd K F ds a->RS K B F H (setAll is ds sd) (Ap is a Z)
 | [],ds,a,sd,Z,r,_=>r
 |i::is,[],a,sd,Z,r,h=>by
  subst h;exact r
 |i::is,d::ds,a,sd,Z,r,h=>by
  obtain⟨v,w,rfl,b,c⟩:=h;exact RS.setAll (is:=is) (r.setVal b) c
def RS.forget {K:W.Frag}{B:Bs}{F H:Hp}{sd sd':SD}{Z: St}(r:RS K B F H sd Z)(a:sd'.length=sd.length)(h:∀(i:Nat) x,sd'[i]? = some (some x)->sd[i]? = some (some x)):RS K B F H sd' Z:=
 ⟨r.ext,by rw[r.len,a],λq=>r.val (h _ _ q),λq=>r.own (h _ _ q),λn b c f=>r.apart n (h _ _ b) (h _ _ c) f⟩
def gT:Tg->W.Frag->TG
 | .one i,_=>KJ i
 | .tup is,K=>λv Z H Q=>∃a b,v=.ref a/\yi K H a b/\b.length=is.length/\Q (Ap is b Z) H
def XY {K:W.Frag}{tg:Tg}{B:Bs}{F H:Hp}{sd:SD}{Z: St}{d:D}{v:V}{p:SD->Prop}{q:Str->YH->Prop}{Q:St->Hp->Prop}(r:RS K B F H sd Z)(f:jg K F d v)(n:(JR tg d sd).need p q)
 (h:∀sd' j,p sd'->JR tg d sd=.ok sd'->RS K B F H sd' j->Q j H):gT tg K v Z H Q:=by
 cases tg with
 |one i=>exact h _ _ n rfl (r.setVal f)
 |tup is =>
  cases d with
  |tup ds =>
   obtain⟨a,o,rfl,s,l⟩:=f;have b:JR (.tup is) (.tup ds) sd=if ds.length=is.length then .ok (setAll is ds sd) else .no:=rfl
   by_cases c:ds.length=is.length
   .rw[Zd c] at b;rw[b] at n;exact⟨a,o,rfl,(s.same r.ext.fh).sq,by rw[l.length,c],h _ _ n b (r.setAll l)⟩
   .rw[Ze c] at b;rw[b] at n;exact n.elim
  |_=>exact n.elim
abbrev QG (X:Cx)(e:Expr)(tg:Tg):Prop:=PG X e (gT tg X.K)
def wy (K:W.Frag)(h:Hp)(J:It)(ds:YH):Prop:=∀(i:Nat) (b a:Hp),jm h b->jm b a ->
 (i<ds.length->J.go i a/\∀x c,J.yld i a x c->∃d f,ds[i]? = some d/\Ext b a f c/\jg K f d x)/\(ds.length<=i->J.stop i a)
def fL (K:W.Frag)(E:XK)(f:FA):TI:=λZ H R=>∃B F sd,RS K B F H sd Z /\ (f sd).need (λds=>∀J a b,Ext F H a b->wy K a J ds->R J b) (XW K E F H)
abbrev QI (X:Cx)(E:XK)(tg iter:Expr)(f:FA):Prop:=PI X tg iter (fL X.K E f)
def yg (b:D->FS):YH->FS
 | [],sd=>.ok (.next sd)
 |x::xs,sd=>(b x sd).bind λo=>match o with
  | .next sd'=>yg b xs sd'
  | .cont sd'=>yg b xs sd'
  | .brk sd'=>.ok (.next sd')
  | .ret d=>.ok (.ret d)
def jL (it:FA)(tg:Tg)(b:FS):FS:=λsd=>(it sd).bind λds=>yg (λx sd=>(JR tg x sd).bind b) ds sd
def Qk (hp:PassesOwn (model X.prog X.w) X.A X.env X.xe)(Q:X.calm=true)(M:QI X E tg iter fi)(R:QG X tg t)(S:zt X E m body g)
 (w:∀x,foldedSetIterable iter X.env x=pure x:=by intro _;rfl):QS X E m (.For tg iter body [] pos) (jL fi t g):=PS.weak (DS hp Q M R S w) λT Z H U=>by
 obtain⟨B,F,sd,r,n⟩:=U;refine⟨B,F,sd,r,(ja n).mono (λds Y J z H1 N wk=>(⟨λi k Z H=>k=ds.length-i/\i<=ds.length/\∃j sd,jm z j/\RS X.K B j H sd Z /\ (yg (λx sd=>(JR t x sd).bind g) (ds.drop i) sd).need (zv X.K m B j T) (XW X.K E B.F0 B.H0),
  ⟨ds.length,rfl,Ua _,z,sd,.refl _,r.step N,Y.mono (λ_ q=>q.mono N.ff) λ_ _ q=>q⟩,?_⟩)) λ_ _ q=>q.ext r.ext⟩
 rintro i k Z2 O ⟨rfl,M,j,sd2,A,C,p⟩;obtain⟨w1,w2⟩:=wk i j O A C.ext.fh;by_cases c:i<ds.length
 .obtain⟨go,yl⟩:=w1 c;refine .inr ⟨go,λG P=>∃f a,jm z f/\RS X.K B f P a G/\(yg (λx sd=>(JR t x sd).bind g) (ds.drop (i+1)) a).need (zv X.K m B f T) (XW X.K E B.F0 B.H0),
   λG P ⟨f,a,q1,q2,q3⟩=>⟨ds.length-(i+1),(),rfl,c,f,a,q1,q2,q3⟩,λx H3 y=>?_⟩
  obtain⟨d,f,hd,l,i3⟩:=yl x H3 y;rw[Ut c] at p;have I:ds[i]=d:=by simp_all
  rw[I] at p;refine XY (C.step l) i3 (ja (ja p)) λsd' G n4 _ r4=>⟨B,f,sd',r4,n4.mono (λo v=>?_) λ_ _ q=>q⟩;cases o with
  |next b=>exact λK s L h u=>⟨s,b,(A.trans l.ff).trans h,u,v.mono (λ_ q=>q.mono (l.ff.trans h)) λ_ _ q=>q⟩
  |cont b=>exact λK s L h u=>⟨s,b,(A.trans l.ff).trans h,u,v.mono (λ_ q=>q.mono (l.ff.trans h)) λ_ _ q=>q⟩
  |brk b=>exact λK s L h u=>v K s L (l.ff.trans h) u
  |ret d=>exact v
 .have he:i=ds.length:=()
  refine .inl ⟨w2 (),?_⟩;subst he;rw[Va] at p;exact p Z2 j O (.refl _) C
def xS {α β: Type}(f:α -> Res β):List α -> Res (List β)
 | []=>.ok []
 |x::xs=>(f x).bind λy=>(xS f xs).bind λys=>.ok (y::ys)
def jW (cap:List (Option Nat))(sd:SD):SD:=cap.map λo=>o.bind λj=>match sd[j]? with
 |some (some (.val d))=>some (.val d)
 |_=>none
def V2 (sd:SD)(i:Nat):Bool:=match sd[i]? with
 |some none=>true
 |_=>false
def V3 (sd:SD):Tg->Bool
 | .one i=>V2 sd i
 | .tup is=>is.all (V2 sd)
def Qy (cap:List (Option Nat))(it:FA)(tg:Tg)(f:FE):FE:=λsd=>(it sd).bind λds=>if V3 (jW cap sd) tg=true/\ds.length<sizeLine then
 (xS (λx=>(JR tg x (jW cap sd)).bind f) ds).bind λys=>.ok (.lst ys) else .no
theorem RS.cap {K:W.Frag}{B:Bs}{F H:Hp}{sd:SD}{Z: St}(cap)(r:RS K B F H sd Z):RS K B F H (jW cap sd) (KL cap Z):=by
 have a:∀{i:Nat} {x:SV},(jW cap sd)[i]? = some (some x)->∃j d,cap[i]? = some (some j)/\sd[j]? = some (some (.val d))/\x=.val d:=λ{i x} q=>by
  unfold jW at q;rw[Zv] at q;cases c:cap[i]? with
  |none=>rw[c] at q;exact J6 q
  |some o =>
   rw[c] at q;cases o with
   |none=>cases q
   |some j =>
    have q:(match sd[j]? with
     |some (some (.val d))=>some (SV.val d)
     |_=>none)=some x:=Zqi q
    split at q
    .rename_i d u;exact()
    .exact J6 q
 refine⟨r.ext,by unfold jW KL;rw[Zql,Zql],λ{i d} q=>?_,λ{i p d} q=>?_,λ{i j p w d e l} _ q=>?_⟩
 .obtain⟨j,n,f,h,b⟩:=a q;cases b;obtain⟨v,s,t⟩:=r.val h;refine⟨v,?_,t⟩;unfold KL;rw[Zv,f];show some (Option.bind (some j) λj=>(Z[j]?).join)=_;rw[Option.bind_some,s];rfl
 .obtain⟨j,n,f,h,b⟩:=a q;cases b
 grind
theorem Ck:∀is ds a sd,is.all (V2 a)=true->sd.length=a.length->(∀(i:Nat) x,a[i]? = some (some x)->sd[i]? = some (some x)) ->
 (setAll is ds sd).length=a.length/\∀(i:Nat) x,a[i]? = some (some x)->(setAll is ds sd)[i]? = some (some x)
 | [],ds,a,sd,_,hl,h=>⟨hl,h⟩
 |i::is,[],a,sd,_,hl,h=>⟨hl,h⟩
 |i::is,d::ds,a,sd,hn,hl,h=>by
  rw[UD,Uc] at hn;refine Ck is ds a (sd.set i (some (.val d))) hn.2 (by rw[UM,hl]) λj x q=>?_;have ne:i≠j:=λz=>by
   subst z;have:=hn.1;unfold V2 at this;rw[q] at this;exact JF this
  rw[Q5 ne];exact h j x q
def Cm (a:V3 sd0 tg=true)(h:JR tg d sd0=.ok sd):sd0.length=sd.length/\∀(i:Nat) x,sd0[i]? = some (some x)->sd[i]? = some (some x):=by
 cases tg with
 |one i =>
  cases h;have:=Ck [i] [d] sd0 sd0 (by rwa [UD,List.all_nil,Bool.and_true]) rfl λ_ _ q=>q;exact⟨this.1.symm,this.2⟩
 |tup is =>
  cases d with
  |tup ds =>
   have b:JR (.tup is) (.tup ds) sd0=if ds.length=is.length then .ok (setAll is ds sd0) else .no:=rfl
   rw[b] at h
   split at h
   .cases h;have:=Ck is ds sd0 sd0 a rfl λ_ _ q=>q;exact⟨this.1.symm,this.2⟩
   .cases h
  |_=>cases h
def F6 {α β: Type}{f:α -> Res β}{a:List α}{x:α}{p:List β -> Prop}(l:a[i]? = some x)(h:(xS f (a.drop i)).need p q):(f x).need (λy=>(xS f (a.drop (i+1))).need (λys=>p (y::ys)) q) q:=by
 have b:i<a.length:=();rw[Ut b] at h;have e:a[i]=x:=by simp_all
 rw[e] at h;exact(ja h).mono (λy c=>((ja c).mono (λys j=>j) λ_ _ z=>z)) λ_ _ z=>z
def Aq {K:W.Frag}{t:Tg}{C:FA}{f:FE}{cap:List (Option Nat)}{Z: St}{H:Hp}{Q:VK}(o:vd K E (Qy cap C t f) Z H Q):WX cap (fL K E C) (gT t K) (tD K E f) Z H Q:=by
 obtain⟨B,F,sd,r,n⟩:=o;refine⟨B,F,sd,r,(ja n).mono (λds p J G L l wk=>?_) λ_ _ q=>q⟩
 split at p
 .rename_i o;obtain⟨M,hz⟩:=o;refine⟨λi k ys Z b=>k=ds.length-i/\i<=ds.length/\∃a es,Ext G L a b/\RS K B a b (jW cap sd) Z /\ jd K a es ys/\es.length=i /\
   (xS (λx=>(JR t x (jW cap sd)).bind f) (ds.drop i)).need (λrs=>xK K a b Q (.lst (es++rs))) (XW K E a b),⟨ds.length,rfl,Ua _,G,[],.refl l.fh,(r.step l).cap cap,.nil,rfl,?_⟩,?_⟩
  .exact(ja p).mono (λrs q=>(q).ext l) λ_ _ q=>q.ext l
  rintro i k ys Z2 b ⟨rfl,hi,a,es,s,u,w,hl,z⟩;have ly:=w.length;refine⟨(),?_⟩;obtain⟨N,O⟩:=wk i a b s.ff s.fh;by_cases h:i<ds.length
  .obtain⟨go,P⟩:=N h;refine .inr ⟨go,λx R y=>?_⟩;obtain⟨d,S,T,c,U⟩:=P x R y;have Y:=F6 T z;have r3:=u.step c;refine XY r3 U (ja Y) λsd' Z' n4 hb I=>?_;obtain⟨b1,b2⟩:=Cm M hb;refine⟨B,S,sd',I,n4.mono (λy n5 v F4 H4 j i4=>⟨ds.length-(i+1),(),rfl,h,F4,es++[y],(s.trans c).trans j,(I.step j).forget b1 b2,(jd.same (c.ff.trans j.ff) _ _ w).snoc i4,(),n5.mono (λrs q=>?_) λ_ _ q=>q.ext (c.trans j)⟩) λ_ _ q=>q.ext c⟩;rw[Uh];exact q.ext (c.trans j)
  .have he:i=ds.length:=()
   subst he;refine .inl ⟨O (Zf _),λD A=>?_⟩;rw[Va] at z;have q:xK K a b Q (.lst (es++[])):=z;rw[ZA] at q;exact q D a _ (.keep u.ext.fh A _) A (Qj u.ext.fh A) ⟨ys,JM,w⟩
 .exact p.elim
def Wm (N)(cap)(i:X.calm=true)(a:QH scope X.env N X.N cap=true)(j:QI X E tg iter fi)
 (l:∀b C s H c,QG (JK X scope N b C s H c) tg t) (n:∀b C s H c,QE (JK X scope N b C s H c) E elt f) (hs:∀x,foldedSetIterable iter X.env x=pure x:=by intro _;rfl):
 QN X E (.ListComp elt [⟨tg,iter,[],0⟩] scope pos) (Qy cap fi t f):=PE.weak (N5 N cap i a j l n hs) λ_ _ _ h=>Aq h
def Qz (n:Nat)(ds:YH):SD:=ds.map (λd=>some (.val d))++List.replicate (n-ds.length) none
def jE (n ar:Nat)(g:FS)(ds:YH):Res D:=if ds.length=ar then(g (Qz n ds)).bind λo=>match o with
 | .ret d=>.ok d
 | .next _=>.ok .non
 |_=>.no else .no
def qf (n ar:Nat)(g:FS)(ds:YH):Res D:=if ds.length=ar then(g (Qz n ds)).bind λo=>match o with
 | .ret d=>.ok d
 |_=>.no else .no
theorem RS.start {K:W.Frag}{F H:Hp}{N:Yk}{ds:YH}{c:YF}(s:jm F H)(h:jd K F ds c):RS K ⟨F,H,λ_=>none⟩ F H (Qz N.length ds) (start N c):=by
 have a:∀{i:Nat} {x:SV},(Qz N.length ds)[i]? = some (some x)->∃d,ds[i]? = some d/\x=.val d:=λ{i x} q=>by
  unfold Qz at q;by_cases f:i<ds.length
  .rw[UX (by rwa [Zql]),Zv,Zqg f] at q;exact⟨ds[i],Zqg f,(Zqi (Zqi q)).symm⟩
  .rw[UY (by rw[Zql];lia),VE] at q
   split at q<;>(first|exact J6 q|cases q)
 refine⟨.refl s,by unfold Qz L2.start;simp[h.length],λ{i d} q=>?_,λ{i p d} q=>?_,λ{i j p t d e l} _ q=>?_⟩
 .obtain⟨u,o,b⟩:=a q;cases b;obtain⟨v,n,r⟩:=h.get o;refine⟨v,?_,r⟩;unfold L2.start;rw[UX (by rw[Zql];exact(Jc.mp n).1),Zv,n];rfl
 .obtain⟨_,_,b⟩:=a q;cases b
 .obtain⟨_,_,b⟩:=a q;cases b
section
variable {P:Program}{w:World}{K:W.Frag}{mg:Ye}{base:Heap}{x qual:Str}{f:Addr}{fd:FuncData}{N ps:Yk}{k:Nat}
def qo (F:Fun K x qual st f fd)(S:FnScope N ps (JZ st))
 (i:∀b A a s H E,Room k (A.deeper (envOfC qual (JZ st) s.heap.objs.size f b))->zt (qc yr P w K mg base N qual (JZ st) f b A a s H E).nox E0 false (QV st) g):
 FnOk P w K mg base yr (k+1) f fd ps (qw K (jE N.length ps.length g)):=by
 refine F.ok S (λj H Q E ⟨F,ds,_,h,n⟩=>?_) λb A a s H j Q E l ⟨F,ds,hs,h,n⟩=>⟨_,i b A a s H E l,?_⟩
 .unfold jE at n
  split at n
  .rw[h.length];lia
  .exact n.elim
 .unfold jE at n
  split at n
  .refine⟨⟨F,H,λ_=>none⟩,F,_,RS.start hs h,(ja n).mono (λo c=>?_) λ_ _ q=>q⟩;cases o with
   |next sd=>exact λZ p t _ r=>c .non p t r.ext (jD.mpr rfl)
   |ret d=>exact c
   |brk sd=>exact c.elim
   |cont sd=>exact c.elim
  .exact n.elim
def y7 (F:Fun K x qual st f fd)(S:FnScope N ps (JZ st))
 (i:∀b A a s H E,Room k (A.deeper (envOfC qual (JZ st) s.heap.objs.size f b))->zt (qc yr P w K mg base N qual (JZ st) f b A a s H E).nox E0 true (QV st) g):
 FnOk P w K mg base yr (k+1) f fd ps (zj K (qf N.length ps.length g)):=by
 refine F.ok S (λj H Q E ⟨F,ds,_,h,n⟩=>?_) λb A a s H j Q E l ⟨F,ds,hs,h,n⟩=>⟨_,i b A a s H E l,?_⟩
 .unfold qf at n
  split at n
  .rw[h.length];lia
  .exact n.elim
 .unfold qf at n
  split at n
  .refine⟨⟨F,H,λ_=>none⟩,F,_,RS.start hs h,(ja n).mono (λo c=>?_) λ_ _ q=>q⟩;cases o with
   |next sd=>exact c.elim
   |ret d=>exact c
   |brk sd=>exact c.elim
   |cont sd=>exact c.elim
  .exact n.elim
end
end
def qm (p:Int×Int):D:=.tup [.int p.1,.int p.2]
def jz (r:Jy):D:=.tup (r.map qm)
def Ar:D->Option (Int×Int)
 | .tup [.int i,.int j]=>some (i,j)
 |_=>none
def Q9 {α: Type}(f:D->Option α):YH->Option (List α)
 | []=>some []
 |d::ds=>(f d).bind λx=>(Q9 f ds).map λa=>x::a
def K0:D->Option Jy
 | .tup ds=>Q9 Ar ds
 |_=>none
def XZ:D->Option Int
 | .int i=>some i
 |_=>none
theorem Au {α β: Type}{f:D->Option α}{g:β -> D}{k:β -> α}(h:∀x,f (g x)=some (k x)):∀l:List β,Q9 f (l.map g)=some (l.map k)
 | []=>rfl
 |x::r=>by rw[Zl];unfold Q9;rw[h,Au h r];rfl
theorem Av {α: Type}{f:D->Option α}{g:α -> D}(h:∀d x,f d=some x->d=g x):∀{ds:YH} {l:List α},Q9 f ds=some l->ds=l.map g
 | [],l,e=>by cases e;rfl
 |d::ds,l,e=>by
  unfold Q9 at e;cases a:f d with
  |none=>simp_all
  |some x =>
   cases b:Q9 f ds with
   |none=>simp_all
   |some c =>
    rw[a,b] at e;obtain rfl:=Zqi e;rw[Zl,<- h d x a,<- Av h b]
def O8 (p):Ar (qm p)=some p:=rfl
def O9 (h:Ar d=some p):d=qm p:=by
 cases d with
 |tup ds =>
  cases ds with
  |nil=>exact J6 h
  |cons x ds =>
   cases x with
   |int i =>
    cases ds with
    |nil=>exact J6 h
    |cons y ds =>
     cases y with
     |int j =>
      cases ds with
      |nil=>obtain rfl:=Zqi h;rfl
      |cons _ _=>exact J6 h
     |_=>exact J6 h
   |_=>exact J6 h
 |_=>exact J6 h
def F7 (r):K0 (jz r)=some r:=by
 show Q9 Ar (r.map qm)=some r;rw[Au (k:=id) O8,List.map_id]
def F8 (h:K0 d=some r):d=jz r:=by
 cases d with
 |tup ds=>unfold jz;rw[<- Av (λ_ _=>O9) (h)]
 |_=>exact J6 h
def OA (h:XZ d=some i):d=.int i:=by
 cases d with
 |int j=>cases h;rfl
 |_=>exact J6 h
def OB (h:Q9 XZ ds=some l):ds=l.map D.int:=Av (λ_ _=>OA) h
def OC (l):Q9 XZ (l.map D.int)=some l:=by
 rw[(Au (f:=XZ) (λ_=>rfl) l),List.map_id']
def Co (l):Q9 K0 (l.map jz)=some l:=by rw[Au (k:=id) F7,List.map_id]
def Cp (h:Q9 K0 ds=some l):ds=l.map jz:=Av (λ_ _=>F8) h
section
variable {K:W.Frag}{H:Hp}
def nT:jg K H (qm p) v↔Is H (pD p) v:=by
 rfl
theorem v5:∀{r:Jy} {a:YF},jd K H (r.map qm) a↔qh H (r.map pD) a
 | [],a=>by rfl
 |p::r,a=>by
  constructor
  .rintro⟨x,w,rfl,b,c⟩;exact⟨x,w,rfl,nT.mp b,v5.mp c⟩
  .intro h;obtain⟨x,w,e,b,c⟩:=h;exact⟨x,w,e,nT.mpr b,v5.mpr c⟩
def b9:jg K H (jz r) v↔Is H (rD r) v:=by
 constructor
 .rintro⟨a,b,e,c,f⟩;exact⟨a,b,e,c,v5.mp f⟩
 .rintro⟨a,b,e,c,f⟩;exact⟨a,b,e,c,v5.mpr f⟩
theorem zW:∀{r:Jz} {a:YF},jd K H (r.map jz) a↔qh H (r.map rD) a
 | [],a=>by rfl
 |p::r,a=>by
  constructor
  .rintro⟨x,w,rfl,b,c⟩;exact⟨x,w,rfl,b9.mp b,zW.mp c⟩
  .intro h;obtain⟨x,w,e,b,c⟩:=h;exact⟨x,w,e,b9.mpr b,zW.mpr c⟩
end
section
variable {X:Cx}{E:XK}
def gI (f:Int->Int->D):D->D->YI
 | .int i,.int j=>some (f i j)
 |_,_=>none
def kP (c:Int->Int->Bool)(f:Int->Int->D):D->D->YI
 | .int i,.int j=>if c i j then some (f i j) else none
 |_,_=>none
def F9 (o:xi X h (v0 g))(a:∀i j F,jg X.K F (f i j) (g i j)):yX X h (gI f):=xi.weak o λx y H Q b=>by
 obtain⟨F,d,e,z,c,id,l,hz,q⟩:=b;cases d with
 |int i =>
  cases e with
  |int j=>cases hz;exact⟨i,j,je.mp id,je.mp l,q _ F H (.refl c) (a i j F)⟩
  |_=>exact J6 hz
 |_=>exact J6 hz
def Aw (o:xi X h (rI C g))(b:∀i j,c i j=true->C i j)(l:∀i j F,jg X.K F (f i j) (g i j)):yX X h (kP c f):=xi.weak o λx y H Q m=>by
 obtain⟨F,d,e,z,n,id,p,hz,q⟩:=m;cases d with
 |int i =>
  cases e with
  |int j =>
   have hz:(if c i j then some (f i j) else none)=some z:=hz
   split at hz
   .rename_i a;cases hz;exact⟨i,j,je.mp id,je.mp p,b i j a,q _ F H (.refl n) (l i j F)⟩
   simp_all
  |_=>exact J6 hz
 |_=>exact J6 hz
def yw (i)(F):jg X.K F (.int i) (.int i):=je.mpr rfl
def wS (b)(F):jg X.K F (.bl b) (.bl b):=jp.mpr rfl
def y0:=gI λi j=>.int (i-j)
def y9:Nat:=10715086071862673209484250490600018105614048117055336074437503883703510511249361224931983788156958581275946729175531468251871452856923140435984577574698574803934567774824230985421074605062371141877954182153046474983581941267398767559165543946077062914571196477686542167660429831652624386837205668069376
def Km (i j:Int):Bool:=(UE i.natAbs 18446744073709551616||UE j.natAbs 18446744073709551616)||(UE i.natAbs y9&&UE j.natAbs y9)
def FB (h:k.natAbs<y9):Builtin.Int.intBits k<=2 ^ 20:=by
 have e:y9<=2 ^ 1000:=Nat.le_of_ble_eq_true rfl;have a:k.natAbs<2 ^ 1000:=()
 unfold Builtin.Int.intBits
 split
 .exact Ua _
 .have l:k.natAbs.log2<1000:=by
   rcases Vm k.natAbs with h0|hp
   .simp_all
   .exact(Nat.log2_lt (U6 hp)).mpr a
  lia
def OD (h:Km i j=true):IntMulOk i j:=by
 unfold Km at h;rw[U7,U7,Uc,UF,UF,UF,UF] at h;rcases h with (h|h)|⟨h1,h2⟩
 .exact .of_left (intBits_le_64 () ())
 .exact .of_right (intBits_le_64 () ())
 .exact .of_bits (FB h1) (FB h2)
def OE:xi X (binaryOp .Mult) (rI (λi j=>Km i j=true) λi j=>.int (i*j)):=fQ λ_ _ _ _ _ _ _ a q=>mul_int q (OD a)
def qE:=kP Km λi j=>.int (i*j)
def Qp:=kP (λ_ j=>UE 0 j.toNat&&UE j.toNat 1073741824) λi j=>.int (i / j)
def jK:=kP (λ_ j=>UE 0 j.toNat) λi j=>.int (i % j)
def qS:=kP (λi j=>UP (-j).toNat 0&&(UP j.toNat 1000000&&UE i.natAbs 18446744073709551616)) λi j=>.int (i ^ j.toNat)
def v3:=gI λi j=>.bl (decide (j<i))
def Ax:yX X (binaryOp .Sub) y0:=F9 Mh λ_ _ F=>yw _ F
def WD:yX X (binaryOp .Mult) qE:=Aw OE (λi j h=>h) λ_ _ F=>yw _ F
def QZ:yX X (binaryOp .FloorDiv) Qp:=Aw Mi (λi j h=>by simp_all [fF]) λ_ _ F=>yw _ F
def Qq:yX X (binaryOp .Mod) jK:=Aw Mj () λ_ _ F=>yw _ F
def Wn:yX X (binaryOp .Pow) qS:=Aw Ml (λi j h=>by simp_all [fE]) λ_ _ F=>yw _ F
def vi:yX X (compareOp .Gt) v3:=F9 uQ λ_ _ F=>wS _ F
def qT:D->YI
 | .int i=>some (.int (-i))
 |_=>none
def KO:w5 X (unaryOp .USub) (mn X.K qT):=w5.weak Mm λx H Q a=>by
 obtain⟨F,d,z,b,id,hz,q⟩:=a;cases d with
 |int i=>cases hz;exact⟨i,je.mp id,q _ F H (.refl b) (yw _ F)⟩
 |_=>exact J6 hz
def js:D->D->YI
 | .int i,.int j=>some (.int (i+j))
 | .str x,.str y=>if x.length+y.length<=sizeLine then some (.str (x++y)) else none
 | .tup a,.tup b=>if a ≠ []/\b ≠ []/\a.length+b.length<=sizeLine then some (.tup (a++b)) else none
 | .lst a,.lst b=>if a.length+b.length<=sizeLine then some (.lst (a++b)) else none
 |_,_=>none
def uw (K:W.Frag):R2:=λx y H Q=>∃l b a c,x=.ref l/\y=.ref b/\xx K H l a/\xx K H b c/\a.length+c.length<=sizeLine/\∀p,H p=none->Q (.ref p) (jB H p (.lst (a++c)))
def FC:xi X (binaryOp .Add) (uw X.K):=by
 intro Y s Z H x y v u Q I f g h;obtain⟨l,b,w,z,rfl,rfl,i,j,hz,q⟩:=h;obtain rfl:=f;obtain rfl:=g;obtain⟨_,its,n,c,m⟩:=i.ok I.hok;obtain⟨_,a,A,e,o⟩:=j.ok I.hok;have p:=c.length;have r:=e.length;refine PySem.P.add_list m o ?_ ();have t:its.toArray++a.toArray=(its++a).toArray:=by simp
 rw[t];exact⟨.ref _,_,I.lnew (c.append e) (),rfl,q _ I.fresh⟩
def JP:yX X (binaryOp .Add) js:=by
 intro Y s Z H x y v u Q I m n ⟨F,d,e,z,c,id,o,hz,q⟩;cases d with
 |int i =>
  cases e with
  |int j=>cases hz;exact Mg Y s Z H x y v u Q I m n ⟨i,j,je.mp id,je.mp o,q _ F H (.refl c) (yw _ F)⟩
  |_=>exact J6 hz
 |str a =>
  cases e with
  |str b =>
   have hz:(if a.length+b.length<=sizeLine then some (D.str (a++b)) else none)=some z:=hz
   split at hz
   .rename_i B;cases hz;exact Mo Y s Z H x y v u Q I m n ⟨a,b,jr.mp id,jr.mp o,B,q _ F H (.refl c) (jr.mpr rfl)⟩
   simp_all
  |_=>exact J6 hz
 |tup a =>
  cases e with
  |tup b =>
   have hz:(if a ≠ []/\b ≠ []/\a.length+b.length<=sizeLine then some (D.tup (a++b)) else none)=some z:=hz
   split at hz
   .obtain rfl:=Zqi hz;obtain⟨r,f,rfl,t,g⟩:=id;obtain⟨w,ys,rfl,A,h⟩:=o;have C:=g.length;have G:=h.length;have J:f ≠ []:=by grind
    have K:ys ≠ []:=by grind
    refine MO Y s Z H _ _ v u Q I m n ⟨r,w,f,ys,rfl,rfl,(t.same c).sq,(A.same c).sq,J,(),λz=>Zn z K,λ_ p hp=>?_⟩;have l:=qQ c hp (.tup (f++ys));exact q _ _ _ l (j1.mpr ⟨p,_,rfl,.of JM,jd.same l.ff _ _ (g.append h)⟩)
   simp_all
  |_=>exact J6 hz
 |lst a =>
  cases e with
  |lst b =>
   have hz:(if a.length+b.length<=sizeLine then some (D.lst (a++b)) else none)=some z:=hz
   split at hz
   .obtain rfl:=Zqi hz;obtain⟨r,f,rfl,t,g⟩:=id;obtain⟨w,ys,rfl,A,h⟩:=o;have C:=g.length;have G:=h.length;refine FC Y s Z H _ _ v u Q I m n ⟨r,w,f,ys,rfl,rfl,t.same c,A.same c,(),λp hp=>?_⟩;have l:=qQ c hp (.lst (f++ys));exact q _ _ _ l (jn.mpr ⟨p,_,rfl,.of JM,jd.same l.ff _ _ (g.append h)⟩)
   simp_all
  |_=>exact J6 hz
 |_=>exact J6 hz
mutual
def xN:D->PyData
 | .non=>.none
 | .bl b=>.bool b
 | .int i=>.int i
 | .str x=>.str x
 | .tup ds=>.tuple (KP ds)
 | .lst ds=>.list (KP ds)
 | .ty _=>.none
 | .scr _=>.none
 | .dct _ _=>.none
 | .ins _ _ _=>.none
 | .exc _=>.none
 | .ucl _=>.none
 | .adr _=>.none
 | .dcf _ _=>.none
 | .pin _ _=>.none
def KP:YH->List PyData
 | []=>[]
 |d::ds=>xN d::KP ds
end
def qK:Nat->D->Bool
 | 0,_=>false
 |_+1,.int _=>true
 |_+1,.str x=>PyData.strOk x
 |_+1,.non=>true
 |n+1,.tup ds=>ds.all (qK n)
 |n+1,.lst ds=>ds.all (qK n)
 |_+1,_=>false
def Xh:∀n d,qK n d=true->(xN d).canLay0=true/\(xN d).depth<=n:=λn=>by
 induction n with
 |zero=>intro _ h;exact JF h
 |succ n a =>
  intro d h;have all:∀ds:YH,ds.all (qK n)=true->PyData.canLayAll0 (KP ds)=true/\PyData.depthAll (KP ds)<=n:=by
   intro ds
   induction ds with
   |nil=>intro _;exact⟨rfl,Ua _⟩
   |cons d ds b =>
    intro h;rw[UD,Uc] at h;obtain⟨c,e⟩:=a d h.1;obtain⟨f,g⟩:=b h.2;exact⟨Js.mpr ⟨c,f⟩,Nat.max_le.mpr ⟨e,g⟩⟩
  cases d with
  |int i=>exact⟨rfl,Ua _⟩
  |str i=>exact⟨h,Ua _⟩
  |non=>exact⟨rfl,Ua _⟩
  |tup ds=>exact⟨(all ds h).1,Vy (all ds h).2⟩
  |lst ds=>exact⟨(all ds h).1,Vy (all ds h).2⟩
  |_=>exact JF h
def D.ne {d e:D}(h:(d.ctorIdx == e.ctorIdx)=false):¬d=e:=λq=>by
 simp_all
def Cq:∀n d e,qK n d=true->qK n e=true->(PyData.eqv (xN d) (xN e)=true↔d=e):=λn=>by
 induction n with
 |zero=>intro _ _ h;exact JF h
 |succ n b =>
  intro d e h a;have all:∀ds es:YH,ds.all (qK n)=true->es.all (qK n)=true->(PyData.eqvAll (KP ds) (KP es)=true↔ds=es):=by
   intro ds
   induction ds with
   |nil =>
    intro es _ _;cases es with
    |nil=>exact iff_of_true rfl rfl
    |cons e es=>exact Zs Zj ()
   |cons d ds c =>
    intro es f g;cases es with
    |nil=>exact Zs Zj ()
    |cons e es =>
     show(PyData.eqv (xN d) (xN e)&&PyData.eqvAll (KP ds) (KP es))=true↔_
     simp_all
  cases d with
  |int i =>
   cases e with
   |int j=>exact⟨λq=>Zt D.int (Ys.mp q),λq=>Ys.mpr (D.int.inj q)⟩
   |str _=>exact Zs Zj (D.ne rfl)
   |non=>exact Zs Zj (D.ne rfl)
   |tup _=>exact Zs Zj (D.ne rfl)
   |lst _=>exact Zs Zj (D.ne rfl)
   |_=>exact JF a
  |str i =>
   cases e with
   |str j=>exact⟨λq=>Zt D.str (of_decide_eq_true q),λq=>Zp (D.str.inj q)⟩
   |int _=>exact Zs Zj (D.ne rfl)
   |non=>exact Zs Zj (D.ne rfl)
   |tup _=>exact Zs Zj (D.ne rfl)
   |lst _=>exact Zs Zj (D.ne rfl)
   |_=>exact JF a
  |non =>
   cases e with
   |non=>exact iff_of_true rfl rfl
   |int _=>exact Zs Zj (D.ne rfl)
   |str _=>exact Zs Zj (D.ne rfl)
   |tup _=>exact Zs Zj (D.ne rfl)
   |lst _=>exact Zs Zj (D.ne rfl)
   |_=>exact JF a
  |tup ds =>
   cases e with
   |tup es=>exact(all ds es h a).trans ()
   |int _=>exact Zs Zj (D.ne rfl)
   |str _=>exact Zs Zj (D.ne rfl)
   |non=>exact Zs Zj (D.ne rfl)
   |lst _=>exact Zs Zj (D.ne rfl)
   |_=>exact JF a
  |lst ds =>
   cases e with
   |lst es=>exact(all ds es h a).trans ()
   |int _=>exact Zs Zj (D.ne rfl)
   |str _=>exact Zs Zj (D.ne rfl)
   |non=>exact Zs Zj (D.ne rfl)
   |tup _=>exact Zs Zj (D.ne rfl)
   |_=>exact JF a
  |_=>exact JF h
theorem WE {P:Program}{w:World}{K:W.Frag}{H:Hp}{h:Heap}(ok:qH P w H h):∀n d v u,qK n d=true->jg K H d v->jv v u->∃g,Reads h u (xN d) g
 | 0,_,_,_,p,_,_=>JF p
 |n+1,d,v,u,p,q,r=>by
  have all:∀ds b l,ds.all (qK n)=true->jd K H ds b->ju b l->∃g,ReadsAll h l (KP ds) g:=by
   intro ds
   induction ds with
   |nil =>
    intro b l _ m f;subst m;cases f;exact⟨_,.nil⟩
   |cons d ds z =>
    intro b l hp m f;rw[UD,Uc] at hp;obtain⟨x,rs,rfl,j,A⟩:=m;cases f with
    |cons B C =>
     obtain⟨g,s⟩:=WE ok n d x _ hp.1 j B;obtain⟨bs,F⟩:=z rs _ hp.2 A C;exact⟨_,.cons s F⟩
  cases d with
  |int i =>
   subst q;obtain⟨t,rfl⟩:=(r);exact⟨_,.int i t⟩
  |str x =>
   subst q;obtain⟨t,rfl⟩:=(r);exact⟨_,.str x t⟩
  |non =>
   subst q;obtain rfl:=r;exact⟨_,.none⟩
  |tup ds =>
   obtain⟨a,b,rfl,f,j⟩:=q;obtain rfl:=r;obtain⟨_,its,y,o,e,c,G,I⟩:=(ok a _ f);obtain⟨g,s⟩:=all ds b its p j y;exact⟨_,.tuple e c I ()⟩
  |lst ds =>
   obtain⟨a,b,rfl,f,j⟩:=q;obtain rfl:=r;obtain⟨_,its,G,y,e⟩:=f.ok ok;obtain⟨g,s⟩:=all ds b its p j y;exact⟨_,.list e rfl rfl ()⟩
  |_=>exact JF p
section
open Classical
def Q0 (d e:D):Bool:=decide (d=e)
def Cr (d):Q0 d d=true:=Zp rfl
def bE:Q0 d e=true↔d=e:=decide_eq_true_iff
def bD:Q0 d e=false↔d≠e:=decide_eq_false_iff_not
def xm:D->D->YI
 | .bl a,.bl b=>some (.bl (a == b))
 |d,e=>if qK 12 d&&qK 12 e then some (.bl (Q0 d e)) else none
def zd:D->D->YI
 | .bl a,.bl b=>some (.bl (a != b))
 |d,e=>if qK 12 d&&qK 12 e then some (.bl (!Q0 d e)) else none
end
def FF (a:qK 12 d=true)(b:qK 12 e=true):xm d e=some (.bl (Q0 d e)):=by
 unfold xm
 split
 .exact JF a
 simp_all
def OF (a:qK 12 d=true)(b:qK 12 e=true):zd d e=some (.bl (!Q0 d e)):=by
 unfold zd
 split
 .exact JF a
 simp_all
def OG (i j):xm (.int i) (.int j)=some (.bl (decide (i=j))):=by
 rw[FF rfl rfl];by_cases h:i=j
 .simp_all [Cr]
 .rw[Zo h,bD.mpr ()]
def OH (i j):zd (.int i) (.int j)=some (.bl (!decide (i=j))):=by
 rw[OF rfl rfl];by_cases h:i=j
 .simp_all [Cr]
 .rw[Zo h,bD.mpr ()]
def qW (n:X.A.units+64<cLine):yX X (compareOp .Eq) xm:=by
 intro Y s Z H x y v u Q I g h ⟨F,d,e,z,c,id,f,hz,q⟩;unfold xm at hz
 split at hz
 .rename_i a b;obtain rfl:=Zqi hz;refine uR Y s Z H x y v u Q I g h ⟨?_,?_⟩
  .rw[jp.mp id,jp.mp f];rfl
  .rw[jp.mp id,jp.mp f];refine q _ F H (.refl c) ?_;cases a<;>cases b<;>rfl
 .split at hz
  .rename_i hp;rw[Uc] at hp;obtain rfl:=Zqi hz;obtain⟨o,i⟩:=WE I.hok 12 d x v hp.1 (jg.same c _ _ id) g;obtain⟨bs,j⟩:=WE I.hok 12 e y u hp.2 (jg.same c _ _ f) h;have ⟨l,p⟩:=Xh 12 d hp.1;have ⟨m,r⟩:=Xh 12 e hp.2;refine PySem.SeqAt.compareEq_reads i j l m () ?_;rw[(Vf.mpr ((Cq 12 d e hp.1 hp.2).trans bE.symm))];exact⟨.bl _,H,I,rfl,q _ F H (.refl c) (wS _ F)⟩
  simp_all
def zD (n:X.A.units+64<cLine):yX X (compareOp .NotEq) zd:=by
 intro Y s Z H x y v u Q I g h ⟨F,d,e,z,c,id,f,hz,q⟩;unfold zd at hz
 split at hz
 .rename_i a b;obtain rfl:=Zqi hz;refine uP Y s Z H x y v u Q I g h ⟨?_,?_⟩
  .rw[jp.mp id,jp.mp f];rfl
  .rw[jp.mp id,jp.mp f];refine q _ F H (.refl c) ?_;cases a<;>cases b<;>rfl
 .split at hz
  .rename_i hp;rw[Uc] at hp;obtain rfl:=Zqi hz;obtain⟨o,i⟩:=WE I.hok 12 d x v hp.1 (jg.same c _ _ id) g;obtain⟨bs,j⟩:=WE I.hok 12 e y u hp.2 (jg.same c _ _ f) h;have ⟨l,p⟩:=Xh 12 d hp.1;have ⟨m,r⟩:=Xh 12 e hp.2;refine PySem.SeqAt.compareNe_reads i j l m () ?_;rw[(Vf.mpr ((Cq 12 d e hp.1 hp.2).trans bE.symm))];exact⟨.bl _,H,I,rfl,q _ F H (.refl c) (wS _ F)⟩
  simp_all
end
def PE.or (h:PE X e t)(a:PE X e t'):PE X e (λZ H Q=>t Z H Q\/t' Z H Q):=λY s Z H Q I q=>q.elim (h Y s Z H Q I) (a Y s Z H Q I)
def PT.or (h:PT X e t)(a:PT X e t'):PT X e (λZ H Q=>t Z H Q\/t' Z H Q):=λY s Z H Q I q=>q.elim (h Y s Z H Q I) (a Y s Z H Q I)
def QF:D->Option j7
 | .int i=>some (.inl i)
 | .str x=>some (.inr x)
 |_=>none
def WF {K:W.Frag}{H:Hp}{d:D}{k:j7}{v:V}(h:QF d=some k)(i:jg K H d v):v=kV k:=by
 cases d with
 |int j=>cases h;exact je.mp i
 |str x=>cases h;exact jr.mp i
 |_=>exact J6 h
def jH:List j7->YH->j7->YI
 |k::ks,d::ds,q=>if k=q then some d else jH ks ds q
 |_,_,_=>none
theorem OI (k q:j7)(v)(r):qq ((k,v)::r) q=if k=q then some v else qq r q:=by
 grind[qq,List.find?_cons]
theorem Cs:jH (k::ks) (d::ds) q=if k=q then some d else jH ks ds q:=rfl
theorem Xi {K:W.Frag}{H:Hp}(q):∀{ks:List j7} {ds:YH} {a:YF},ks.length=a.length->jd K H ds a ->
 (∀d,jH ks ds q=some d->∃x,qq (ks.zip a) q=some x/\jg K H d x)/\(jH ks ds q=none->qq (ks.zip a) q=none)
 | [],ds,a,hl,h=>by
  refine⟨λd e=>?_,λ_=>rfl⟩;cases ds<;>exact J6 e
 |k::ks,[],a,hl,h=>by
  simp_all [jd.nil_iff]
 |k::ks,d::ds,a,hl,h=>by
  obtain⟨x,r,rfl,c,b⟩:=h;have f:=Xi q (UL hl) b
  grind[List.zip_cons_cons,OI,Cs]
def zf:List j7->YH->j7->D->YH
 |k::ks,d::ds,q,v=>(if k=q then v else d)::zf ks ds q v
 |_,_,_,_=>[]
def ze:List j7->YF->j7->V->YF
 |k::ks,d::ds,q,v=>(if k=q then v else d)::ze ks ds q v
 |_,_,_,_=>[]
def FG:zf (k::ks) (d::ds) q v=(if k=q then v else d)::zf ks ds q v:=rfl
def OJ:ze (k::ks) (d::ds) q v=(if k=q then v else d)::ze ks ds q v:=rfl
theorem FH {K:W.Frag}{H:Hp}{q:j7}{d:D}{v:V}(e:jg K H d v):∀{ks:List j7} {ds:YH} {a:YF},ks.length=a.length->jd K H ds a->jd K H (zf ks ds q d) (ze ks a q v)/\(ze ks a q v).length=ks.length /\
 (ks.zip a).map (λc=>if c.1=q then(c.1,v) else c)=ks.zip (ze ks a q v)
 | [],ds,a,hl,h=>by
  refine⟨?_,rfl,rfl⟩;rfl
 |k::ks,[],a,hl,h=>by
  simp_all [jd.nil_iff]
 |k::ks,d'::ds,a,hl,h=>by
  obtain⟨x,r,rfl,j,f⟩:=h;obtain⟨g,i,l⟩:=FH e (UL hl) f;rw[FG,OJ];refine⟨jd.mk ?_ g,by rw[Zu,i];rfl,?_⟩
  .by_cases b:k=q
   .rwa [Zd b,Zd b]
   .rwa [Ze b,Ze b]
  grind[List.zip_cons_cons,List.map_cons]
def yy (q:j7)(ks:List j7):Bool:=ks.any λk=>decide (k=q)
theorem FI (q):∀{ks:List j7} {a:YF},ks.length=a.length->((ks.zip a).any λb=>decide (b.1=q))=yy q ks
 | [],a,_=>rfl
 |k::ks,[],h=>by cases h
 |k::ks,x::a,h=>by
  rw[Vu,List.any_cons,FI q (UL h)];rfl
def V4 (ks:List j7)(q:j7):List j7:=if yy q ks=true then ks else ks++[q]
def Wo (ks:List j7)(ds:YH)(q:j7)(v:D):YH:=if yy q ks=true then zf ks ds q v else ds++[v]
def FJ {K:W.Frag}{H:Hp}{q:j7}{d:D}{v:V}{ks:List j7}{ds:YH}{b:YF}(c:ks.length=b.length)(h:jd K H ds b)(e:jg K H d v):
 ∃ys,qs (ks.zip b) q v=(V4 ks q).zip ys/\(V4 ks q).length=ys.length/\jd K H (Wo ks ds q d) ys:=by
 unfold qs V4 Wo;rw[FI q c];by_cases a:yy q ks=true
 .rw[Zd a,Zd a,Zd a];obtain⟨f,g,i⟩:=FH e c h;exact⟨_,i,g.symm,f⟩
 .rw[Ze a,Ze a,Ze a];exact⟨b++[v],by rw[List.zip_append c];rfl,by simp[c],h.snoc e⟩
section
variable {X:Cx}{E:XK}{m:Option Bool}{a b o i e:Expr}{fa fb fo fi fv:FE}{pos pos' apos cpos:Pos}
def Ct {K:W.Frag}{H:Hp}{ds:YH}{c:YF}{k:Int}{d:D}(h:jd K H ds c)(e:jX ds k=some d):∃x,jX c k=some x/\jg K H d x:=by
 unfold jX at e ⊢;rw[h.length];cases f:xJ ds.length k with
 |none=>simp_all
 |some j =>
  rw[f] at e;exact h.get e
def jt:D->D->YI
 | .lst ds,.int k=>jX ds k
 | .tup ds,.int k=>jX ds k
 | .scr ns,.int k=>(jX ns k).map .int
 | .str x,.int k=>if x.length<=sizeLine then(jX x.cps.toList k).map λc=>.str ⟨#[c]⟩ else none
 | .dct ks ds,k=>(QF k).bind λq=>jH ks ds q
 | .dcf ks ds,k=>(QF k).bind λq=>jH ks ds q
 |_,_=>none
def FK {K:W.Frag}{H:Hp}{d:D}{ks:List j7}{ds:YH}{v:V}(l:d=.dct ks ds\/d=.dcf ks ds)(h:jg K H d v):∃a c,v=.ref a/\Rd H a (.dK (ks.zip c))/\ks.length=c.length/\jd K H ds c:=by
 rcases l with rfl|rfl
 .obtain⟨a,c,f,g,j⟩:=jZ.mp h;exact⟨a,c,f,.inl g,j⟩
 .obtain⟨a,o,c,f,g,j⟩:=ql.mp h;exact⟨a,c,f,.inr ⟨o,g⟩,j⟩
def Cu {H c:Hp}{a:Addr}{u:HO}(e:jm H c)(h:Rd H a u):Rd c a u:=h.imp (λq=>e _ _ q) λ⟨o,q⟩=>⟨o,e _ _ q⟩
def Cv {H:Hp}{a:Addr}{c:List (j7×V)}{k:j7}(e:Rd H a (.dK c)):xy H a (kV k) (qq c k):=.inl ⟨c,k,e,rfl,rfl⟩
def FL:yH X (wQ X.K λd e=>match d with
 | .dct _ _=>none
 | .dcf _ _=>none
 |d=>jt d e):=yH.weak MQ λx y H Q ⟨F,d,e,z,f,id,h,hz,q⟩=>by
 cases d with
 |lst ds =>
  cases e with
  |int k =>
   obtain⟨p,n,rfl,g,r⟩:=id;obtain⟨x,l,s⟩:=Ct r (hz);exact .inl ⟨p,n,k,x,rfl,je.mp h,(g.same f).sq,l,q _ F H (.refl f) s⟩
  |_=>exact J6 hz
 |tup ds =>
  cases e with
  |int k =>
   obtain⟨p,n,rfl,g,r⟩:=id;obtain⟨x,l,s⟩:=Ct r (hz);exact .inr (.inl ⟨p,n,k,x,rfl,je.mp h,(g.same f).sq,l,q _ F H (.refl f) s⟩)
  |_=>exact J6 hz
 |scr ns =>
  cases e with
  |int k =>
   obtain⟨p,rfl,g⟩:=id;obtain⟨j,v,hz⟩:=Jk.mp (hz);subst hz;refine .inl ⟨p,_,k,.int j,rfl,je.mp h,jm.seq f g,?_,q _ F H (.refl f) (yw _ F)⟩;unfold jX at v ⊢;cases l:xJ ns.length k with
   |none=>simp_all
   |some i=>simp_all
  |_=>exact J6 hz
 |str t =>
  cases e with
  |int k =>
   have hz:(if t.length<=sizeLine then(jX t.cps.toList k).map λc=>D.str ⟨#[c]⟩ else none)=some z:=hz
   split at hz
   .rename_i w;cases u:jX t.cps.toList k with
    |none=>rw[u] at hz;exact J6 hz
    |some c =>
     rw[u] at hz;obtain rfl:=Zqi hz;exact .inr (.inr ⟨t,k,c,jr.mp id,je.mp h,w,u,q _ F H (.refl f) (jr.mpr rfl)⟩)
   simp_all
  |_=>exact J6 hz
 |_=>exact J6 hz
def JG (C:X.A.units+1<cLine)(t:QE X E a fa)(u:QE X E b fb)(hs:ZQ b)(j:zN b):QE X E (.Subscript a b pos) (jf jt fa fb):=
 PE.weak (PE.or (BF C t u j) (B9 (FL) t u hs)) λZ H Q h=>by
  obtain⟨B,F,sd,r,n⟩:=h;by_cases l:∃d ks ds,fa sd=.ok d/\(d=.dct ks ds\/d=.dcf ks ds)
  .obtain⟨d,ks,ds,l,A⟩:=l;refine .inl ⟨B,F,sd,r,(ja n).monoE (λx f G v I T g J=>?_) λ_ _ q=>q⟩;rw[l] at f;cases f;refine⟨B,I,sd,r.step g,(ja G).mono (λy K w L M s N=>?_) λ_ _ q=>q.ext g⟩;obtain⟨z,hz,q⟩:=jh K;obtain⟨k,O,hz⟩:=Jg.mp (show(QF y).bind (λq=>jH ks ds q)=some z by rcases A with rfl|rfl<;>exact hz);obtain⟨p,U,rfl,P,R,S⟩:=FK A J;obtain⟨x,f,ix⟩:=(Xi k R S).1 z hz;refine⟨p,x,rfl,?_,q x L M (g.trans s) (jg.same s.ff _ _ ix)⟩;rw[WF O N,<- f];exact Cv (Cu s.hh (Cu g.fh P))
  .refine .inr (XT ⟨B,F,sd,r,?_⟩);unfold jf at n ⊢;cases f:fa sd with
   |ok d =>
    simp_all
   |no=>simp_all
   |ex c fs=>simp_all
def wv (c:Bool):D->D->YI
 |k,.dct ks ds=>(QF k).map λq=>.bl (if c then !(jH ks ds q).isSome else(jH ks ds q).isSome)
 |k,.dcf ks ds=>(QF k).map λq=>.bl (if c then !(jH ks ds q).isSome else(jH ks ds q).isSome)
 |d,.lst ds=>if qK 12 d&&ds.all (qK 12) then some (.bl (if c then !ds.any (λe=>Q0 e d) else ds.any λe=>Q0 e d)) else none
 |d,.tup ds=>if qK 12 d&&ds.all (qK 12) then some (.bl (if c then !ds.any (λe=>Q0 e d) else ds.any λe=>Q0 e d)) else none
 |_,_=>none
theorem FM {K:W.Frag}{H:Hp}:∀n d e v,qK n d=true->qK n e=true->jg K H d v->jg K H e v->d=e
 | 0,_,_,_,h,_,_,_=>by exact JF h
 |n+1,d,e,v,hd,he,f,c=>by
  have all:∀ds es g,ds.all (qK n)=true->es.all (qK n)=true->jd K H ds g->jd K H es g->ds=es:=by
   intro ds
   induction ds with
   |nil =>
    intro es g _ _ f c;rw[jd.nil_iff] at f;subst f;have:=c.length
    grind
   |cons d ds A =>
    intro es g w y f c;rw[UD,Uc] at w;rw[jo] at f;obtain⟨x,r,rfl,B,C⟩:=f;cases es with
    |nil=>rw[jd.nil_iff] at c;cases c
    |cons e es =>
     rw[UD,Uc] at y;rw[jo] at c;obtain⟨J,L,t,F,G⟩:=c;cases t;rw[FM n d e x w.1 y.1 B F,A es r w.2 y.2 C G]
  have ne:∀{a:Addr} {g ys:YF},xW K H a g->xx K H a ys->False:=λ{a g ys} p l=>by
   rcases l with l|⟨o,l⟩
   .rw[p] at l;cases l
   .rw[p] at l;cases l
  cases d with
  |int i =>
   rw[je] at f;subst f;cases e with
   |int j=>rw[je] at c;cases c;rfl
   |str j=>rw[jr] at c;cases c
   |non=>rw[jD] at c;cases c
   |tup es=>grind[j1]
   |lst es=>grind[jn]
   |_=>exact JF he
  |str i =>
   rw[jr] at f;subst f;cases e with
   |int j=>rw[je] at c;cases c
   |str j=>rw[jr] at c;cases c;rfl
   |non=>rw[jD] at c;cases c
   |tup es=>simp_all [j1]
   |lst es=>simp_all [jn]
   |_=>exact JF he
  |non =>
   rw[jD] at f;subst f;cases e with
   |int j=>rw[je] at c;cases c
   |str j=>rw[jr] at c;cases c
   |non=>rfl
   |tup es=>grind[j1]
   |lst es=>grind[jn]
   |_=>exact JF he
  |tup ds =>
   rw[j1] at f;obtain⟨a,g,rfl,p,l⟩:=f;cases e with
   |int j=>rw[je] at c;cases c
   |str j=>simp_all [jr]
   |non=>simp_all [jD]
   |tup es =>
    rw[j1] at c;obtain⟨I,q,t,s,z⟩:=c;cases t;have u:H a=some (.tup g):=p;rw[show H a=some (.tup q) from s] at u;cases u;rw[all ds es _ hd he l z]
   |lst es =>
    grind[jn]
   |_=>exact JF he
  |lst ds =>
   rw[jn] at f;obtain⟨a,g,rfl,p,l⟩:=f;cases e with
   |int j=>rw[je] at c;cases c
   |str j=>cases c
   |non=>cases c
   |tup es =>
    grind[j1]
   |lst es =>
    rw[jn] at c;obtain⟨I,q,t,s,z⟩:=c;cases t;have:g=q:=by
     rcases p with p|⟨_,p⟩<;>rcases s with s|⟨_,s⟩<;>rw[p] at s<;>cases s<;>rfl
    subst this;rw[all ds es _ hd he l z]
   |_=>exact JF he
  |_=>exact JF hd
def fw (K:W.Frag)(H:Hp)(d:D)(u:Value):Prop:=∃v,jv v u/\jg K H d v
def xr (K:W.Frag)(H:Hp)(d:D)(u:Value):Bool:=@decide (fw K H d u) (Classical.propDecidable _)
def OK {K:W.Frag}{H:Hp}{d e:D}{v:V}{u:Value}(f:qK 12 d=true)(g:qK 12 e=true)(h:jg K H e v)(r:jv v u):xr K H d u=Q0 e d:=by
 by_cases q:e=d
 .rw[q,Cr];exact @decide_eq_true _ (Classical.propDecidable _) ⟨v,r,q ▸ h⟩
 .rw[bD.mpr q];refine @decide_eq_false _ (Classical.propDecidable _) λ⟨l,j,c⟩=>q ?_;rw[j.inj r] at c;exact FM 12 e d v g f h c
def FN {P:Program}{w:World}{K:W.Frag}{A:Around}{s:Shared}{H:Hp}(B:A.units+60<cLine)(ok:qH P w H s.heap){d:D}{x:V}{v:Value}(hp:qK 12 d=true)(p:jg K H d x)(q:jv x v):
 ∀{ds:YH} {g:YF} {f:Yf},ds.all (qK 12)=true->jd K H ds g->ju g f->f.map (xr K H d)=ds.map (λe=>Q0 e d)/\∀u∈f,SeqAt.EqAt A s u v (xr K H d u):=by
 intro ds
 induction ds with
 |nil =>
  intro g f _ h j;subst h;cases j;simp
 |cons e ds r =>
  intro g f c h j;rw[UD,Uc] at c;obtain⟨y,rs,rfl,l,t⟩:=h;cases j with
  |cons n z =>
   obtain⟨C,F⟩:=r c.2 t z;obtain⟨G,I⟩:=WE ok 12 e y _ c.1 l n;obtain⟨J,L⟩:=WE ok 12 d x v hp p q;obtain⟨M,N⟩:=Xh 12 e c.1;obtain⟨O,Q⟩:=Xh 12 d hp;have es:=OK hp c.1 l n;refine⟨(),λu hm=>?_⟩;rcases U0.mp hm with hm|hm
   .subst hm;rw[es,<- (Vf.mpr ((Cq 12 e d c.1 hp).trans bE.symm):PyData.eqv (xN e) (xN d)=Q0 e d)]
    grind[SeqAt.eqAt_reads]
   simp_all
def Ay {α: Type}{f:α -> Bool}{l:List α}:l.any f=(l.map f).any id:=()
def OL (C:X.A.units+64<cLine)(c:Bool):xi X (compareOp (if c then .NotIn else .In)) (wQ X.K λd e=>match e with
 | .dct _ _=>none
 | .dcf _ _=>none
 |e=>wv c d e):=by
 intro Y s Z H x y v u Q I r t ⟨F,d,e,z,f,id,h,hz,q⟩;have id':=jg.same f _ _ id;cases e with
 |lst ds =>
  have hz:(if qK 12 d&&ds.all (qK 12) then some (D.bl (if c then !ds.any (λe=>Q0 e d) else ds.any λe=>Q0 e d)) else none)=some z:=hz
  split at hz
  .rename_i hp;rw[Uc] at hp;obtain rfl:=Zqi hz;rw[jn] at h;obtain⟨p,w,rfl,j,l⟩:=h;obtain rfl:u=Value.ref p:=t;obtain⟨its,n,pl,B⟩:=I.list (j.same f).sq;obtain⟨k1,k2⟩:=FN (A:=X.A.in1) (by show X.A.units+1+60<cLine;lia) I.hok hp.1 id' r hp.2 (jd.same f _ _ l) n;have g:its.toArray.any (xr X.K H d)=ds.any (λe=>Q0 e d):=by
    rw[show its.toArray.any (xr X.K H d)=its.any (xr X.K H d) by simp,Ay,k1,<- Ay]
   cases c with
   |true =>
    refine SeqAt.notIn_listAt (xr X.K H d) pl.isList () ⟨.bl _,H,I,rfl,?_⟩;rw[g];exact q _ F H (.refl f) (wS _ F)
   |false =>
    refine SeqAt.in_listAt (xr X.K H d) pl.isList () ⟨.bl _,H,I,rfl,?_⟩;rw[g];exact q _ F H (.refl f) (wS _ F)
  simp_all
 |tup ds =>
  have hz:(if qK 12 d&&ds.all (qK 12) then some (D.bl (if c then !ds.any (λe=>Q0 e d) else ds.any λe=>Q0 e d)) else none)=some z:=hz
  split at hz
  .rename_i hp;rw[Uc] at hp;obtain rfl:=Zqi hz;obtain⟨p,w,rfl,j,l⟩:=h;obtain rfl:=t;obtain⟨its,n,pl,B⟩:=I.tuple (j.same f).sq;obtain⟨k1,k2⟩:=FN (A:=X.A.in1) (by show X.A.units+1+60<cLine;lia) I.hok hp.1 id' r hp.2 (jd.same f _ _ l) n;have g:its.toArray.any (xr X.K H d)=ds.any (λe=>Q0 e d):=by
    rw[show its.toArray.any (xr X.K H d)=its.any (xr X.K H d) by simp,Ay,k1,<- Ay]
   cases c with
   |true =>
    refine SeqAt.notIn_tupleAt (xr X.K H d) pl () ⟨.bl _,H,I,rfl,?_⟩;rw[g];exact q _ F H (.refl f) (wS _ F)
   |false =>
    refine SeqAt.in_tupleAt (xr X.K H d) pl () ⟨.bl _,H,I,rfl,?_⟩;rw[g];exact q _ F H (.refl f) (wS _ F)
  simp_all
 |_=>exact J6 hz
def vQ {K:W.Frag}{f:Bool}{Z: St}{H:Hp}{Q:VK}(h:tD K E (jf (wv f) fa fb) Z H Q):
 (λZ H Q=>tD K E fa Z H λy u=>tD K E fb Z u λx j=>∃a o,x=.ref a/\xy j a y o/\Q (.bl (if f then !o.isSome else o.isSome)) j) Z H Q\/wP (wQ K λd e=>match e with
 | .dct _ _=>none
 | .dcf _ _=>none
 |e=>wv f d e) (tD K E fa) (tD K E fb) Z H Q:=by
 obtain⟨B,F,sd,r,n⟩:=h;by_cases l:∃d ks ds,fb sd=.ok d/\(d=.dct ks ds\/d=.dcf ks ds)
 .obtain⟨d,ks,ds,l,A⟩:=l;refine .inl ⟨B,F,sd,r,(ja n).mono (λx J v L u s M=>⟨B,L,sd,r.step s,(ja J).monoE (λy g N w O j C P=>?_) λ_ _ q=>q.ext s⟩) λ_ _ q=>q⟩;rw[l] at g;cases g;obtain⟨z,hz,q⟩:=jh N;obtain⟨k,R,hz⟩:=Jk.mp (show(QF x).map (λq=>D.bl (if f then !(jH ks ds q).isSome else(jH ks ds q).isSome))=some z by rcases A with rfl|rfl<;>exact hz);subst hz;obtain⟨p,G,rfl,S,T,U⟩:=FK A P;obtain⟨Y,g2⟩:=Xi k T U;refine⟨p,qq (ks.zip G) k,rfl,?_,?_⟩
  .rw[WF R M];exact Cv (Cu C.fh S)
  .have es:(qq (ks.zip G) k).isSome=(jH ks ds k).isSome:=by
    cases I:jH ks ds k with
    |none=>rw[g2 I];rfl
    |some d=>obtain⟨x,t,_⟩:=Y d I;rw[t];rfl
   rw[es];exact q _ O j (s.trans C) (jp.mpr rfl)
 .refine .inr (XT ⟨B,F,sd,r,?_⟩);unfold jf at n ⊢;cases t:fa sd with
  |ok d =>
   rw[t] at n;cases g:fb sd with
   |ok e =>
    simp_all
   |no=>rwa [g] at n
   |ex c fs=>rwa [g] at n
  |no=>simp_all
  |ex c fs=>simp_all
def FP (j:X.A.units+64<cLine)(c:QE X E a fa)(f:QE X E b fb)(g:behindInMarks .NotIn b=false:=by rfl):QT X E (.Compare a [.NotIn] [b] pos) (JD (jf (wv true) fa fb)):=
 PT.weak (PT.or (Bv (Ni () c f) g) (DY (OL j true) c f g)) λZ H Q h=>vQ (WA h)
end
section
variable {X:Cx}{E:XK}{m:Option Bool}{a b o i e f tg:Expr}{fa fb fo fi fv:FE}{fr:FA}{pos pos' apos cpos p:Pos}
theorem QB {K:W.Frag}{H:Hp}{d:D}{c:YF}(h:jd K H [d] c):∃v,c=[v]/\jg K H d v:=by
 simp_all [jo,jd.nil_iff]
def FQ {K:W.Frag}{H:Hp}{d e:D}{c:YF}(h:jd K H [d,e] c):∃v w,c=[v,w]/\jg K H d v/\jg K H e w:=by
 grind[jo,QB]
def jO:YH->YI
 | [.lst ds]=>some (.int ds.length)
 | [.tup ds]=>some (.int ds.length)
 | [.dct ks _]=>some (.int ks.length)
 | [.scr ns]=>some (.int ns.length)
 | [.str x]=>if x.length<=sizeLine then some (.int x.length) else none
 |_=>none
def nP (ds:YH)(z:D):Prop:=(∃es,ds=[.lst es]/\z=.int es.length)\/(∃es,ds=[.tup es]/\z=.int es.length)\/(∃ks es,ds=[.dct ks es]/\z=.int ks.length)\/(∃ns,ds=[.scr ns]/\z=.int ns.length)\/∃x,x.length<=sizeLine/\ds=[.str x]/\z=.int x.length
def OM (hz:jO ds=some z):nP ds z:=by
 cases ds with
 |nil=>exact J6 hz
 |cons d ds =>
  cases ds with
  |nil =>
   cases d with
   |lst ds=>exact .inl ⟨_,rfl,(Zqi hz).symm⟩
   |tup ds=>exact .inr (.inl ⟨_,rfl,(Zqi hz).symm⟩)
   |dct ks ds=>exact .inr (.inr (.inl ⟨_,_,rfl,(Zqi hz).symm⟩))
   |scr ns=>exact .inr (.inr (.inr (.inl ⟨_,rfl,(Zqi hz).symm⟩)))
   |str x=>exact let q:=Ce hz;.inr (.inr (.inr (.inr ⟨_,q.1,rfl,q.2.symm⟩)))
   |_=>exact J6 hz
  |cons e ds=>cases d<;>exact J6 hz
def QQ:jU X (.builtin "len") (zX X.K jO):=jU.weak (jU.or MU (jU.or Nx MV)) λr H Q l=>by
 obtain⟨F,ds,z,c,id,hz,q⟩:=l;rcases OM hz with ⟨es,rfl,rfl⟩|⟨es,rfl,rfl⟩|⟨ks,es,rfl,rfl⟩|⟨ns,rfl,rfl⟩|⟨x,n,rfl,rfl⟩
 .obtain⟨v,rfl,h⟩:=QB id;obtain⟨a,ys,rfl,g,j⟩:=h;rw[<- j.length] at q;exact .inl ⟨a,ys,rfl,.inl (g.same c).sq,q _ F H (.refl c) (yw _ F)⟩
 .obtain⟨v,rfl,h⟩:=QB id;obtain⟨a,ys,rfl,g,j⟩:=h;rw[<- j.length] at q;exact .inl ⟨a,ys,rfl,.inr (g.same c).sq,q _ F H (.refl c) (yw _ F)⟩
 .obtain⟨v,rfl,h⟩:=QB id;obtain⟨a,ys,rfl,g,j,s⟩:=h;refine .inr (.inl ⟨a,_,rfl,c _ _ g,?_⟩);rw[List.length_zip,<- j,Nat.min_self];exact q _ F H (.refl c) (yw _ F)
 .obtain⟨v,rfl,h⟩:=QB id;obtain⟨a,rfl,g⟩:=h;refine .inl ⟨a,_,rfl,.inl (jm.seq c g),?_⟩;rw[Zql];exact q _ F H (.refl c) (yw _ F)
 .obtain⟨v,rfl,h⟩:=QB id;subst h;exact .inr (.inr ⟨_,rfl,n,q _ F H (.refl c) (yw _ F)⟩)
def Az:YH->YI
 | [.int i,.int j]=>some (.int (if j > i then j else i))
 |_=>none
def fA (ds:YH):Prop:=∃i j,ds=[.int i,.int j]
def ON (hz:Az ds=some z):fA ds:=by
 cases ds with
 |nil=>exact J6 hz
 |cons d ds =>
  cases ds with
  |nil=>cases d<;>exact J6 hz
  |cons e ds =>
   cases d with
   |int i =>
    cases e with
    |int j =>
     cases ds with
     |nil=>exact⟨_,_,rfl⟩
     |cons _ _=>exact J6 hz
    |_=>exact J6 hz
   |_=>exact J6 hz
def OO (c:X.calm=true):jU X (.builtin "max") (zX X.K Az):=jU.weak (Mq c) λr H Q g=>by
 obtain⟨F,ds,z,h,id,hz,q⟩:=g;obtain⟨i,j,rfl⟩:=ON hz;obtain rfl:=Zqi hz;obtain⟨v,w,rfl,l,n⟩:=FQ id;exact⟨_,_,by rw[je.mp l,je.mp n],q _ F H (.refl h) (yw _ F)⟩
def A0:D->Option Yh
 | .lst ds=>Q9 XZ ds
 |_=>none
def FR {K:W.Frag}{H:Hp}{d:D}{ns:Yh}{v:V}(h:A0 d=some ns)(i:jg K H d v):∃a,v=.ref a/\xx K H a (ns.map V.int):=by
 cases d with
 |lst ds =>
  obtain⟨a,j,rfl,g,c⟩:=i;rw[OB (h)] at c;rw[qp c] at g
  simp_all
 |_=>exact J6 h
def FU (ns):A0 (.lst (ns.map D.int))=some ns:=OC ns
def WG:YH->YI
 | [d]=>(A0 d).bind λns=>if ns=[] then none else some (.int (q0 ns))
 |_=>none
def WH:YH->YI
 | [d]=>(A0 d).bind λns=>if ns=[] then none else some (.int (qX ns))
 |_=>none
def Cw (g:X.calm=true):jU X (.builtin "max") (zX X.K WG):=jU.weak (N8 g) λs H Q j=>by
 obtain⟨F,ds,z,c,id,hz,q⟩:=j;unfold WG at hz
 split at hz
 .obtain⟨ns,l,hz⟩:=Jg.mp hz
  split at hz
  .exact J6 hz
  .rename_i n;obtain rfl:=Zqi hz;obtain⟨v,rfl,h⟩:=QB id;obtain⟨a,rfl,r⟩:=FR l h;exact⟨a,ns,rfl,(r.same c).sq,n,q _ F H (.refl c) (yw _ F)⟩
 simp_all
def Cy (g:X.calm=true):jU X (.builtin "min") (zX X.K WH):=jU.weak (N9 g) λs H Q j=>by
 obtain⟨F,ds,z,c,id,hz,q⟩:=j;unfold WH at hz
 split at hz
 .obtain⟨ns,l,hz⟩:=Jg.mp hz
  split at hz
  .exact J6 hz
  .rename_i n;obtain rfl:=Zqi hz;obtain⟨v,rfl,h⟩:=QB id;obtain⟨a,rfl,r⟩:=FR l h;exact⟨a,ns,rfl,(r.same c).sq,n,q _ F H (.refl c) (yw _ F)⟩
 simp_all
def bJ:D->Option String
 | .non=>some "NoneType"
 | .bl _=>some "bool"
 | .int _=>some "int"
 | .str _=>some "str"
 | .lst _=>some "list"
 | .tup _=>some "tuple"
 | .dct _ _=>some "dict"
 |_=>none
def va (t n:String):Bool:=(t == n)||(t == "bool" && n == "int")
def A1 (t n:String):Bool:=["NoneType", "bool", "int", "str", "list", "tuple", "dict"].contains t&&["bool", "int", "str", "list", "tuple", "dict"].contains n
def OP (K)(t n)(h:A1 t n=true):W.kitOne K (.type t) (.type n)=some (va t n):=by
 unfold A1 at h;rw[Uc,List.contains_iff_mem,List.contains_iff_mem] at h;obtain⟨c,g⟩:=h;simp only[U0,Vn,or_false] at c g;rcases c with rfl|rfl|rfl|rfl|rfl|rfl|rfl<;>rcases g with rfl|rfl|rfl|rfl|rfl|rfl<;>first|rfl|kernel_rfl
def jQ:YH->YI
 | [d,.ty n]=>(bJ d).bind λt=>if A1 t n then some (.bl (va t n)) else none
 |_=>none
def OQ {K:W.Frag}{H:Hp}{d:D}{v:V}{t:String}(h:bJ d=some t)(i:jg K H d v):TyOf K H v (.type t):=by
 cases d with
 |non=>cases h;rw[jD.mp i];exact .non
 |bl b=>cases h;rw[jp.mp i];exact .bl b
 |int j=>cases h;rw[je.mp i];exact .int j
 |str x=>cases h;rw[jr.mp i];exact .str x
 |lst ds =>
  obtain rfl:=Zqi h;obtain⟨a,l,rfl,g,_⟩:=i;rcases g with g|⟨o,g⟩
  .exact .lst g
  .exact .frz g
 |tup ds =>
  obtain rfl:=Zqi h;obtain⟨a,l,rfl,g,_⟩:=i;exact .tup g
 |dct ks ds =>
  obtain rfl:=Zqi h;obtain⟨a,l,rfl,g,_⟩:=i;exact .dK g
 |ty n=>exact J6 h
 |scr n=>exact J6 h
 |ins C fs ds=>exact J6 h
 |exc c=>exact J6 h
 |ucl c=>exact J6 h
 |adr c=>exact J6 h
 |dcf c ds=>exact J6 h
 |pin c ds=>exact J6 h
def nQ (ds:YH)(z:D):Prop:=∃d n t,ds=[d,.ty n]/\bJ d=some t/\A1 t n=true/\z=.bl (va t n)
def OR (hz:jQ ds=some z):nQ ds z:=by
 cases ds with
 |nil=>exact J6 hz
 |cons d ds =>
  cases ds with
  |nil=>exact J6 hz
  |cons e ds =>
   cases ds with
   |nil =>
    cases e with
    |ty n =>
     obtain⟨t,c,hz⟩:=Jg.mp (hz);exact⟨d,n,t,rfl,c,(Ce hz).1,(Ce hz).2.symm⟩
    |_=>exact J6 hz
   |cons _ _=>cases e<;>exact J6 hz
def KQ:jU X (.builtin "isinstance") (zX X.K jQ):=jU.weak NA λs H Q g=>by
 obtain⟨F,ds,z,c,id,hz,q⟩:=g;obtain⟨d,n,t,rfl,h,j,rfl⟩:=OR hz;obtain⟨v,w,rfl,l,r⟩:=FQ id;exact⟨v,_,_,_,by rw[qZ.mp r],OQ h (jg.same c _ _ l),OP _ _ _ j,q _ F H (.refl c) (wS _ F)⟩
def KR (c:Gl X x)(g:X.mg x=none)(h:bootBuiltins x=some u)(r:jv (.ty n) u)(j:x ≠ "__name__" := by decide)(l:(x == ("__debug__" : Str))=false:=by decide):QE X E (.Name x pos) (dC (.ty n)):=
 XS (LF c g h r j l) λ_=>qZ.mpr rfl
def Qr:YH->YI
 | [.lst ds]=>some (.lst ds)
 | [.tup ds]=>some (.lst ds)
 | [.scr ns]=>some (.lst (ns.map .int))
 |_=>none
def f9 (ds:YH)(z:D):Prop:=(∃es,ds=[.lst es]/\z=.lst es)\/(∃es,ds=[.tup es]/\z=.lst es)\/∃ns,ds=[.scr ns]/\z=.lst (ns.map .int)
def OS (hz:Qr ds=some z):f9 ds z:=by
 cases ds with
 |nil=>exact J6 hz
 |cons d ds =>
  cases ds with
  |nil =>
   cases d with
   |lst ds=>exact .inl ⟨_,rfl,(Zqi hz).symm⟩
   |tup ds=>exact .inr (.inl ⟨_,rfl,(Zqi hz).symm⟩)
   |scr ns=>exact .inr (.inr ⟨_,rfl,(Zqi hz).symm⟩)
   |_=>exact J6 hz
  |cons e ds=>cases d<;>exact J6 hz
def KC:jU X (.type "list") (zC X.K Qr):=jU.weak MW λt H Q s=>by
 obtain⟨F,ds,z,g,id,hz,q⟩:=s;have c:∀{es:YH} {ys:YF},jd X.K F es ys->xK X.K F H Q (.lst es)->∀l,H l=none->Q (.ref l) (jB H l (.lst ys)):=λ{es ys} h q l n =>
  q l F _ (.keep g n _) n (Qj g n) ⟨ys,JM,h⟩
 rcases OS hz with ⟨es,rfl,rfl⟩|⟨es,rfl,rfl⟩|⟨ns,rfl,rfl⟩
 .obtain⟨v,rfl,h⟩:=QB id;obtain⟨a,ys,rfl,j,r⟩:=h;exact⟨a,ys,rfl,.inl (j.same g).sq,c r q⟩
 .obtain⟨v,rfl,h⟩:=QB id;obtain⟨a,ys,rfl,j,r⟩:=h;exact⟨a,ys,rfl,.inr (j.same g).sq,c r q⟩
 .obtain⟨v,rfl,h⟩:=QB id;obtain⟨a,rfl,j⟩:=h;exact⟨a,_,rfl,.inl (jm.seq g j),c (qx _) q⟩
def WI:YH->YI
 | [.lst ds]=>some (.tup ds)
 | [.tup ds]=>some (.tup ds)
 |_=>none
def nJ (ds:YH)(z:D):Prop:=(∃es,ds=[.lst es]/\z=.tup es)\/∃es,ds=[.tup es]/\z=.tup es
def OT (hz:WI ds=some z):nJ ds z:=by
 cases ds with
 |nil=>exact J6 hz
 |cons d ds =>
  cases ds with
  |nil =>
   cases d with
   |lst ds=>exact .inl ⟨_,rfl,(Zqi hz).symm⟩
   |tup ds=>exact .inr ⟨_,rfl,(Zqi hz).symm⟩
   |_=>exact J6 hz
  |cons e ds=>cases d<;>exact J6 hz
def Cz:jU X (.type "tuple") (zX X.K WI):=jU.weak MX λu H Q r=>by
 obtain⟨F,ds,z,c,id,hz,q⟩:=r;rcases OT hz with ⟨es,rfl,rfl⟩|⟨es,rfl,rfl⟩
 .obtain⟨v,rfl,h⟩:=QB id;obtain⟨a,ys,rfl,g,j⟩:=h;refine⟨a,ys,rfl,.inl ⟨(g.same c).sq,λl s=>?_⟩⟩;have n:=qQ c s (.tup ys);exact q _ _ _ n (j1.mpr ⟨l,ys,rfl,.of JM,jd.same n.ff _ _ j⟩)
 .obtain⟨v,rfl,h⟩:=QB id;have t:=h;obtain⟨a,ys,rfl,g,j⟩:=h;exact⟨a,ys,rfl,.inr ⟨(g.same c).sq,q _ F H (.refl c) t⟩⟩
def yp (r:Jy):D:=.dct (r.map λp=>.inl p.1) (r.map λp=>.int p.2)
def Xj (r:Jy):Jy:=r.foldl (λa p=>qD a p.1 p.2) []
def OU (r):ZX r=xq (Xj r):=Fq r []
def OV (h:j8 r):Xj r=r:=by
 grind[Xj,Fs]
def FV (r):xq r=(r.map λp=>(Ue p.1:j7)).zip (r.map λp=>V.int p.2):=by
 grind[xq,List.map_cons]
def OW (K)(F)(r:Jy):jd K F (r.map λp=>D.int p.2) (r.map λp=>V.int p.2):=by
 have:=qx (K:=K) (H:=F) (r.map (·.2))
 rwa [Zw,Zw] at this
def Xk:YH->YI
 | [d]=>(K0 d).bind λr=>if r.length<=100 then some (yp (Xj r)) else none
 |_=>none
def FW (g:X.calm=true):jU X (.type "dict") (zC X.K Xk):=jU.weak (NF g) λj H Q l=>by
 obtain⟨F,ds,z,c,id,hz,q⟩:=l;unfold Xk at hz
 split at hz
 .obtain⟨r,n,hz⟩:=Jg.mp hz
  split at hz
  .rename_i s;obtain rfl:=Zqi hz;obtain⟨v,rfl,h⟩:=QB id;rw[F8 n,b9] at h;obtain⟨a,ys,e,_⟩:=(show ∃a j,v=.ref a/\_ by unfold rD at h;rwa [yj] at h);subst e;refine⟨a,r,rfl,(Is.same c _ _ h),s,λp hp=>(q p F _ (.keep c hp _) hp (Qj c hp) ⟨(Xj r).map λp=>V.int p.2,?_,(),OW _ _ _⟩)⟩;rw[JM,OU,FV]
  .exact J6 hz
 simp_all
def gR:FE:=λ_=>.ok (.dct [] [])
def OX:QN X E (.Dict [] [] pos) gR:=PE.weak Nl λZ H Q ⟨B,F,sd,r,n⟩=>λp hp=>n p F _ (.keep r.ext.fh hp _) hp (Qj r.ext.fh hp) ⟨[],JM,rfl,.nil⟩
def A3 (fo c g:FE):FE:=λsd=>(fo sd).bind λd=>match d with
 | .dct ks ds=>(c sd).bind λk=>(g sd).bind λx=>.ofO ((QF k).map λq=>(jH ks ds q).getD x)
 |_=>.no
def OY (C:X.A.units+1<cLine)(G:QE X E o fo)(I:QE X E e fa)(J:QE X E f fb)(K:M2 X o "get" apos e f cpos):QE X E (.Call (.Attribute o "get" apos) [e,f] [] cpos) (A3 fo fa fb):=PE.weak (Nq C G I J K) λZ H Q L=>by
 obtain⟨B,F,sd,r,n⟩:=L;refine⟨B,F,sd,r,(ja n).mono (λd s v M H1 c N=>?_) λ_ _ q=>q⟩;cases d with
 |dct ks ds =>
  obtain⟨p,O,rfl,P,R,S⟩:=N;have hp:=c.fh _ _ P;refine⟨p,rfl,.inl ⟨_,.inl hp⟩,B,M,sd,r.step c,(ja s).mono (λk T w U H2 g Y=>⟨B,U,sd,(r.step c).step g,(ja T).mono (λx n3 u t A h i3=>?_) λ_ _ q=>q.ext (c.trans g)⟩) λ_ _ q=>q.ext c⟩;obtain⟨z,hz,q⟩:=jh n3;obtain⟨l,hk,hz⟩:=Jk.mp hz;subst hz;obtain⟨g1,g2⟩:=Xi l R S;refine⟨qq (ks.zip O) l,?_,?_⟩
  .rw[WF hk Y];exact xy.k (h.hh _ _ (g.hh _ _ hp))
  .cases j:jH ks ds l with
   |none =>
    rw[j] at q;rw[g2 j];exact q _ t A ((c.trans g).trans h) i3
   |some d =>
    rw[j] at q;obtain⟨y,hy,iy⟩:=g1 d j;rw[hy];exact q _ t A ((c.trans g).trans h) (jg.same (g.ff.trans h.ff) _ _ iy)
 |_=>exact s.elim
def Y0 (i:Nat)(c fv:FE):FS:=λsd=>(fv sd).bind λv=>match sd[i]? with
 |some (some (.own false (.dct ks ds)))=>(c sd).bind λk=>match QF k with
  |some q=>if ks.length<sizeLine then .ok (.next (sd.set i (some (.own false (.dct (V4 ks q) (Wo ks ds q v)))))) else .no
  |none=>.no
 |_=>.no
def OZ (x:X.A.units+1<cLine)(y:PE X o (xC j))(z:QE X E i fi)(A:QE X E e fv)(hs:swapsWith e (some (.Subscript o i pos')) pos.line X.env=pure false:=by rfl):
 QS X E m (.Assign [.Subscript o i pos'] e pos) (Y0 j fi fv):=PS.weak (Es x y z A hs) λT Z H C=>by
 obtain⟨B,F,sd,r,n⟩:=C;refine⟨B,F,sd,r,(ja n).mono (λd s v G S c I=>?_) λ_ _ q=>q.ext r.ext⟩
 split at s
 .rename_i ks ds t;obtain⟨l,u,U,Y,⟨xs,J,K,L⟩,_⟩:=(r.step c).own t;refine⟨.ref l,u,B,G,sd,r.step c,(ja s).mono (λk g w M H2 h N=>?_) λ_ _ q=>q.ext (r.step c).ext⟩
  split at g
  .rename_i q O
   split at g
   .obtain⟨ys,P,Q,R⟩:=FJ K (jd.same h.ff _ _ L) (jg.same h.ff _ _ I);exact⟨l,_,rfl,(by rw[WF O N];exact zp.k (h.hh _ _ J) ()),g Z M _ (c.ff.trans h.ff) (((r.step c).step h).chg t u ⟨ys,by rw[JM,P],Q,R⟩)⟩
   .exact g.elim
  .exact g.elim
 .exact s.elim
def vD:D->Option YH
 | .lst ds=>some ds
 | .scr ns=>some (ns.map .int)
 |_=>none
def v9:D->Option YH
 | .tup ds=>some ds
 |_=>none
def iL (f:FE):FA:=λsd=>(f sd).bind λd=>.ofO (vD d)
def iT (f:FE):FA:=λsd=>(f sd).bind λd=>.ofO (v9 d)
def C0 {K:W.Frag}{l:Hp}{J:It}{ds:YH}{c:YF}{S:Hp->Prop}(h:jd K l ds c)(w:∀F H,jm l F->jm F H->S H)(g:∀i H x,S H->c[i]? = some x->J.go i H)(st:∀i H,S H->c.length<=i->J.stop i H)
 (z:∀i H x r,S H->J.yld i H x r->r=H/\c[i]? = some x):wy K l J ds:=λi s j t u=>by
 have n:=w s j t u;refine⟨λv=>?_,λv=>st i j n (by rwa [h.length])⟩;obtain⟨x,A,_⟩:=h.get (Zqg v);refine⟨g i j x n A,λy B C=>?_⟩;obtain⟨rfl,q⟩:=z i j y B n C;obtain⟨d,G,id⟩:=h.getV q;exact⟨d,s,G,.refl u,jg.same t _ _ id⟩
def Pa (h:QE X E e fa):QI X E tg e (iL fa):=PI.weak (Mb h) λZ H R G=>by
 obtain⟨B,F,sd,r,n⟩:=G;refine⟨B,F,sd,r,(ja n).mono (λd I v z A l C=>?_) λ_ _ q=>q⟩;obtain⟨ds,hz,q⟩:=jh I;cases d with
 |lst es =>
  obtain rfl:=Zqi hz;obtain⟨a,s,rfl,g,J⟩:=C;refine⟨a,rfl,⟨s,(g.same l.fh).sq⟩,q _ z A l (C0 J (λF H t u=>((g.same t).same u).sq) (λi H x c w=>⟨s,x,c,w⟩) (λi H c y=>⟨s,c,y⟩) λi H x K c j=>⟨j.1,j.2 s c⟩)⟩
 |scr ns =>
  obtain rfl:=Zqi hz;obtain⟨a,rfl,g⟩:=C;refine⟨a,rfl,⟨_,jm.seq l.fh g⟩,q _ z A l (C0 (qx ns) (λF H t u=>jm.seq u (jm.seq t g)) (λi H x c w=>⟨_,x,c,w⟩) (λi H c y=>⟨_,c,y⟩) λi H x K c j=>⟨j.1,j.2 _ c⟩)⟩
 |_=>exact J6 hz
def Pb (h:QE X E e fa):QI X E tg e (iT fa):=PI.weak (Mc h) λZ H R t=>by
 obtain⟨B,F,sd,r,n⟩:=t;refine⟨B,F,sd,r,(ja n).mono (λd u v w y j z=>?_) λ_ _ q=>q⟩;obtain⟨ds,hz,q⟩:=jh u;cases d with
 |tup es =>
  obtain rfl:=Zqi hz;obtain⟨a,g,rfl,l,A⟩:=z;refine⟨a,rfl,⟨g,(l.same j.fh).sq⟩,q _ w y j (C0 A (λF H C G=>((l.same C).same G).sq) (λi H x c I=>⟨g,x,c,I⟩) (λi H c J=>⟨g,c,J⟩) λi H x K c s=>⟨s.1,s.2 g c⟩)⟩
 |_=>exact J6 hz
def nK {X:Cx}{tg e:Expr}{t t':TI}(h:PI X tg e t)(c:PI X tg e t'):PI X tg e (λZ H R=>t Z H R\/t' Z H R):=λY s Z H R I q=>q.elim (h Y s Z H R I) (c Y s Z H R I)
def K2:D->Option YH
 | .lst ds=>some ds
 | .scr ns=>some (ns.map .int)
 | .tup ds=>some ds
 |_=>none
def iS (f:FE):FA:=λsd=>(f sd).bind λd=>.ofO (K2 d)
def JX (h:QE X E e fa):QI X E tg e (iS fa):=PI.weak (nK (Pa h) (Pb h)) λZ H R l=>by
 obtain⟨B,F,sd,r,n⟩:=l;by_cases g:∃ds,fa sd=.ok (.tup ds)
 .obtain⟨ds,g⟩:=g;refine .inr ⟨B,F,sd,r,?_⟩;unfold iS at n;unfold iT
  rwa [g] at n ⊢
 .refine .inl ⟨B,F,sd,r,?_⟩;unfold iS at n;unfold iL;cases j:fa sd with
  |ok d =>
   rw[j] at n;cases d with
   |tup ds=>simp_all
   |_=>exact n
  |no=>rwa [j] at n
  |ex c fs=>rwa [j] at n
def JQ (lo:Int)(n:Nat):YH:=(List.range n).map λk:Nat=>.int (lo+k)
def Xl (j:Int):Bool:=UP j.toNat 1000000000&&UP (-j).toNat 1000000000
def FY (h:Xl j=true): -(2 ^ 62)<=j/\j<2 ^ 62:=by
 unfold Xl at h;rw[Uc,UQ,UQ] at h;lia
def Pc (c: -1000000000<=j)(g:j<=1000000000):Xl j=true:=by
 unfold Xl;rw[Uc,UQ,UQ];lia
def yx (fr:FA):FA:=λsd=>(fr sd).bind λds=>match ds with
 | [.int j]=>if Xl j then .ok (JQ 0 j.toNat) else .no
 |_=>.no
def Pd {K:W.Frag}{g:Hp}(lo)(n):wy K g (b7 lo n) (JQ lo n):=λi h r s j=>by
 have l:(JQ lo n).length=n:=by unfold JQ;simp
 rw[l];refine⟨λc=>⟨c,λx t q=>?_⟩,λc=>c⟩;obtain⟨rfl,rfl⟩:=q;refine⟨.int (lo+i),h,?_,.refl j,je.mpr rfl⟩
 simp_all [JQ]
def KD {a:Expr}(l:Gl X "range")(s:X.mg "range" = none)(t:QA X E [a] fr)(hs:starEach [a] X.env=[(false,eval a X.env)]:=by rfl):QI X E tg (.Call (.Name "range" p) [a] [] pos) (yx fr):=PI.weak (Me l s t hs) λZ H R u=>by
 obtain⟨B,F,sd,r,n⟩:=u;refine⟨B,F,sd,r,(ja n).mono (λds c A w x y z=>?_) λ_ _ q=>q⟩
 split at c
 .split at c
  .rename_i j g;obtain⟨v,rfl,h⟩:=QB z;rw[je.mp h];exact⟨j,rfl,(FY g).1,(FY g).2,c _ w x y (Pd 0 _)⟩
  .exact c.elim
 .exact c.elim
end
section
variable {X:Cx}{E:XK}{m:Option Bool}{a b o i e f tg:Expr}{fa fb fo fi fv:FE}{fr:FA}{pos pos' apos cpos p:Pos}
def PG.weak (h:PG X e t)(w:∀v Z H Q,t' v Z H Q->t v Z H Q):PG X e t':=λY s Z H v u Q I r q=>h Y s Z H v u Q I r (w _ _ _ _ q)
def C1:Yj->wU
 | []=>kF
 |i::is=>DQ (KJ i) (C1 is)
theorem FZ:∀{is:Yj} {c:YF} {Z: St} {H:Hp} {Q:St->Hp->Prop},c.length=is.length->Q (Ap is c Z) H->C1 is c Z H Q
 | [],c,Z,H,Q,hl,q=>⟨(),q⟩
 |i::is,[],Z,H,Q,hl,q=>by cases hl
 |i::is,x::c,Z,H,Q,hl,q=>⟨x,c,rfl,FZ (UL hl) q⟩
def JT {i:Nat}{e:Expr}(h:PG X e (KJ i)):QG X e (.one i):=h
def Wp (is)(h:PG X e (kB X.K is.length (C1 is))):QG X e (.tup is):=PG.weak h λv Z H Q ⟨a,g,e,j,c,q⟩=>⟨a,g,e,j,c,FZ c q⟩
def KE (tg:Tg)(c:FT)(f:FE)(sd:SD):YH->Res YH
 | []=>.ok []
 |x::xs=>(JR tg x sd).bind λs=>(c s).bind λb=>if b then(f s).bind λy=>(KE tg c f sd xs).bind λys=>.ok (y::ys) else KE tg c f sd xs
def Wq (cap:List (Option Nat))(it:FA)(tg:Tg)(c:FT)(f:FE):FE:=λsd=>(it sd).bind λds=>if V3 (jW cap sd) tg=true/\ds.length<sizeLine then
 (KE tg c f (jW cap sd) ds).bind λys=>.ok (.lst ys) else .no
def Ga {K:W.Frag}{t:Tg}{fi:FA}{G:FT}{f:FE}{cap:List (Option Nat)}{Z: St}{H:Hp}{Q:VK}(I:vd K E (Wq cap fi t G f) Z H Q):XF cap (fL K E fi) (gT t K) (fK K E G) (tD K E f) Z H Q:=by
 obtain⟨B,F,sd,r,n⟩:=I;refine⟨B,F,sd,r,(ja n).mono (λds L J P U w wk=>?_) λ_ _ q=>q⟩
 split at L
 .rename_i I;obtain⟨Y,hz⟩:=I;refine⟨λi k ys Z l=>k=ds.length-i/\i<=ds.length/\∃h es,Ext P U h l/\RS K B h l (jW cap sd) Z /\ jd K h es ys/\es.length<=i /\
   (KE t G f (jW cap sd) (ds.drop i)).need (λrs=>xK K h l Q (.lst (es++rs))) (XW K E h l),⟨ds.length,rfl,Ua _,P,[],.refl w.fh,(r.step w).cap cap,.nil,Zf _,?_⟩,?_⟩
  .exact(ja L).mono (λrs q=>(q).ext w) λ_ _ q=>q.ext w
  rintro i k ys Z2 l ⟨rfl,hi,h,es,z,M,A,R,s⟩;have ly:=A.length;refine⟨(),?_⟩;obtain⟨w1,w2⟩:=wk i h l z.ff z.fh;by_cases j:i<ds.length
  .obtain⟨go,yl⟩:=w1 j;refine .inr ⟨go,λx H3 y=>?_⟩;obtain⟨d,F3,hd,g,i3⟩:=yl x H3 y;rw[Ut j] at s;have N:ds[i]=d:=by grind[Zqg,Zqi]
   rw[N] at s;refine XY (M.step g) i3 (ja s) λsd' Z' n4 hb C=>?_;have ⟨b1,b2⟩:=Cm Y hb;refine⟨B,F3,sd',C,(ja n4).mono (λb S T H4 c=>?_) λ_ _ q=>q.ext g⟩;cases b with
   |true =>
    refine⟨B,T,sd',C.step c,(ja S).mono (λy n6 v F5 H5 u i5=>⟨ds.length-(i+1),(),rfl,j,F5,es++[y],((z.trans g).trans c).trans u,((C.step c).step u).forget b1 b2,(jd.same ((g.ff.trans c.ff).trans u.ff) _ _ A).snoc i5,by rw[Ub];exact Vy R,(ja n6).mono (λrs q=>?_) λ_ _ q=>q.ext ((g.trans c).trans u)⟩) λ_ _ q=>q.ext (g.trans c)⟩;rw[Uh];exact(q).ext ((g.trans c).trans u)
   |false =>
    exact⟨ds.length-(i+1),(),rfl,j,T,es,(z.trans g).trans c,(C.step c).forget b1 b2,jd.same (g.ff.trans c.ff) _ _ A,Vk R,(S).mono (λrs q=>q.ext (g.trans c)) λ_ _ q=>q.ext (g.trans c)⟩
  .have he:i=ds.length:=()
   subst he;refine .inl ⟨w2 (Zf _),λD O=>?_⟩;rw[Va] at s;have q:xK K h l Q (.lst (es++[])):=s;rw[ZA] at q;exact q D h _ (.keep M.ext.fh O _) O (Qj M.ext.fh O) ⟨ys,JM,A⟩
 .exact L.elim
def C4 {tg j l c:Expr}{g:Scope}{t:Tg}{fi:FA}{u:FT}{f:FE}(N)(cap)(v:X.calm=true)(r:QH g X.env N X.N cap=true)(w:QI X E tg j fi)
 (y:∀n C s H q,QG (JK X g N n C s H q) tg t) (z:∀n C s H q,QT (JK X g N n C s H q) E c u) (A:∀n C s H q,QE (JK X g N n C s H q) E l f) (hs:∀x,foldedSetIterable j X.env x=pure x:=by intro _;rfl):
 QN X E (.ListComp l [⟨tg,j,[c],0⟩] g pos) (Wq cap fi t u f):=PE.weak (Ol N cap v r w y z A hs) λ_ _ _ h=>Ga h
def Y1:List j7->YH->Option Jy
 | .inl k::ks,.int v::ds=>(Y1 ks ds).map λr=>(k,v)::r
 | [],[]=>some []
 |_,_=>none
def Pe (ks:List j7)(ds:YH)(r:Jy):Prop:=ks=r.map (λp=>.inl p.1)/\ds=r.map λp=>.int p.2
def Pf (h:Y1 ks ds=some r):Pe ks ds r:=by
 induction ks generalizing ds r with
 |nil =>
  cases ds with
  |nil=>obtain rfl:=Zqi h;exact⟨rfl,rfl⟩
  |cons _ _=>exact J6 h
 |cons k ks c =>
  cases k with
  |inr _=>exact J6 h
  |inl k =>
   cases ds with
   |nil=>exact J6 h
   |cons d ds =>
    cases d with
    |int v =>
     obtain⟨l,g,j⟩:=Jk.mp (h);subst j;exact⟨Zt (Ue k :: ·) (c g).1,Zt (D.int v :: ·) (c g).2⟩
    |_=>exact J6 h
def Pg (r):Y1 (r.map λp=>.inl p.1) (r.map λp=>.int p.2)=some r:=by
 induction r with
 |nil=>rfl
 |cons p r c=>exact Zt (Option.map λr=>(p.1,p.2)::r) c
def zU (s:jm F H)(fr:∀p∈L,H p.1=none):Ext F H (qz F L) (qz H L):=by
 have c:∀{G:Hp} {b:Addr},H b≠none->qz G L b=G b:=λ{G b} g=>Ag ();have ne:∀{b:Addr} {o:HO},H b=some o->H b≠none:=by grind
 refine⟨λb o e=>by rwa [c (ne (s _ _ e))],λb o e=>?_,λb o e=>by rwa [c (ne e)],()⟩;rcases Fo e with h|⟨h1,h2⟩
 .grind[qz]
 .rw[Ag h1];exact s _ _ h2
def C5:D->YI
 | .dct ks ds=>(Y1 ks ds).bind λr=>if r ≠ []/\r.length<1000 then some (.lst ((JV jV r).map qm)) else none
 |_=>none
def C6 (fo:FE):FE:=λsd=>(fo sd).bind λd=>.ofO (C5 d)
def Ph (h:∀{C:TE},PE X o C->PE X e (ve (λt H Q=>∃c d r,t=[.ref c]/\H c=some (Wl c d)/\H d=some (.dK (xq r))/\r ≠ []/\r.length<1000/\∀l L,(∀p∈L,H p.1=none)->(L.map (·.1)).Nodup->(∀G,Is (qz G L) (.list ((JV jV r).map pD)) (.ref l))->Q (.ref l) (qz H L))
 (B5 (vU X.K "dict" (λx M H Q=>∃d u,x=.ref d/\M=[]/\H d=some (.dK u)/\∀p,H p=none->Q (.ref p) (jB H p (Wl p d))) C) vb))) (N:QE X E o fo):QE X E e (C6 fo):=PE.weak (h N) λZ H Q O=>by
 obtain⟨B,F,sd,r,n⟩:=O;refine⟨B,F,sd,r,(ja n).mono (λd P v s I w R=>?_) λ_ _ q=>q⟩;obtain⟨z,hz,q⟩:=jh P;cases d with
 |dct ks ds =>
  obtain⟨y,S,A⟩:=Jg.mp (hz)
  split at A
  .rename_i J;obtain rfl:=Zqi A;obtain⟨k1,k2⟩:=Pf S;obtain⟨d,t,rfl,T,g2,U⟩:=R;have Y:t=y.map λp=>V.int p.2:=by
    rw[k2] at U;have:=qp (by rwa [Zw]);rw[this,Zw];rfl
   have hd:s d=some (.dK (xq y)):=by rw[T,k1,Y,<- FV]
   have g:=w.fh _ _ hd;refine⟨.inr (.inr (.inl ⟨rfl,.inl ⟨_,g⟩⟩)),d,_,rfl,rfl,g,λc j=>⟨c,d,y,rfl,JM,(Kx j (Wl c d)) _ _ g,J.1,J.2,λl L fr nd hl=>?_⟩⟩;have K:Ext s I s (jB I c (Wl c d)):=.keep w.fh j _;refine q _ _ _ (w.trans (K.trans (zU K.fh fr))) ?_;obtain⟨l',ys,e',g4,g5⟩:=x6.mp (hl s);exact jn.mpr ⟨l',ys,e',.of g4,v5.mpr g5⟩
  .exact J6 A
 |_=>exact J6 hz
end
section
variable {P:Program}{w:World}{K:W.Frag}{mg:Ye}{base:Heap}{f:Addr}{fd:FuncData}{ps:Yk}{k:Nat}
def C7:FnOk P w K mg base yr k f fd ps (qw K λ_=>.no):=⟨λ_ _ _ _ ⟨_,_,_,_,n⟩=>n.elim,λ_ _ _ _ _ _ _ _ _ _ _ _ _ ⟨_,_,_,_,n⟩=>n.elim⟩
end
section
variable {X:Cx}{E:XK}{m:Option Bool}{a b o i e f tg:Expr}{fa fb fo fi fv:FE}{fr:FA}{pos pos' apos cpos p:Pos}
def xE (c:Bool):D->YI
 | .non=>some (.bl (!c))
 |_=>some (.bl c)
def C8:D->Bool
 | .non=>true
 |_=>false
def Gb {K:W.Frag}{H:Hp}{d:D}{v:V}(h:jg K H d v):decide (v=.non)=C8 d:=by
 cases d with
 |non=>rw[jD.mp h];rfl
 |bl b=>rw[jp.mp h];rfl
 |int b=>rw[je.mp h];rfl
 |str b=>rw[jr.mp h];rfl
 |ty b=>rw[qZ.mp h];rfl
 |scr b=>obtain⟨a,rfl,_⟩:=qj.mp h;rfl
 |tup b=>obtain⟨a,_,rfl,_⟩:=j1.mp h;rfl
 |lst b=>obtain⟨a,_,rfl,_⟩:=jn.mp h;rfl
 |dct b c=>obtain⟨a,_,rfl,_⟩:=jZ.mp h;rfl
 |ins b c d=>obtain⟨a,_,_,_,rfl,_⟩:=jY.mp h;rfl
 |exc b=>obtain⟨a,_,rfl,_⟩:=qO.mp h;rfl
 |ucl b=>obtain⟨a,rfl,_⟩:=yB.mp h;rfl
 |adr b=>rw[qa.mp h];rfl
 |dcf b c=>obtain⟨a,_,_,rfl,_⟩:=ql.mp h;rfl
 |pin b c=>rw[(qk.mp h).1];rfl
def Pi {K:W.Frag}{Z: St}{H:Hp}{Q:VK}(h:tD K E (qM (xE false) fa) Z H Q):vN (tD K E fa) Z H Q:=by
 obtain⟨B,F,sd,r,n⟩:=h;refine⟨B,F,sd,r,(ja n).mono (λx g v j c l s=>?_) λ_ _ q=>q⟩;show Q (V.bl (decide (v=V.non))) c;rw[Gb s];cases x<;>exact g _ j c l (jp.mpr rfl)
def Pj {K:W.Frag}{Z: St}{H:Hp}{Q:VK}(h:tD K E (qM (xE true) fa) Z H Q):DP (tD K E fa) Z H Q:=by
 obtain⟨B,F,sd,r,n⟩:=h;refine⟨B,F,sd,r,(ja n).mono (λx g v j c l s=>?_) λ_ _ q=>q⟩;show Q (V.bl !decide (v=V.non)) c;rw[Gb s];cases x<;>exact g _ j c l (jp.mpr rfl)
def Pk {j pos'}(c:QE X E a fa):QT X E (.Compare a [.Is] [.Constant .none j pos'] pos) (JD (qM (xE false) fa)):=PT.weak (Bv (LH c)) λ_ _ _ h=>Pi (WA h)
def Pm {j pos'}(c:QE X E a fa):QT X E (.Compare a [.IsNot] [.Constant .none j pos'] pos) (JD (qM (xE true) fa)):=PT.weak (Bv (LJ c)) λ_ _ _ h=>Pj (WA h)
def K3 (i:Nat)(fb:FE):FE:=λsd=>match sd[i]? with
 |some (some (.own _ d))=>(fb sd).bind λy=>.ofO (jt d y)
 |_=>.no
def C9 {i:Nat}(M:X.A.units+1<cLine)(J:PE X a (xC i))(K:QE X E b fb)(hs:ZQ b)(u:zN b):QE X E (.Subscript a b pos) (K3 i fb):=
 PE.weak (PE.or (BF M J K u) (B9 nU J K hs)) λZ H Q N=>by
  obtain⟨B,F,sd,r,n⟩:=N;unfold K3 at n
  split at n
  .rename_i p d O;obtain⟨l,v,S,T,A,_⟩:=r.own O;cases d with
   |lst ds =>
    obtain⟨L,C,G⟩:=A;refine .inr ⟨.ref l,v,B,F,sd,r,(ja n).mono (λy h w j s g t=>?_) λ_ _ q=>q⟩;obtain⟨z,hz,q⟩:=jh h;cases y with
    |int k =>
     obtain⟨x,I,ix⟩:=Ct G (hz);exact⟨l,L,k,x,rfl,je.mp t,xb.of (g.hh _ _ C),I,q _ j s g (jg.same g.ff _ _ ix)⟩
    |_=>exact J6 hz
   |dct ks ds =>
    obtain⟨L,C,G,P⟩:=A;refine .inl ⟨.ref l,v,B,F,sd,r,(ja n).mono (λy h w j s g t=>?_) λ_ _ q=>q⟩;obtain⟨z,hz,q⟩:=jh h;obtain⟨k,R,hz⟩:=Jg.mp (hz);obtain⟨x,I,ix⟩:=(Xi k G P).1 z hz;refine⟨l,x,rfl,?_,q x j s g (jg.same g.ff _ _ ix)⟩;rw[WF R t,<- I];exact xy.k (g.hh _ _ C)
   |ins c fs ds =>
    refine .inr ⟨.ref l,v,B,F,sd,r,(ja n).mono (λy h w j s g t=>?_) λ_ _ q=>q⟩;obtain⟨z,hz,q⟩:=jh h;cases y<;>exact J6 hz
   |_=>exact A.elim
  .exact n.elim
end
end L2.DL
namespace L2
section
variable {X:Cx}{tg iter elt c:Expr}{scope:Scope}{pos:Pos}{wi:TI}{g:TG}{te:TE}{tt:TT}
def Gc (a:X.N.Nodup)(f:X.N[iy]? = some y)(h:yG X.env.scope y)(i:X.fn y=true\/X.env.scope.names.lookup y=some .local):
 XG X Y Z (λv B=>DD.nx (Z.set iy (some v)) B) (some (assign (.Name y py) X.env)) (λ_ s'=>SP X Y DD .next s'):=λC D m j r E F N sz G H k=>by
 obtain⟨O,z,A,l,I,J⟩:=k j.heap ⟨rfl,λ_ _=>rfl⟩;obtain⟨n,q,s,K,t,u⟩:=id E;have L:Inv X (Y++[(C,n)]) Z z { j with heap:=j.heap }:=A.pins_of λp hp=>by
  rcases Jb.mp hp with hp|hp
  .exact A.pin p ()
  simp_all
 exact wpAny_assign_Name (ZK L a f h l (λP w=>(⟨m,⟨n,q,s,(w.pin (C,n) ()).1,t,u⟩,λQ x=>⟨_,z,(w.pins_of λp hp=>w.pin p ()).turned (λb o M e=>(x.2 b M).trans e) I F (.inr sz) G H,J⟩⟩)) i)
def CA (a:swapsWith (.ListComp elt [⟨tg,iter,[],0⟩] scope pos) (some (.Name y py)) spos.line X.env=pure true)(b:X.N.Nodup)(f:X.N[iy]? = some y)(i:yG X.env.scope y)(j:X.fn y=true\/X.env.scope.names.lookup y=some .local)(N)(cap)(o:X.calm=true)(l:QH scope X.env N X.N cap=true)(p:PI X tg iter wi)(q:∀m C s H n,PG (JK X scope N m C s H n) tg g)(t:∀m C s H n,PE (JK X scope N m C s H n) elt te)
 (hs:∀x,foldedSetIterable iter X.env x=pure x:=by intro _;rfl):PS X (.Assign [.Name y py] (.ListComp elt [⟨tg,iter,[],0⟩] scope pos) spos) (yY (WX cap wi g te) (KJ iy)):=by
 intro Y s Z H u I h;rw[exec_Assign_Name_used _ _ _ _ a];refine Za (wpAny_standAt (Za (Za (Zc (E1 N cap o l p q () hs I h (Gc b f i j)) (λ_ s' r=>Zb (Zb r)) λ_ _ e=>e))))
def Pn (f:swapsWith (.ListComp elt [⟨tg,iter,[c],0⟩] scope pos) (some (.Name y py)) spos.line X.env=pure true)(i:X.N.Nodup)(j:X.N[iy]? = some y)(l:yG X.env.scope y)(m:X.fn y=true\/X.env.scope.names.lookup y=some .local)(N)(cap)(o:X.calm=true)(n:QH scope X.env N X.N cap=true)(p:PI X tg iter wi)(q:∀a C s H b,PG (JK X scope N a C s H b) tg g)(r:∀a C s H b,PT (JK X scope N a C s H b) c tt)(t:∀a C s H b,PE (JK X scope N a C s H b) elt te)
 (hs:∀x,foldedSetIterable iter X.env x=pure x:=by intro _;rfl):PS X (.Assign [.Name y py] (.ListComp elt [⟨tg,iter,[c],0⟩] scope pos) spos) (yY (XF cap wi g tt te) (KJ iy)):=by
 intro Y s Z H v I h;rw[exec_Assign_Name_used _ _ _ _ f];refine Za (wpAny_standAt (Za (Za (Zc (Fk N cap o n p q r t hs I h (Gc i j l m)) (λ_ s' u=>Zb (Zb u)) λ_ _ e=>e))))
end
end L2
namespace L2.DL
section
variable {X:Cx}{E:XK}{m:Option Bool}{tg iter elt c:Expr}{scope:Scope}{pos spos py:Pos}{y:Str}{iy:Nat}{t:Tg}{fi:FA}{fc:FT}{f:FE}
def CB {K:W.Frag}{a:TE}{i:Nat}{b:FE}(w:∀Z H Q,vd K E b Z H Q->a Z H Q){T:Ends}{Z: St}{H:Hp}(h:vz K E m (j3 i b) T Z H):yY a (KJ i) T Z H:=w _ _ _ (by
 obtain⟨B,F,sd,r,n⟩:=h;exact⟨B,F,sd,r,(ja n).mono (λd g=>yq.new λv j l e o=>(g _ j l e.ff ((r.step e).setVal o))) λ_ _ q=>q.ext r.ext⟩)
def Po {K:W.Frag}{a:TE}{i:Nat}{b:FE}(w:∀Z H Q,vd K E b Z H Q->a Z H Q){T:Ends}{Z: St}{H:Hp}(h:vz K E m (qb i b) T Z H):yY a (KJ i) T Z H:=w _ _ _ (by
 obtain⟨B,F,sd,r,n⟩:=h;refine⟨B,F,sd,r,(ja n).mono (λd g l s u e v x z=>(g _ s u e.ff ((r.step e).setOwn (Qj r.ext.hh v) x z λj p G A I=>?_))) λ_ _ q=>q.ext r.ext⟩;obtain⟨J,L,_,_,C,_⟩:=r.own A;obtain⟨o,M⟩:=C.has
 simp_all)
def Gd (N)(cap)(a:X.N.Nodup)(b:X.N[iy]? = some y)(e:yG X.env.scope y)(o:X.calm=true)(g:QH scope X.env N X.N cap=true)(p:QI X E tg iter fi)
 (r:∀i C s H j,QG (JK X scope N i C s H j) tg t) (u:∀i C s H j,QE (JK X scope N i C s H j) E elt f) (l:swapsWith (.ListComp elt [⟨tg,iter,[],0⟩] scope pos) (some (.Name y py)) spos.line X.env=pure true:=by rfl)
 (n:X.fn y=true\/X.env.scope.names.lookup y=some .local:=by trivial) (hs:∀x,foldedSetIterable iter X.env x=pure x:=by intro _;rfl):
 QS X E m (.Assign [.Name y py] (.ListComp elt [⟨tg,iter,[],0⟩] scope pos) spos) (j3 iy (Qy cap fi t f)):=PS.weak (CA l a b e n N cap o g p r u hs) λT Z H h=>CB (λ_ _ _ q=>Aq q) h
def Pp (N:Yk)(cap:List (Option Nat))(a:X.N.Nodup)(b:X.N[iy]? = some y)(e:yG X.env.scope y)(o:X.calm=true)(g:QH scope X.env N X.N cap=true)(p:QI X E tg iter fi)
 (r:∀i C s H j,QG (JK X scope N i C s H j) tg t) (u:∀i C s H j,QE (JK X scope N i C s H j) E elt f) (l:swapsWith (.ListComp elt [⟨tg,iter,[],0⟩] scope pos) (some (.Name y py)) spos.line X.env=pure true:=by rfl)
 (n:X.fn y=true\/X.env.scope.names.lookup y=some .local:=by trivial) (hs:∀x,foldedSetIterable iter X.env x=pure x:=by intro _;rfl):
 QS X E m (.Assign [.Name y py] (.ListComp elt [⟨tg,iter,[],0⟩] scope pos) spos) (qb iy (Qy cap fi t f)):=PS.weak (CA l a b e n N cap o g p r u hs) λT Z H h=>Po (λ_ _ _ q=>Aq q) h
def Pq (N)(cap)(e:X.N.Nodup)(g:X.N[iy]? = some y)(i:yG X.env.scope y)(o:X.calm=true)(j:QH scope X.env N X.N cap=true)(p:QI X E tg iter fi)
 (r:∀a C s H b,QG (JK X scope N a C s H b) tg t) (u:∀a C s H b,QT (JK X scope N a C s H b) E c fc) (v:∀a C s H b,QE (JK X scope N a C s H b) E elt f) (l:swapsWith (.ListComp elt [⟨tg,iter,[c],0⟩] scope pos) (some (.Name y py)) spos.line X.env=pure true:=by rfl)
 (n:X.fn y=true\/X.env.scope.names.lookup y=some .local:=by trivial) (hs:∀x,foldedSetIterable iter X.env x=pure x:=by intro _;rfl):
 QS X E m (.Assign [.Name y py] (.ListComp elt [⟨tg,iter,[c],0⟩] scope pos) spos) (j3 iy (Wq cap fi t fc f)):=PS.weak (Pn l e g i n N cap o j p r u v hs) λT Z H h=>CB (λ_ _ _ q=>Ga q) h
end
def Ge:Option (Option SV)->Res D
 |some (some (.val d))=>.ok d
 |_=>.no
@[simp]def cg (d):Ge (some (some (.val d)))=.ok d:=rfl
@[simp]def mW (i)(sd):jb i sd=Ge sd[i]?:= rfl
@[simp]def dF (d)(sd):dC d sd=.ok d:=rfl
@[simp]def rJ (g)(fa fb)(sd):jf g fa fb sd=(fa sd).bind λx=>(fb sd).bind λy=>.ofO (g x y):=rfl
@[simp]def rG (g)(fa)(sd):qM g fa sd=(fa sd).bind λx=>.ofO (g x):=rfl
def rN:D->Res Bool
 | .bl b=>.ok b
 |_=>.no
@[simp]def nH (b):rN (.bl b)=.ok b:=rfl
@[simp]def bo (fa)(sd):JD fa sd=(fa sd).bind rN:=by
 rfl
@[simp]def hY (f)(sd):Qo f sd=(f sd).bind λb=>.ok (!b):=rfl
@[simp]def bq (f g)(sd):Am f g sd=(f sd).bind λb=>if b then g sd else .ok false:=rfl
@[simp]def nt (f g)(sd):zH f g sd=(f sd).bind λb=>if b then .ok true else g sd:=rfl
@[simp]def bp (fa fb)(sd):XU fa fb sd=(JD fa sd).bind λb=>if b then fb sd else .ok (.bl false):=rfl
@[simp]def hX (fa)(sd):Ci fa sd=(JD fa sd).bind λb=>.ok (.bl !b):=rfl
@[simp]def nu (sd):jc sd=.ok []:=rfl
@[simp]def bi (fa)(fr)(sd):J0 fa fr sd=(fa sd).bind λx=>(fr sd).bind λa=>.ok (x::a):=rfl
@[simp]def nv (fr)(sd):qN fr sd=(fr sd).bind λa=>if a.length<=1000 then .ok (.lst a) else .no:=rfl
@[simp]def mX (fr)(sd):xA fr sd=(fr sd).bind λa=>if a.length<=1000 then .ok (.tup a) else .no:=rfl
@[simp]def bm (Fn)(fr)(sd):J5 Fn fr sd=(fr sd).bind Fn:=rfl
@[simp]def n9 (g)(fr)(sd):jq g fr sd=(fr sd).bind λa=>.ofO (g a):=rfl
@[simp]def b0 {α: Type}(a:α):(Res.ok a).bare=.ok a:=rfl
@[simp]def mZ (is)(f)(sd):xU is f sd=(f (jS is sd)).bare.bind λd=>if KB d then .ok d else .no:=rfl
@[simp]def ub (i):KB (.int i)=true:=rfl
@[simp]def fP (i):KB (.bl i)=true:=rfl
@[simp]def kU (sd):jS [] sd=sd:=rfl
def frz1 (i:Nat)(sd:SD):Option (Option SV)->SD
 |some (some (.own _ d))=>sd.set i (some (.val d))
 |_=>sd
@[simp]def kW (i)(sd)(p)(d):frz1 i sd (some (some (.own p d)))=sd.set i (some (.val d)):=rfl
@[simp]def cb (i)(is)(sd):jS (i::is) sd=jS is (frz1 i sd sd[i]?):=by
 rfl
def xD (g:FS):Out->Res Out
 | .next sd=>g sd
 |o=>.ok o
@[simp]def dN (g)(sd):xD g (.next sd)=g sd:=rfl
@[simp]def vX (g)(d):xD g (.ret d)=.ok (.ret d):=rfl
@[simp]def vY (g)(d):xD g (.brk d)=.ok (.brk d):=rfl
@[simp]def ng (g1 g2)(sd):ji g1 g2 sd=(g1 sd).bind (xD g2):=by
 rfl
@[simp]def hZ (sd):JN sd=.ok (.next sd):=rfl
@[simp]def n8 (sd):vf sd=.ok (.brk sd):=rfl
@[simp]def nc (i)(f)(sd):j3 i f sd=(f sd).bind λd=>.ok (.next (sd.set i (some (.val d)))):=rfl
@[simp]def nq (i)(f)(sd):qb i f sd=(f sd).bind λd=>.ok (.next (sd.set i (some (.own false d)))):=rfl
@[simp]def nj (f)(sd):j0 f sd=(f sd).bind λd=>.ok (.ret d):=rfl
def vh:Option (Option SV)->Res D
 |some (some (.own _ d))=>.ok d
 |_=>.no
@[simp]def uJ (p)(d):vh (some (some (.own p d)))=.ok d:=rfl
@[simp]def ci (i)(sd):Kg i sd=(vh sd[i]?).bind λd=>.ok (.ret d):=by
 unfold Kg;cases sd[i]? with
 |none=>rfl
 |some o =>
  cases o with
  |none=>rfl
  |some v=>cases v<;>rfl
@[simp]def ny (c)(g1 g2)(sd):qi c g1 g2 sd=(c sd).bind λb=>if b then g1 sd else g2 sd:=rfl
def wo:Option (Option SV)->Res YH
 |some (some (.own false (.lst ds)))=>.ok ds
 |_=>.no
@[simp]def uK (ds):wo (some (some (.own false (.lst ds))))=.ok ds:=rfl
@[simp]def dP (i)(f)(sd):Q6 i f sd=(wo sd[i]?).bind λds=>(f sd).bind λd=>if ds.length<sizeLine then .ok (.next (sd.set i (some (.own false (.lst (ds++[d])))))) else .no:=by
 unfold Q6;cases sd[i]? with
 |none=>rfl
 |some o =>
  cases o with
  |none=>rfl
  |some v =>
   cases v with
   |val d=>rfl
   |own p d=>cases p<;>cases d<;>rfl
def Gf:D->Res YH
 | .lst es=>.ok es
 |_=>.no
@[simp]def dS (es):Gf (.lst es)=.ok es:=rfl
@[simp]def cj (i)(f)(sd):Xg i f sd=(wo sd[i]?).bind λds=>(f sd).bind λd=>(Gf d).bind λes=>if ds.length+es.length<=sizeLine then .ok (.next (sd.set i (some (.own false (.lst (ds++es)))))) else .no:=by
 unfold Xg;cases sd[i]? with
 |none=>rfl
 |some o =>
  cases o with
  |none=>rfl
  |some v =>
   cases v with
   |val d=>rfl
   |own p d =>
    cases p with
    |true=>cases d<;>rfl
    |false =>
     cases d with
     |lst ds =>
      cases f sd with
      |ok x=>cases x<;>rfl
      |ex c fs=>rfl
      |no=>rfl
     |_=>rfl
def uM:Option (Option SV)->Res (List j7×YH)
 |some (some (.own false (.dct ks ds)))=>.ok (ks,ds)
 |_=>.no
@[simp]def uL (ks)(ds):uM (some (some (.own false (.dct ks ds))))=.ok (ks,ds):=rfl
@[simp]def bh (i)(fk fv)(sd):Y0 i fk fv sd=(fv sd).bind λv=>(uM sd[i]?).bind λo=>(fk sd).bind λk=>(Res.ofO (QF k)).bind λq=>if o.1.length<sizeLine then .ok (.next (sd.set i (some (.own false (.dct (V4 o.1 q) (Wo o.1 o.2 q v)))))) else .no:=by
 unfold Y0;cases fv sd with
 |ok v =>
  cases sd[i]? with
  |none=>rfl
  |some o =>
   cases o with
   |none=>rfl
   |some w =>
    cases w with
    |val d=>rfl
    |own p d =>
     cases p with
     |true=>cases d<;>rfl
     |false =>
      cases d with
      |dct ks ds =>
       cases fk sd with
       |ok k=>show(match QF k with|some q=>_|none=>_)=(Res.ofO (QF k)).bind _;cases QF k<;>rfl
       |ex c fs=>rfl
       |no=>rfl
      |_=>rfl
 |ex c fs=>rfl
 |no=>rfl
def xc:Out->Res D
 | .ret d=>.ok d
 | .next _=>.ok .non
 |_=>.no
@[simp]def uN (d):xc (.ret d)=.ok d:=rfl
def Y2 (n ar)(g)(ds)(h:ds.length=ar):jE n ar g ds=(g (Qz n ds)).bind xc:=by
 unfold jE;rw[Zd h];rfl
def yd:Out->Res D
 | .ret d=>.ok d
 |_=>.no
@[simp]def uO (d):yd (.ret d)=.ok d:=rfl
def Gg (n ar)(g)(ds)(h:ds.length=ar):qf n ar g ds=(g (Qz n ds)).bind yd:=by
 unfold qf;rw[Zd h];rfl
@[simp]def ml (n)(g)(a):jE n 1 g [a]=(g (some (.val a)::List.replicate (n-1) none)).bind xc:=Y2 n 1 g [a] rfl
@[simp]def mj (n)(g)(a b):jE n 2 g [a,b]=(g (some (.val a)::some (.val b)::List.replicate (n-2) none)).bind xc:=rfl
@[simp]def mi (n)(g)(a b c):jE n 3 g [a,b,c]=(g (some (.val a)::some (.val b)::some (.val c)::List.replicate (n-3) none)).bind xc:=rfl
@[simp]def mh (n:Nat)(g:FS)(a b c d:D):jE n 4 g [a,b,c,d]=(g (some (.val a)::some (.val b)::some (.val c)::some (.val d)::List.replicate (n-4) none)).bind xc:=Y2 n 4 g [a,b,c,d] rfl
@[simp]def me (n)(g)(a):qf n 1 g [a]=(g (some (.val a)::List.replicate (n-1) none)).bind yd:=Gg n 1 g [a] rfl
@[simp]def ma (n)(g)(a b):qf n 2 g [a,b]=(g (some (.val a)::some (.val b)::List.replicate (n-2) none)).bind yd:=rfl
@[simp]def bZ (n)(g)(a b c):qf n 3 g [a,b,c]=(g (some (.val a)::some (.val b)::some (.val c)::List.replicate (n-3) none)).bind yd:=rfl
@[simp]def bY (n:Nat)(g:FS)(a b c d:D):qf n 4 g [a,b,c,d]=(g (some (.val a)::some (.val b)::some (.val c)::some (.val d)::List.replicate (n-4) none)).bind yd:=Gg n 4 g [a,b,c,d] rfl
@[simp]def kR (i j):js (.int i) (.int j)=some (.int (i+j)):=rfl
@[simp]def kC (i j):y0 (.int i) (.int j)=some (.int (i-j)):=rfl
@[simp]def kG (i):qT (.int i)=some (.int (-i)):=rfl
@[simp]def hF (i j):v3 (.int i) (.int j)=some (.bl (decide (j<i))):=rfl
@[simp]def kQ (i j):xm (.int i) (.int j)=some (.bl (decide (i=j))):=OG i j
@[simp]def kH (i j):zd (.int i) (.int j)=some (.bl (!decide (i=j))):=OH i j
@[simp]def mO (a b:Bool):zd (.bl a) (.bl b)=some (.bl (a != b)):=rfl
def WJ (h:Km i j=true):qE (.int i) (.int j)=some (.int (i*j)):=by
 show(if Km i j then _ else _)=_
 simp_all
def CC (a: -18446744073709551616<j)(b:j<18446744073709551616):Km i j=true:=by
 unfold Km;rw[U7,U7,UF,UF];lia
def CD (a: -18446744073709551616<i)(b:i<18446744073709551616):Km i j=true:=by
 unfold Km;rw[U7,U7,UF,UF];lia
def Pr (a:i.natAbs<y9)(b:j.natAbs<y9):Km i j=true:=by
 simp_all [Km]
@[simp]def Y3 (h:0<j):jK (.int i) (.int j)=some (.int (i % j)):=by
 show(if UE 0 j.toNat then _ else _)=_;rw[Zd (by rw[UF];lia)]
@[simp]def Y4 (h:0<j)(a:j<1073741824):Qp (.int i) (.int j)=some (.int (i / j)):=by
 show(if UE 0 j.toNat&&UE j.toNat 1073741824 then _ else _)=_;rw[Zd (by rw[Uc,UF,UF];lia)]
@[simp]def Y5 (ds):jO [.lst ds]=some (.int ds.length):=rfl
@[simp]def kJ (ds:YH):jO [.tup ds]=some (.int ds.length):=rfl
@[simp]def cr (i j):Az [.int i,.int j]=some (.int (if j > i then j else i)):=rfl
@[simp]def ca (ds):Qr [.lst ds]=some (.lst ds):=rfl
@[simp]def ck (ds):WI [.lst ds]=some (.tup ds):=rfl
@[simp]def fY (ds)(k):jt (.lst ds) (.int k)=jX ds k:=rfl
@[simp]def fV (ds:YH)(k:Int):jt (.tup ds) (.int k)=jX ds k:=rfl
@[simp]def Ps (ns)(k):jt (.scr ns) (.int k)=(jX ns k).map .int:=rfl
@[simp]def fZ (ks)(ds)(k):jt (.dct ks ds) (.int k)=jH ks ds (.inl k):=rfl
@[simp]def hD (neg)(ks)(ds)(k):wv neg (.int k) (.dct ks ds)=some (.bl (if neg then !(jH ks ds (.inl k)).isSome else(jH ks ds (.inl k)).isSome)):=rfl
@[simp]def dX (k):QF (.int k)=some (.inl k):=rfl
@[simp]def Gh (h:r.length<=100)(o:j8 r):Xk [jz r]=some (yp r):=by
 show(K0 (jz r)).bind _=_;rw[F7];show(if r.length<=100 then some (yp (Xj r)) else none)=_;rw[Zd h,OV o]
def CF (h:ns ≠ []):WG [.lst (ns.map .int)]=some (.int (q0 ns)):=by
 simp_all [WG,FU]
def CG (h:ns ≠ []):WH [.lst (ns.map .int)]=some (.int (qX ns)):=by
 simp_all [WH,FU]
theorem CH:∀{r:Jy},j8 r->∀t:Int,jH (r.map λp=>.inl p.1) (r.map λp=>.int p.2) (.inl t)=(JC r t).map .int
 | [],_,t=>rfl
 |p::r,o,t=>by
  have a:j8 r:=by simp_all [j8]
  have n:p.1∉r.map (·.1):=by simp_all [j8]
  rw[Zl,Zl,Cs,Ah];by_cases h:p.1=t
  .cases q:JC r t with
   |none=>simp_all
   |some w=>exact Zn (Ja.mpr ⟨(t,w),Qi q,h.symm⟩) n
  .rw[Ze (λz=>h (by injection z)),CH a t]
   grind
def Gi:D->Res (List j7×YH)
 | .dct ks ds=>.ok (ks,ds)
 |_=>.no
@[simp]def dM (ks)(ds):Gi (.dct ks ds)=.ok (ks,ds):=rfl
@[simp]def bf (fo fk fx)(sd):A3 fo fk fx sd=(fo sd).bind λd=>(Gi d).bind λo=>(fk sd).bind λk=>(fx sd).bind λx=>.ofO ((QF k).map λq=>(jH o.1 o.2 q).getD x):=by
 unfold A3;cases fo sd with
 |ok d=>cases d<;>rfl
 |ex c fs=>rfl
 |no=>rfl
def Pt (r:Jy)(t):yy (.inl t) (r.map λp=>.inl p.1)=r.any λp=>decide (p.1=t):=by
 grind[yy,List.any_map]
def Pu (r)(t w):D.dct (V4 (r.map λp=>.inl p.1) (.inl t)) (Wo (r.map λp=>.inl p.1) (r.map λp=>.int p.2) (.inl t) (.int w))=yp (qD r t w):=by
 unfold V4 Wo yp qD;rw[Pt];have ch:∀r:Jy,zf (r.map λp=>.inl p.1) (r.map λp=>.int p.2) (.inl t) (.int w)=(r.map λp=>if p.1=t then(p.1,w) else p).map λp=>D.int p.2:=by
  intro r
  induction r with
  |nil=>rfl
  |cons p r a =>
   rw[Zl,Zl,Zl,Zl,FG,a];by_cases h:p.1=t
   .rw[Zd (by rw[h]),Zd h]
   .rw[Ze (λz=>h (by injection z)),Ze h]
 have b:∀r:Jy,(r.map λp=>if p.1=t then(p.1,w) else p).map (λp=>(Ue p.1:j7))=r.map λp=>.inl p.1:=by
  intro r;rw[Zw]
  congr 1
  funext p
  show(Ue (if p.1=t then(p.1,w) else p).1:j7)=_;by_cases h:p.1=t
  .rw[Zd h]
  .rw[Ze h]
 by_cases q:(r.any λp=>decide (p.1=t))=true
 .rw[Zd q,Zd q,Zd q,ch,b]
 .rw[Ze q,Ze q,Ze q,Ud,Ud];rfl
@[simp]def cJ (fo)(sd):C6 fo sd=(fo sd).bind λd=>.ofO (C5 d):=rfl
def Pv (h:r ≠ [])(a:r.length<1000):C5 (yp r)=some (.lst ((JV jV r).map qm)):=by
 show(Y1 _ _).bind _=_
 simp_all [Pg]
@[simp]def rK (f)(sd):iS f sd=(f sd).bind λd=>.ofO (K2 d):=rfl
@[simp]def dI (ds):K2 (.lst ds)=some ds:=rfl
@[simp]def dR (ds):K2 (.tup ds)=some ds:=rfl
def Ko:YH->Res YH
 | [.int j]=>if Xl j then .ok (JQ 0 j.toNat) else .no
 |_=>.no
@[simp]def n0 (fr)(sd):yx fr sd=(fr sd).bind Ko:=by
 rfl
def KF (a: -1000000000<=j)(b:j<=1000000000):Ko [.int j]=.ok (JQ 0 j.toNat):=Zd (Pc a b)
def WK {lo:Int}{n i:Nat}{x:D}(h:(JQ lo n)[i]? = some x):x=.int (lo+i)/\i<n:=by
 grind[JQ,List.getElem?_map,List.length_range]
def Wr (lo)(n):(JQ lo n).length=n:=by unfold JQ;simp
def q9 (tg:Tg)(b:FS)(ds:YH)(sd:SD):Res Out:=yg (λx sd=>(JR tg x sd).bind b) ds sd
@[simp]def n7 (it)(tg)(b)(sd):jL it tg b sd=(it sd).bind λds=>q9 tg b ds sd:=rfl
@[simp]def kX (tg:Tg)(b:FS)(sd:SD):q9 tg b [] sd=.ok (.next sd):=rfl
@[simp]def Pw (i)(d)(sd):JR (.one i) d sd=.ok (sd.set i (some (.val d))):=rfl
@[simp]def cy (i j)(p)(sd):JR (.tup [i,j]) (qm p) sd=.ok ((sd.set i (some (.val (.int p.1)))).set j (some (.val (.int p.2)))):=rfl
def Ka (P:Nat->SD->Prop)(l:P 0 sd)(hs:∀i (x:D) sd,ds[i]? = some x->P i sd->∃sd',(JR tg x sd).bind b=.ok (.next sd')/\P (i+1) sd'):∃sd',q9 tg b ds sd=.ok (.next sd')/\P ds.length sd':=by
 have c:∀k i sd,ds.length-i=k->i<=ds.length->P i sd->∃sd',q9 tg b (ds.drop i) sd=.ok (.next sd')/\P ds.length sd':=by
  intro k
  induction k with
  |zero =>
   intro i sd e f p;have:i=ds.length:=()
   simp_all
  |succ k g =>
   intro i sd e f p;have a:i<ds.length:=()
   rw[Ut a];obtain⟨sd',m,h⟩:=hs i ds[i] sd () p;have ⟨j,n,o⟩:=g (i+1) sd' () a h
   simp_all [q9,yg]
 grind
def A4 (R:Res Out->Prop)(P:Nat->SD->Prop)(j:P 0 sd)(l:∀sd,P ds.length sd->R (.ok (.next sd)))
 (hs:∀i x sd,ds[i]? = some x->P i sd->(∃sd',((JR tg x sd).bind b=.ok (.next sd')\/(JR tg x sd).bind b=.ok (.cont sd'))/\P (i+1) sd')\/(∃sd',(JR tg x sd).bind b=.ok (.brk sd')/\R (.ok (.next sd')))\/∃d,(JR tg x sd).bind b=.ok (.ret d)/\R (.ok (.ret d))):R (q9 tg b ds sd):=by
 have g:∀k i sd,ds.length-i=k->i<=ds.length->P i sd->R (q9 tg b (ds.drop i) sd):=by
  intro k
  induction k with
  |zero =>
   intro i sd e h p;have:i=ds.length:=()
   simp_all
  |succ k f =>
   intro i sd e h p;have a:i<ds.length:=()
   rw[Ut a];unfold q9 yg;rcases hs i ds[i] sd () p with ⟨sd',h1|h1,c⟩|⟨sd',h1,c⟩|⟨d,h1,c⟩
   .rw[h1];exact f (i+1) sd' () a c
   .rw[h1];exact f (i+1) sd' () a c
   .rwa [h1]
   .rwa [h1]
 grind
def Gj {α β γ: Type}{f:α -> Res β}{k:γ -> α}{g:γ -> β}{a:List γ}(h:∀x∈a,f (k x)=.ok (g x)):xS f (a.map k)=.ok (a.map g):=by
 induction a with
 |nil=>rfl
 |cons x a b =>
  simp_all [xS]
def qd (tg:Tg)(f:FE)(c:SD)(ds:YH):Res YH:=xS (λx=>(JR tg x c).bind f) ds
@[simp]def bj (cap)(it)(tg)(f)(sd):Qy cap it tg f sd=(it sd).bind λds=>if V3 (jW cap sd) tg=true/\ds.length<sizeLine then(qd tg f (jW cap sd) ds).bind λys=>.ok (.lst ys) else .no:=rfl
def gZ:Option (Option SV)->Option SV
 |some (some (.val d))=>some (.val d)
 |_=>none
@[simp]def gY (d):gZ (some (some (.val d)))=some (.val d):=rfl
@[simp]def fg (sd):jW [] sd=[]:=rfl
@[simp]def nG (cap)(sd):jW (none::cap) sd=none::jW cap sd:=rfl
@[simp]def nF (j)(cap)(sd):jW (some j::cap) sd=gZ sd[j]? :: jW cap sd:=rfl
@[simp]def cx (sd)(i):V3 sd (.one i)=V2 sd i:=rfl
@[simp]def cp (sd)(is):V3 sd (.tup is)=is.all (V2 sd):=rfl
@[simp]def ka (sd:SD):V2 (none::sd) 0=true:=rfl
@[simp]def uZ (o)(sd:SD)(i):V2 (o::sd) (i+1)=V2 sd i:=rfl
def K4 {α: Type}{k:α -> D}{g:α -> D}{a:List α}(h:∀x∈a,(JR tg (k x) c).bind f=.ok (g x)):qd tg f c (a.map k)=.ok (a.map g):=Gj h
def CI {tg:Tg}{f:FE}{c:SD}{lo:Int}{n:Nat}{g:Nat->D}(h:∀i,i<n->(JR tg (.int (lo+i)) c).bind f=.ok (g i)):qd tg f c (JQ lo n)=.ok ((List.range n).map g):=Gj ()
@[simp]def dL (cap)(it)(tg)(c)(f)(sd):Wq cap it tg c f sd=(it sd).bind λds=>if V3 (jW cap sd) tg=true/\ds.length<sizeLine then(KE tg c f (jW cap sd) ds).bind λys=>.ok (.lst ys) else .no:=rfl
def A5 {α: Type}{k:α -> D}{s:α -> SD}{p:α -> Bool}{g:α -> D}{a:List α}(b:∀x∈a,JR tg (k x) sd=.ok (s x))(e:∀x∈a,c (s x)=.ok (p x))(h:∀x∈a,p x=true->f (s x)=.ok (g x)):
 KE tg c f sd (a.map k)=.ok ((a.filter p).map g):=by
 induction a with
 |nil=>rfl
 |cons x a i =>
  grind[KE,List.map_cons,List.filter_cons,jy]
def Qc (h:n<=1000):n<sizeLine:=Ew h
@[simp]def cF (i):jQ [.int i,.ty "bool"]=some (.bl false):=rfl
@[simp]def c8 (i):jQ [.int i,.ty "int"]=some (.bl true):=rfl
@[simp]def c7 (i:Int):jQ [.int i,.ty "str"]=some (.bl false):=rfl
@[simp]def cC (ds:YH):jQ [.lst ds,.ty "bool"]=some (.bl false):=rfl
@[simp]def c3 (ds:YH):jQ [.lst ds,.ty "int"]=some (.bl false):=rfl
@[simp]def cA (ds:YH):jQ [.lst ds,.ty "str"]=some (.bl false):=rfl
@[simp]def cB (ds:YH):jQ [.lst ds,.ty "list"]=some (.bl true):=rfl
@[simp]def cK (ds:YH):jQ [.lst ds,.ty "tuple"]=some (.bl false):=rfl
@[simp]def cI (ds:YH):jQ [.tup ds,.ty "bool"]=some (.bl false):=rfl
@[simp]def c0 (ds:YH):jQ [.tup ds,.ty "int"]=some (.bl false):=rfl
@[simp]def cG (ds:YH):jQ [.tup ds,.ty "str"]=some (.bl false):=rfl
@[simp]def cH (ds:YH):jQ [.tup ds,.ty "list"]=some (.bl false):=rfl
@[simp]def cL (ds:YH):jQ [.tup ds,.ty "tuple"]=some (.bl true):=rfl
def Qs {α: Type}(a:List α)(lo b st:Option Int):List α:= (sliceRange (sliceBounds lo b st a.length).1 (sliceBounds lo b st a.length).2.1 (sliceBounds lo b st a.length).2.2).filterMap (a[·]?)
def Gk (its)(lo hi st):slicePick its.toArray lo hi st=(Qs its lo hi st).toArray:=by
 simp_all [slicePick,Qs]
def Px {a:YF}{its:Yf}(r:ju a its)(lo hi st):ju (Qs a lo hi st) (Qs its lo hi st):=by
 unfold Qs;rw[r.length];generalize sliceRange _ _ _=ix
 induction ix with
 |nil=>exact .nil
 |cons i ix c =>
  rw[UT,UT];cases b:a[i]? with
  |none=>rwa [r.none_of b]
  |some x =>
   obtain⟨u,e,f⟩:=r.get b;rw[e];exact .cons f c
def Py {K:W.Frag}{H:Hp}{ds:YH}{a:YF}(r:jd K H ds a)(lo hi st):jd K H (Qs ds lo hi st) (Qs a lo hi st):=by
 unfold Qs;rw[r.length];generalize sliceRange _ _ _=ix
 induction ix with
 |nil=>rfl
 |cons i ix b =>
  rw[UT,UT];cases c:ds[i]? with
  |none =>
   have e:a[i]? = none:=List.getElem?_eq_none_iff.mpr (by rw[r.length];simp_all)
   rwa [e]
  |some x =>
   obtain⟨u,f,g⟩:=r.get c;rw[f];exact .mk g b
def Gm {α β: Type}(f:α -> β)(xs)(lo hi st):Qs (xs.map f) lo hi st=(Qs xs lo hi st).map f:=by
 grind[Qs,Zql,List.filterMap_cons,List.getElem?_map]
def Pz {α: Type}(a:List α)(lo hi st):(Qs a lo hi st).length<=a.length:=by
 have h:=slicePick_size_le (a.map λ_=>Value.none).toArray lo hi st
 simp_all [Gk,Gm]
section
variable {X:Cx}{E:XK}{m:Option Bool}{a b o i e f tg:Expr}{fa fb fo fi fv fe:FE}{fr:FA}{pos pos' apos cpos p p2:Pos}{lo hi st:Option Expr}
abbrev FO:=SD->Res (Option Int)
def dk (K:W.Frag)(E:XK)(f:FO):TO:=λZ H Q=>∃B F sd,RS K B F H sd Z /\ (f sd).need (λo=>∀g c,Ext F H g c->Q o c) (XW K E F H)
def Xm:FO:=λ_=>.ok none
def A6 (f:FE):FO:=λsd=>(f sd).bind λd=>match d with
 | .int i=>.ok (some i)
 |_=>.no
abbrev QO (X:Cx)(E:XK)(e:Option Expr)(f:FO):Prop:=PO X e (dk X.K E f)
def PO.weak {e:Option Expr}{t t':TO}(h:PO X e t)(w:∀Z H Q,t' Z H Q->t Z H Q):PO X e t':=λY s Z H Q I q=>h Y s Z H Q I (w _ _ _ q)
def A7:QO X E none Xm:=PO.weak MM λZ H Q ⟨B,F,sd,r,n⟩=>n F H (.refl r.ext.fh)
def Gn (h:QE X E e fe):QO X E (some e) (A6 fe):=PO.weak (MN h) λZ H Q g=>by
 obtain⟨B,F,sd,r,n⟩:=g;refine⟨B,F,sd,r,(ja n).mono (λd c v j l s t=>?_) λ_ _ q=>q⟩;cases d with
 |int i=>exact⟨i,je.mp t,c j l s⟩
 |_=>exact c.elim
def mm (K:W.Frag):V->Option Int->Option Int->Option Int->Hp->VK->Prop:=λx lo hi st H Q=>∃a c,x=.ref a/\xb K H a c/\st≠some 0/\∀p,H p=none->Q (.ref p) (jB H p (.lst (Qs c lo hi st)))
def bL (r:V->Option Int->Option Int->Option Int->Hp->VK->Prop)(g:TE)(h j n:TO):TE:=λZ H Q=>g Z H λx q=>h Z q λl s=>j Z s λu t=>n Z t λc v=>r x l u c v Q
def P0 {t:TE}{w y z:TO}(J:PE X e t)(K:PO X lo w)(L:PO X hi y)(hs:PO X st z):PE X (.Subscript e (.Slice lo hi st p2) pos) (bL (mm X.K) t w y z):=by
 intro Y s Z H Q I h;refine Subscript_ (jJ (J Y s Z H _ I h) λv M ⟨x,N,O,P,R⟩=>(wpAny_Slice (jJ (K Y M Z N _ O R) λA S ⟨l,T,U,pl,q2⟩=>jJ (L Y S Z T _ U q2) λB s3 ⟨u,H3,I3,pu,q3⟩=>jJ (hs Y s3 Z H3 _ I3 q3) λC g ⟨c,H4,I4,ps,q4⟩=>?_)));obtain⟨a,F,rfl,hx,h0,q⟩:=q4;obtain rfl:=P;have j:Inv X Y Z H4 { g with heap:=g.heap.push { cls:=.type "slice",data:=.fields #[A,B,C] } }:=I4.kept λb ob q=>Zq _ q;obtain⟨its,r,n,hz⟩:=j.list hx;have G:=r.length
 suffices fin:YJ X (getItem (.ref a) (.ref g.heap.objs.size)) (EP X Y Z Q) X.xe { g with heap:=g.heap.push { cls:=.type "slice",data:=.fields #[A,B,C] } } by
  cases st with
  |none=>exact tail_any n.isList.typeIs slot_list_getitem.lookup fin (by rfl)
  |some c=>exact tail_any n.isList.typeIs slot_list_getitem.lookup fin (by rfl)
 refine wpAny_getItem_list_slice n.isList (Heap.IsSliceOf.new ..) pl pu ps h0 ?_ ();rw[Gk];exact⟨.ref _,_,j.laid (o:=.lst (Qs F l u c)) (λb ob q=>Zq _ q) (Zf _) ⟨Zh (Pz F l u c) hz,_,0,Px r l u c,Zr _ rfl⟩,rfl,q _ (j.hok.fresh (Zf _))⟩
def mM:D->Option Int->Option Int->Option Int->YI
 | .lst ds,lo,hi,st=>if st=some 0 then none else some (.lst (Qs ds lo hi st))
 | .scr ns,lo,hi,st=>if st=some 0 then none else some (.lst ((Qs ns lo hi st).map .int))
 |_,_,_,_=>none
def bu (fe:FE)(g j fs:FO):FE:=λsd=>(fe sd).bind λd=>(g sd).bind λl=>(j sd).bind λh=>(fs sd).bind λc=>.ofO (mM d l h c)
def Go {A C fs:FO}(J:QE X E e fe)(K:QO X E lo A)(L:QO X E hi C)(hs:QO X E st fs):QN X E (.Subscript e (.Slice lo hi st p2) pos) (bu fe A C fs):=PE.weak (P0 J K L hs) λZ H Q M=>by
 obtain⟨B,F,sd,r,n⟩:=M;refine⟨B,F,sd,r,(ja n).mono (λd N v O H1 j G=>⟨B,O,sd,r.step j,(ja N).mono (λl P R H2 s=>(⟨B,R,sd,(r.step j).step s,(ja P).mono (λh S T H3 w=>⟨B,T,sd,((r.step j).step s).step w,(ja S).mono (λc U I H4 t=>?_) λ_ _ q=>q.ext ((j.trans s).trans w)⟩) λ_ _ q=>q.ext (j.trans s)⟩)) λ_ _ q=>q.ext j⟩) λ_ _ q=>q⟩;obtain⟨z,hz,q⟩:=jh U;have g:=((s.trans w).trans t);have u:=j.trans g;cases d with
 |lst ds =>
  have hz:(if c=some 0 then none else some (D.lst (Qs ds l h c)))=some z:=hz
  split at hz
  .exact J6 hz
  .rename_i x;obtain rfl:=Zqi hz;obtain⟨a,Y,rfl,y,h2⟩:=G;exact⟨a,Y,rfl,((y.same g.ff).same g.fh).sq,x,λp hp=>q p I _ (u.trans (.keep t.fh hp _)) (Qj u.hh hp) (Qj t.fh hp) ⟨_,JM,Py (jd.same g.ff _ _ h2) l h c⟩⟩
 |scr ns =>
  have hz:(if c=some 0 then none else some (D.lst ((Qs ns l h c).map .int)))=some z:=hz
  split at hz
  .exact J6 hz
  .rename_i x;obtain rfl:=Zqi hz;obtain⟨a,rfl,y⟩:=G;refine⟨a,_,rfl,jm.seq g.fh (jm.seq g.ff y),x,λp hp=>q p I _ (u.trans (.keep t.fh hp _)) (Qj u.hh hp) (Qj t.fh hp) ⟨_,JM,?_⟩⟩;rw[Gm];exact qx _
 |_=>exact J6 hz
@[simp]def rH (fe)(fl fh fs)(sd):bu fe fl fh fs sd=(fe sd).bind λd=>(fl sd).bind λl=>(fh sd).bind λh=>(fs sd).bind λc=>.ofO (mM d l h c):=rfl
@[simp]def dO (sd):Xm sd=.ok none:=rfl
def CJ:D->Res (Option Int)
 | .int i=>.ok (some i)
 |_=>.no
@[simp]def cz (i):CJ (.int i)=.ok (some i):=rfl
@[simp]def hW (f)(sd):A6 f sd=(f sd).bind CJ:=by
 rfl
@[simp]def kE (ds)(lo hi):mM (.lst ds) lo hi none=some (.lst (Qs ds lo hi none)):=rfl
def Ws (i:Nat)(c fv:FE):FS:=λsd=>(fv sd).bind λv=>match sd[i]? with
 |some (some (.own false (.lst ds)))=>(c sd).bind λk=>match k with
  | .int k=>match xJ ds.length k with
   |some j=>.ok (.next (sd.set i (some (.own false (.lst (ds.set j v))))))
   |none=>.no
  |_=>.no
 |_=>.no
def Gp {j:Nat}(A:PE X o (xC j))(hi:QE X E i fi)(C:QE X E e fv)(G:∀v,assign (.Subscript o i pos') X.env v=(do
 let s <- holding [v] (eval o X.env)
 let u <- holding [v,s] (eval i X.env)
 standAt pos'
 holding [v,s,u] (setItem s u v)
 release [v,s,u] []):=by intro _;rfl) (hs:swapsWithSole [.Subscript o i pos'] e pos.line X.env=pure false:=by rfl) (I:swappedStores [.Subscript o i pos'] e X.env=pure none:=by rfl)
 (t:(assignEach [.Subscript o i pos'] X.env).map (·.2)=[assign (.Subscript o i pos') X.env]:=by rfl):QS X E m (.Assign [.Subscript o i pos'] e pos) (Ws j fi fv):=PS.weak (LX C (LW A hi MT G) hs I t) λT Z H J=>by
 obtain⟨B,F,sd,r,n⟩:=J;refine⟨B,F,sd,r,(ja n).mono (λd x v K Q c L=>?_) λ_ _ q=>q.ext r.ext⟩
 split at x
 .rename_i ds y;obtain⟨l,t,R,S,⟨M,N,z⟩,_⟩:=(r.step c).own y;refine⟨.ref l,t,B,K,sd,r.step c,(ja x).mono (λk g w O U h P=>?_) λ_ _ q=>q.ext (r.step c).ext⟩
  split at g
  .rename_i k
   split at g
   .rename_i q Y;have hl:=z.length;exact⟨l,M,k,q,rfl,je.mp P,(h.hh _ _ N),(),g Z O _ (c.ff.trans h.ff) (((r.step c).step h).chg y t ⟨_,JM,(jd.same h.ff _ _ z).set q (jg.same h.ff _ _ L)⟩)⟩
   .exact g.elim
  .exact g.elim
 .exact x.elim
@[simp]def bb (i)(fk fv)(sd):Ws i fk fv sd=(fv sd).bind λv=>(wo sd[i]?).bind λds=>(fk sd).bind λk=>(CJ k).bind λk=>(Res.ofO (xJ ds.length (k.getD 0))).bind λj=>.ok (.next (sd.set i (some (.own false (.lst (ds.set j v)))))):=by
 unfold Ws;cases fv sd with
 |ok v =>
  cases sd[i]? with
  |none=>rfl
  |some o =>
   cases o with
   |none=>rfl
   |some w =>
    cases w with
    |val d=>rfl
    |own p d =>
     cases p with
     |true=>cases d<;>rfl
     |false =>
      cases d with
      |lst ds =>
       cases fk sd with
       |ok k =>
        cases k with
        |int k=>show(match xJ ds.length k with|some j=>_|none=>_)=(Res.ofO (xJ ds.length k)).bind _;cases xJ ds.length k<;>rfl
        |_=>rfl
       |ex c fs=>rfl
       |no=>rfl
      |_=>rfl
 |ex c fs=>rfl
 |no=>rfl
@[simp]def gF (i)(fb)(sd):K3 i fb sd=(vh sd[i]?).bind λd=>(fb sd).bind λy=>.ofO (jt d y):=by
 unfold K3;cases sd[i]? with
 |none=>rfl
 |some o =>
  cases o with
  |none=>rfl
  |some v=>cases v<;>rfl
def Xn:YH->YI
 | [.lst ds]=>(Q9 K0 ds).bind λrs=>if(∀r∈rs,r ≠ [])/\rs.length<1000 then some (.lst ((JV j9 rs).map jz)) else none
 |_=>none
def P1 (u:X.A.units+64<cLine):jU X (.builtin "sorted") (zC X.K Xn):=jU.weak (Oo u) λC H Q w=>by
 obtain⟨F,ds,z,c,id,hz,q⟩:=w;unfold Xn at hz
 split at hz
 .obtain⟨rs,y,hz⟩:=Jg.mp hz
  split at hz
  .rename_i r;obtain rfl:=Zqi hz;obtain⟨v,rfl,h⟩:=QB id;rw[Cp y,jn] at h;obtain⟨a,ys,rfl,A,s⟩:=h;refine⟨a,ys,rs,rfl,A.same c,zW.mp (jd.same c _ _ s),r.1,r.2,λl ix g j t=>(q l F _ (.keep c g _) g (Qj c g) ⟨_,JM,?_⟩)⟩;rw[<- t,Zw];clear t
   induction ix with
   |nil=>exact .nil
   |cons i ix G =>
    rw[Zl,Zl];have hi:=j i Zqs;obtain⟨x,B,n⟩:=s.get (d:=jz (rs.getD i [])) (by rw[Zv,Zqg hi,Qg (Zqg hi)];rfl);rw[Qg B];exact .mk n ()
  .exact J6 hz
 simp_all
end
end L2.DL
namespace L2
end L2
namespace L2.DL
section
variable {X:Cx}{E:XK}{fr:FA}{p pos tp:Pos}{elts:Ym}
def yP:YH->YI
 | [.int i]=>some (.int (if i<0 then -i else i))
 |_=>none
@[simp]def kT (i:Int):yP [.int i]=some (.int (if i<0 then -i else i)):=rfl
def fj:jU X (.builtin "abs") (zX X.K yP):=jU.weak Mp λc H Q a=>by
 obtain⟨F,ds,z,b,id,hz,q⟩:=a;unfold yP at hz
 split at hz
 .obtain rfl:=Zqi hz;obtain⟨v,rfl,h⟩:=QB id;exact⟨_,by rw[je.mp h],q _ F H (.refl b) (yw _ F)⟩
 .exact J6 hz
def P3:bootBuiltins "abs" = some (.builtin "abs"):=by kernel_rfl
end
end L2.DL
namespace L2.ST
open PySem
def yo:Nat->Nat->Nat
 | 0,z=>z
 |n+1,z=>yo n (5*z+1)
def Gq (a b z):yo (a+b) z=yo b (yo a z):=by
 induction a generalizing z with
 |zero=>rw[Nat.zero_add];rfl
 |succ a c=>rw[Nat.succ_add];exact c _
def Gr (n z d):yo n (z+d)=yo n z+5 ^ n*d:=by
 induction n generalizing z d with
 |zero=>simp[yo]
 |succ n a =>
  show yo n (5*(z+d)+1)=yo n (5*z+1)+5 ^ (n+1)*d
  grind
def mo (n):5 ^ n % 4=1:=by
 induction n with
 |zero=>rfl
 |succ n a=>lia
def P4 (k z):∃u,yo (2 ^ k) z=z+2 ^ k*(2*u+1):=by
 induction k generalizing z with
 |zero=>exact⟨2*z,by show 5*z+1=z+1*(2*(2*z)+1);lia⟩
 |succ k b =>
  obtain⟨u,a⟩:=b z;have e:2 ^ (k+1)=2 ^ k+2 ^ k:=()
  rw[e,Gq,a,Gr,a];have c:=mo (2 ^ k);have ⟨v,hv⟩:∃v,5 ^ (2 ^ k)=4*v+1:=⟨5 ^ (2 ^ k) / 4,()⟩;refine⟨2*u*(2*v+1) / 2+v,?_⟩;have:2*u*(2*v+1) / 2=u*(2*v+1):=by grind
  grind
def P5 (m n z):yo n z % m=yo n (z % m) % m:=by
 have h:=Gr n (z % m) (m*(z / m));rw[Nat.mod_add_div] at h;rw[h,<- Nat.mul_assoc,Nat.mul_comm _ m,Nat.mul_assoc,Nat.add_mul_mod_self_left]
theorem CK:∀k x y,y<2 ^ k->∃q,q<2 ^ k/\yo q x % 2 ^ k=y
 | 0,x,y,h=>by grind
 |k+1,x,y,h=>by
  have e:2 ^ (k+1)=2*2 ^ k:=()
  have hp:0<2 ^ k:=Nat.two_pow_pos k;obtain⟨q,o,g⟩:=CK k x (y % 2 ^ k) (Uz _ hp);rw[e] at h ⊢;by_cases c:yo q x % (2*2 ^ k)=y
  .grind
  .refine⟨q+2 ^ k,(),?_⟩;rw[Gq];obtain⟨u,i⟩:=P4 k (yo q x);rw[i];generalize yo q x=w at *;generalize 2 ^ k=m at *;have j:w+m*(2*u+1)=(w+m)+(2*m)*u:=by grind
   rw[j,Nat.add_mul_mod_self_left];have l:=Nat.div_add_mod w m;have f:=Uz w (show 0<2*m from ());rw[g] at l;have a:w % (2*m) % m=y % m:=by rwa [Nat.mod_mul_left_mod]
   have a1:w % (2*m)<m\/m<=w % (2*m):=()
   have a2:y<m\/m<=y:=()
   have b:∀t,t<2*m->m<=t->t % m=t-m:=λt p n=>by
    rw[Nat.mod_eq_sub_mod n,UR ()]
   rw[Nat.add_mod,UR (show m<2*m from ())];generalize w % (2*m)=t at *;rcases a1 with a1|a1<;>rcases a2 with a2|a2
   .rw[UR a1,UR a2] at a;exact Zn a c
   .rw[UR a1,b y h a2] at a;rw[UR ()];lia
   .rw[UR a2,b t f a1] at a;rw[Nat.mod_eq_sub_mod (),UR ()];lia
   .rw[b t f a1,b y h a2] at a;exact Zn () c
def JI (t:YE):Nat->SetTable.Probe->SetTable.Probe
 | 0,p=>p
 |n+1,p=>JI t n (t.advance p)
def Y6 (t)(a b)(p):JI t (a+b) p=JI t b (JI t a p):=by
 induction a generalizing p with
 |zero=>rw[Nat.zero_add];rfl
 |succ a c=>rw[Nat.succ_add];exact c _
def P6 (t)(n)(p):JI t (n+1) p=t.advance (JI t n p):=Y6 t n 1 p
def Kp (mask i pert:Nat):SetTable.Probe:={ j:=i,more:=SetTable.runEnd mask i-i,i:=i,perturb:=pert,dummy:=none }
def qB (mask:Nat):Nat->Nat×Nat->Nat×Nat
 | 0,s=>s
 |n+1,s=>qB mask n (SetTable.leap mask s.1 s.2)
def A8 (mask i):SetTable.runEnd mask i-i<=9:=by
 grind[SetTable.runEnd]
def Gs (t)(m):∀p,p.more=m->p.dummy=none->JI t (m+1) p=Kp t.mask (SetTable.leap t.mask p.i p.perturb).1 (SetTable.leap t.mask p.i p.perturb).2:=by
 induction m with
 |zero =>
  intro p a b;show t.advance p=_
  simp_all [SetTable.advance,Kp]
 |succ m c =>
  intro p a b;show JI t (m+1) (t.advance p)=_
  simp_all [SetTable.advance]
theorem Gu (t):∀r i pert,∃n,n<=10*r/\JI t n (Kp t.mask i pert)=Kp t.mask (qB t.mask r (i,pert)).1 (qB t.mask r (i,pert)).2
 | 0,i,pert=>⟨0,Zf _,rfl⟩
 |r+1,i,pert=>by
  have ⟨n,a,b⟩:=Gu t r (SetTable.leap t.mask i pert).1 (SetTable.leap t.mask i pert).2;have c:=A8 t.mask i;refine⟨(SetTable.runEnd t.mask i-i+1)+n,(),?_⟩
  rwa [Y6,(Gs t (SetTable.runEnd t.mask i-i) (Kp t.mask i pert) rfl rfl)]
def Gv (mask a b)(s):qB mask (a+b) s=qB mask b (qB mask a s):=by
 induction a generalizing s with
 |zero=>rw[Nat.zero_add];rfl
 |succ a c=>rw[Nat.succ_add];exact c _
theorem CL (mask):∀r s,(qB mask r s).2=s.2 / 32 ^ r
 | 0,s=>by show s.2=_;rw[Nat.pow_zero,Nat.div_one]
 |r+1,s=>by
  show(qB mask r (SetTable.leap mask s.1 s.2)).2=_;rw[CL mask r];show s.2 / 32 / 32 ^ r=_;rw[Nat.div_div_eq_div_mul,Nat.pow_succ,Nat.mul_comm 32]
theorem CM (mask):∀r i,i<mask+1->qB mask r (i,0)=(yo r i % (mask+1),0)
 | 0,i,h=>by
  show(i,0)=(i % (mask+1),0);rw[UR h]
 |r+1,i,h=>by
  show qB mask r ((i*5+1+0 / 32) % (mask+1),0 / 32)=(yo r (5*i+1) % (mask+1),0);rw[Nat.zero_div,Nat.add_zero,CM mask r _ (Uz _ ()),<- P5,Nat.mul_comm i 5]
def Gw (mask r)(s)(h:s.1<mask+1):(qB mask r s).1<mask+1:=by
 induction r generalizing s with
 |zero=>exact h
 |succ r a=>exact a _ (Uz _ ())
def gV (c:t.mask+1=2 ^ k)(h)(f:y<=t.mask):∃n,n<10*SetTable.turns t.mask/\(JI t n (t.probeStart h)).j=y:=by
 have hs:t.probeStart h=Kp t.mask (SetTable.bits h % (t.mask+1)) (SetTable.bits h):=rfl;have g:SetTable.bits h<2 ^ 64:=by
  grind[SetTable.bits]
 have i:=Gw t.mask 13 (SetTable.bits h % (t.mask+1),SetTable.bits h) (Uz _ ());have hp:(qB t.mask 13 (SetTable.bits h % (t.mask+1),SetTable.bits h)).2=0:=by
  grind[CL]
 have ⟨q,j,e⟩:=CK k (qB t.mask 13 (SetTable.bits h % (t.mask+1),SetTable.bits h)).1 y ();have a:qB t.mask (13+q) (SetTable.bits h % (t.mask+1),SetTable.bits h)=(y,0):=by
  rw[Gv]
  grind[CM]
 have ⟨n,l,b⟩:=Gu t (13+q) (SetTable.bits h % (t.mask+1)) (SetTable.bits h);refine⟨n,by unfold SetTable.turns;lia,?_⟩;rw[hs,b,a];rfl
def Gx {t:YE}{p:SetTable.Probe}(h:p.dummy=none):(t.advance p).dummy=none:=by
 grind[SetTable.advance]
def P7 {t:YE}{p:SetTable.Probe}(h:p.dummy=none)(n):(JI t n p).dummy=none:=by
 induction n generalizing p with
 |zero=>exact h
 |succ n a=>exact a (Gx h)
theorem Gy {t:YE}{hashAt:Nat->Int}{h:Int}:∀k fuel p,k<fuel->p.dummy=none->(∀m,m<k->∃i,t.slot (JI t m p).j=.live i)->t.slot (JI t k p).j=.empty ->
 (∃m i,m<k/\t.slot (JI t m p).j=.live i/\hashAt i=h/\SetTable.probe.go t hashAt h fuel p=some (.candidate (JI t m p).j i (JI t (m+1) p))/\∀a b,a<m->t.slot (JI t a p).j=.live b->hashAt b≠h) \/
 (SetTable.probe.go t hashAt h fuel p=some (.empty (JI t k p).j none)/\∀a b,a<k->t.slot (JI t a p).j=.live b->hashAt b≠h)
 | 0,0,p,hf,_,_,_=>()
 | 0,fuel+1,p,_,hd,_,e=>by
  have e:t.slot p.j=.empty:=e;refine .inr ⟨?_,()⟩;unfold SetTable.probe.go;rw[e,hd];rfl
 |k+1,0,p,hf,_,_,_=>()
 |k+1,fuel+1,p,hf,hd,hl,e=>by
  have ⟨i,f⟩:=hl 0 (Vb _);have f:t.slot p.j=.live i:=f;by_cases c:hashAt i=h
  .refine .inl ⟨0,i,Vb _,f,c,?_,()⟩;unfold SetTable.probe.go;rw[f];show(if(hashAt i == h)=true then _ else _)=_;rw[Zd ()];rfl
  .have j:SetTable.probe.go t hashAt h (fuel+1) p=SetTable.probe.go t hashAt h fuel (t.advance p):=by
    simp_all [SetTable.probe.go]
   rcases Gy k fuel (t.advance p) () (Gx hd) (λm l=>hl (m+1) ()) e with ⟨m,n,o,g,q,s,r⟩|⟨o,g⟩
   .refine .inl ⟨m+1,n,(),g,q,by rwa [j],λa b l hs=>?_⟩;cases a with
    |zero =>
     simp_all
    |succ a=>exact r a b () hs
   .refine .inr ⟨by rwa [j],λa b l hs=>?_⟩;cases a with
    |zero =>
     simp_all
    |succ a=>exact g a b () hs
open PySem
def zL (a:Yi):Prop:=∀i j,i<j->j<a.size->a.getD i 0<a.getD j 0
def Kq {α: Type}{a:Array α}(h)(d):a.getD i d=a[i]:=()
theorem CN (u:zL xs):∀fuel lo a,a-lo<=fuel->lo<=a->a<=xs.size->(∀i,i<lo->xs.getD i 0<j)->(∀i,a<=i->i<xs.size->j<=xs.getD i 0) ->
 SetTable.below.go xs j fuel lo a<=xs.size/\(∀i,i<SetTable.below.go xs j fuel lo a->xs.getD i 0<j)/\∀i,SetTable.below.go xs j fuel lo a<=i->i<xs.size->j<=xs.getD i 0
 | 0,lo,a,hf,hl,hs,h1,h2=>by
  have e:lo=a:=()
  subst e;unfold SetTable.below.go;exact⟨hs,h1,h2⟩
 |fuel+1,lo,a,hf,hl,hs,h1,h2=>by
  unfold SetTable.below.go;by_cases c:lo<a
  .rw[Zd c];obtain⟨m,e,l,m2,n,o⟩:=EE (k:=fuel+1) (x:=0) c hf;have f:m<xs.size:=Zg m2 hs;have h:xs.getD m j=xs.getD m 0:=by rw[Kq f,Kq f]
   show(if xs.getD ((lo+a) / 2) j<j then _ else _)<=xs.size/\(∀i,i<(if xs.getD ((lo+a) / 2) j<j then _ else _)->_)/\∀i,(if xs.getD ((lo+a) / 2) j<j then _ else _)<=i->_;rw[e];by_cases d:xs.getD m j<j
   .rw[Zd d];rw[h] at d;refine CN u fuel (m+1) a o m2 hs (λi b=>?_) h2;by_cases q:i=m
    .rw[q];exact d
    .exact Ug (u i m (UA (Uo b) q) f) d
   .rw[Ze d];rw[h] at d;refine CN u fuel lo m n l (Zz f) h1 λi b g=>?_;by_cases q:i=m
    .rw[q];exact Nat.le_of_not_lt d
    .exact Zz (UI (Nat.le_of_not_lt d) (u m i (UA b (Ne.symm q)) g))
  .rw[Ze c];have e:lo=a:=()
   subst e;exact⟨hs,h1,h2⟩
def A9 (u:zL xs)(j):SetTable.below xs j<=xs.size/\(∀i,i<SetTable.below xs j->xs.getD i 0<j)/\∀i,SetTable.below xs j<=i->i<xs.size->j<=xs.getD i 0:=
 CN u xs.size 0 xs.size () () (Zf _) () ()
def P8 (u:zL xs)(c:i<xs.size):SetTable.below xs (xs.getD i 0)=i:=by
 obtain⟨g,e,f⟩:=A9 u (xs.getD i 0);generalize SetTable.below xs (xs.getD i 0)=p at *;rcases Vc p i with q|q|q
 .have a:=u p i q c;have b:=f p (Zf _) ();lia
 .exact q
 .have:=e i q;lia
def ye (t:YE)(j:Nat):Prop:=∃i,i<t.place.size/\t.place.getD i 0=j
def Gz (j):SetTable.has #[] j=false:=rfl
def G0 {t:YE}(u:zL t.place){i j:Nat}(a:i<t.place.size)(e:t.place.getD i 0=j):t.slot j=.live i:=by
 unfold SetTable.slot;have b:SetTable.below t.place j=i:=by rw[<- e];exact P8 u a
 simp_all
def P9 (b:t.dummies = #[])(h:¬ye t j):t.slot j=.empty:=by
 unfold SetTable.slot;have c:¬(t.place[SetTable.below t.place j]? == some j)=true:=by
  intro z;have z:t.place[SetTable.below t.place j]? = some j:=by simpa using z
  obtain⟨a,e⟩:=Ju.mp z;exact h ⟨_,a,by rwa [Kq a]⟩
 simp_all [Gz]
def PB (u:zL t.place)(h:ye t j):∃i,t.slot j=.live i/\i<t.place.size/\t.place.getD i 0=j:=by
 obtain⟨i,a,e⟩:=h;exact⟨i,G0 u a e,a,e⟩
def PF {t t':YE}(h:t.mask=t'.mask)(p):t.advance p=t'.advance p:=by
 unfold SetTable.advance;rw[h]
def G1 {t t':YE}(h:t.mask=t'.mask)(n)(p):JI t n p=JI t' n p:=by
 induction n generalizing p with
 |zero=>rfl
 |succ n a=>show JI t n (t.advance p)=JI t' n (t'.advance p);rw[PF h,a]
def G2 {t t':YE}(h:t.mask=t'.mask)(x):t.probeStart x=t'.probeStart x:=by
 unfold SetTable.probeStart;rw[h]
def wT (t:YE)(o:Nat->Prop)(x:Int)(y:Nat):Prop:=∃n,(JI t n (t.probeStart x)).j=y/\∀m,m<n->o (JI t m (t.probeStart x)).j
def wT.mono {t t':YE}{o c:Nat->Prop}{x:Int}{y:Nat}(h:wT t o x y)(a:t.mask=t'.mask)(e:∀j,o j->c j):wT t' c x y:=by
 obtain⟨n,g,f⟩:=h;refine⟨n,?_,λm b=>?_⟩
 .rwa [<- G1 a,<- G2 a]
 .rw[<- G1 a,<- G2 a];exact e _ (f m b)
structure TabOk (t:YE)(hs:Array Int):Prop where
 size:t.place.size=hs.size
 up:zL t.place
 le:∀i,i<t.place.size->t.place.getD i 0<=t.mask
 nod:t.dummies = #[]
 pow:∃k,t.mask+1=2 ^ k
 room:t.place.size<=t.mask
 ways:∀i,i<t.place.size->wT t (ye t) (hs.getD i 0) (t.place.getD i 0)
def PH (u:zL xs)(hs:xs.size<=m):∃y,y<=m/\∀i,i<xs.size->xs.getD i 0≠y:=by
 by_cases h:∀i,i<xs.size->xs.getD i 0=i
 .exact⟨m,Zf _,λi j e=>()⟩
 .obtain⟨i,j,hne,hmin⟩:∃i,i<xs.size/\xs.getD i 0≠i/\∀k,k<i->xs.getD k 0=k:=by
   have g:∀n,n<=xs.size->(∀k,k<n->xs.getD k 0=k)\/∃i,i<xs.size/\xs.getD i 0≠i/\∀k,k<i->xs.getD k 0=k:=by
    intro n
    induction n with
    |zero=>intro _;exact .inl λk f=>Zn f (UJ _)
    |succ n l =>
     intro o;rcases l () with q|q
     .by_cases c:xs.getD n 0=n
      .refine .inl λk f=>?_;by_cases e:k=n
       .rwa [e]
       .exact q k ()
      .exact .inr ⟨n,(),c,q⟩
     .exact .inr q
   rcases g xs.size (Zf _) with q|q
   .exact Zn q h
   .exact q
  refine⟨i,(),λk f e=>?_⟩;rcases Vc k i with q|q|q
  .grind
  .subst q;exact hne e
  .have a:=u i k q f;have b:i<=xs.getD i 0:=by
    cases i with
    |zero=>exact Ua _
    |succ i =>
     have:=u i (i+1) () j;have:=hmin i ();lia
   lia
def PJ (T:TabOk t hs)(x):∃n,n<10*SetTable.turns t.mask/\(∀m,m<n->ye t (JI t m (t.probeStart x)).j)/\¬ye t (JI t n (t.probeStart x)).j:=by
 obtain⟨k,g⟩:=T.pow;obtain⟨y,h,j⟩:=PH T.up T.room;obtain⟨n,b,e⟩:=gV g x h;have a:¬ye t (JI t n (t.probeStart x)).j:=by
  rw[e];rintro⟨i,l,q⟩;exact j i l q
 have f:∀d n,n<=d->n<10*SetTable.turns t.mask->¬ye t (JI t n (t.probeStart x)).j->∃n,n<10*SetTable.turns t.mask/\(∀m,m<n->ye t (JI t m (t.probeStart x)).j)/\¬ye t (JI t n (t.probeStart x)).j:=by
  intro d
  induction d with
  |zero =>
   grind
  |succ d o =>
   intro n s b a;by_cases c:∀m,m<n->ye t (JI t m (t.probeStart x)).j
   .exact⟨n,b,c,a⟩
   .have ⟨m,p⟩:=Classical.not_forall.mp c;have ⟨u,r⟩:=Classical.not_imp.mp p;exact o m () () r
 exact f n n (Zf _) b a
def CO {α: Type}(a:Array α)(hp:p<=a.size)(x):(SetTable.insertAt a p x).size=a.size+1:=by
 grind[SetTable.insertAt]
def G3 {α: Type}(a:Array α)(hp:p<=a.size)(x d)(i):(SetTable.insertAt a p x).getD i d=if i<p then a.getD i d else if i=p then x else a.getD (i-1) d:=by
 unfold SetTable.insertAt;simp only[VX]
 grind
def PK (T:TabOk t hs)(v:y<=t.mask)(w:¬ye t y)(A:wT t (ye t) x y)(F:t.place.size+1<=t.mask):TabOk (t.put y).1 (SetTable.insertAt hs (t.put y).2 x)/\(t.put y).2<=hs.size/\(t.put y).1.mask=t.mask:=by
 obtain⟨b1,b2,B⟩:=A9 T.up y;have hp:(t.put y).2=SetTable.below t.place y:=rfl;have a:(t.put y).1.place=SetTable.insertAt t.place (SetTable.below t.place y) y:=rfl;have b:(t.put y).1.mask=t.mask:=rfl;have m:(t.put y).1.dummies = #[]:=by
  show(if SetTable.has t.dummies y then SetTable.eraseAt t.dummies (SetTable.below t.dummies y) else t.dummies)=_;rw[T.nod,Gz];rfl
 rw[hp];have C:∀i,SetTable.below t.place y<=i->i<t.place.size->y<t.place.getD i 0:=λi E q=>by
  have:=B i E q;have:t.place.getD i 0≠y:=λz=>w ⟨i,q,z⟩;lia
 generalize SetTable.below t.place y=p at *;have sz:(SetTable.insertAt t.place p y).size=t.place.size+1:=CO _ b1 _;have h:=G3 t.place b1 y 0;have n:∀j,ye t j->ye (t.put y).1 j:=by
  rintro j ⟨i,l,e⟩;by_cases c:i<p
  .exact⟨i,by rw[a,sz];lia,by rw[a,h,Zd c];exact e⟩
  .exact⟨i+1,by rw[a,sz];lia,by rw[a,h,Ze (),Ze (),Nat.add_sub_cancel];exact e⟩
 have hsz:=T.size;refine⟨⟨?_,?_,?_,m,by rw[b];exact T.pow,(),?_⟩,(),b⟩
 .rw[a,sz,CO _ ()];lia
 .intro i j o r;rw[a] at r ⊢;rw[sz] at r;rw[h,h];by_cases f:j<p
  .rw[Zd f,Zd ()];exact T.up i j o ()
  .rw[Ze f];by_cases g:j=p
   .rw[Zd g,Zd ()];exact b2 i ()
   .rw[Ze g];by_cases s:i<p
    .rw[Zd s];exact T.up i (j-1) () ()
    .rw[Ze s];by_cases u:i=p
     .rw[Zd u];exact C (j-1) () ()
     .rw[Ze u];exact T.up (i-1) (j-1) (Nat.sub_lt_sub_right () (by assumption)) ()
 .intro i l;rw[a] at l ⊢;rw[sz] at l;rw[h,b]
  split
  .exact T.le i ()
  .split
   .exact v
   .exact T.le (i-1) ()
 .intro i l;rw[a] at l ⊢;rw[sz] at l;rw[h,G3 hs () x 0];by_cases f:i<p
  .rw[Zd f,Zd f];exact(T.ways i ()).mono b.symm n
  .rw[Ze f,Ze f];by_cases g:i=p
   .rw[Zd g,Zd g];exact A.mono b.symm n
   .rw[Ze g,Ze g];exact(T.ways (i-1) ()).mono b.symm n
open PySem
theorem AA (t)(i pert):∀k,k<=SetTable.runEnd t.mask i-i->JI t k (Kp t.mask i pert)={ j:=i+k,more:=SetTable.runEnd t.mask i-i-k,i:=i,perturb:=pert,dummy:=none }
 | 0,_=>rfl
 |k+1,h=>by
  rw[P6,AA t i pert k ()]
  grind[SetTable.advance]
def CP {mask i:Nat}(h:i<=mask):i<=SetTable.runEnd mask i/\SetTable.runEnd mask i<=mask:=by
 grind[SetTable.runEnd]
def xQ (owner:Array (Option Nat))(j:Nat):Prop:=∃i,owner.getD j none=some i
theorem G4 {t:YE}{owner:Array (Option Nat)}(hs:owner.size=t.mask+1):∀fuel i pert y,i<=t.mask->SetTable.layClean.free t.mask owner fuel i pert=some y ->
 y<=t.mask/\owner.getD y none=none/\∃n,(JI t n (Kp t.mask i pert)).j=y/\∀m,m<n->xQ owner (JI t m (Kp t.mask i pert)).j
 | 0,i,pert,y,_,h=>by unfold SetTable.layClean.free at h;exact J6 h
 |fuel+1,i,pert,y,hi,h=>by
  have j:=CP hi;unfold SetTable.layClean.free at h;have l:∀{k},k<SetTable.runEnd t.mask i+1-i->k<=SetTable.runEnd t.mask i-i:=λa=>by
   rw[Nat.succ_sub j.1] at a;exact Uo a
  have o:∀{k},k<SetTable.runEnd t.mask i+1-i->i+k<owner.size:=λa=>by
   rw[hs];exact Nat.lt_succ_of_le (Zh (Nat.add_le_of_le_sub' j.1 (l a)) j.2)
  have e:∀k,k<SetTable.runEnd t.mask i+1-i->owner.getD (i+k) (some 0)=owner.getD (i+k) none:=λk a=>by
   rw[Kq (o a),Kq (o a)]
  have bz:∀k,k<SetTable.runEnd t.mask i+1-i->(!(owner.getD (i+k) (some 0)).isNone)=true->xQ owner (i+k):=λk a p=>by
   rw[e k a] at p;unfold xQ;cases q:owner.getD (i+k) none with
   |none=>rw[q] at p;exact JF p
   |some v=>exact⟨v,rfl⟩
  split at h
  .rename_i k a;obtain⟨r,b,s⟩:=List.find?_range_eq_some.mp a;have b:=Jj.mp b;obtain rfl:=Zqi h;refine⟨Uo (by have:=o b;rwa [hs] at this),?_,k,?_,λm f=>?_⟩
   .rw[e k b] at r;cases q:owner.getD (i+k) none with
    |none=>rfl
    |some v=>rw[q] at r;exact JF r
   .rw[AA t i pert k (l b)]
   .rw[AA t i pert m (l (Ug f b))];exact bz m (Ug f b) (s m f)
  .rename_i a;have s:=Jw.mp a;have w:(SetTable.leap t.mask i pert).1<=t.mask:=Jn.mp (Uz _ (Vb _));obtain⟨x,z,n,A,B⟩:=G4 hs fuel _ _ y w h;have g:=Gs t (SetTable.runEnd t.mask i-i) (Kp t.mask i pert) rfl rfl;have g:JI t (SetTable.runEnd t.mask i-i+1) (Kp t.mask i pert)=Kp t.mask (SetTable.leap t.mask i pert).1 (SetTable.leap t.mask i pert).2:=g;refine⟨x,z,SetTable.runEnd t.mask i-i+1+n,by rw[Y6,g];exact A,λm f=>?_⟩;by_cases c:m<=SetTable.runEnd t.mask i-i
   .rw[AA t i pert m c];exact bz m () (s m ())
   .obtain⟨u,rfl⟩:∃u,m=SetTable.runEnd t.mask i-i+1+u:=⟨m-(SetTable.runEnd t.mask i-i+1),()⟩;rw[Y6,g];exact B u ()
theorem G8 {mask:Nat}{owner:Array (Option Nat)}(hs:owner.size=mask+1):∀fuel i pert,i<=mask->SetTable.layClean.free mask owner fuel i pert=none->∀r,r<fuel->xQ owner (qB mask r (i,pert)).1
 | 0,i,pert,_,_,r,hr=>Zn hr (UJ _)
 |fuel+1,i,pert,hi,h,r,hr=>by
  have a:=CP hi;unfold SetTable.layClean.free at h
  split at h
  .cases h
  .rename_i b;have c:(SetTable.leap mask i pert).1<=mask:=Jn.mp (Uz _ (Vb _));cases r with
   |zero =>
    have f:=(Jw.mp b) 0 ();have e:owner.getD (i+0) (some 0)=owner.getD i none:=by grind
    rw[e] at f;show xQ owner i;unfold xQ;cases q:owner.getD i none with
    |none=>simp_all
    |some v=>simp
   |succ r=>exact G8 hs fuel _ _ c h r ()
def PL {mask k:Nat}(a:mask+1=2 ^ k)(h){y:Nat}(b:y<=mask):∃r,r<SetTable.turns mask/\(qB mask r (SetTable.bits h % (mask+1),SetTable.bits h)).1=y:=by
 have c:SetTable.bits h<2 ^ 64:=by
  grind[SetTable.bits]
 have f:=Gw mask 13 (SetTable.bits h % (mask+1),SetTable.bits h) (Uz _ ());have hp:(qB mask 13 (SetTable.bits h % (mask+1),SetTable.bits h)).2=0:=by
  grind[CL]
 have ⟨q,g,e⟩:=CK k (qB mask 13 (SetTable.bits h % (mask+1),SetTable.bits h)).1 y ();refine⟨13+q,by unfold SetTable.turns;lia,?_⟩;rw[Gv]
 grind[CM]
structure LayOk (t:YE)(owner:Array (Option Nat))(hs:Yh):Prop where
 size:owner.size=t.mask+1
 lt:∀j i,owner.getD j none=some i->i<hs.length
 one:∀j j' i,owner.getD j none=some i->owner.getD j' none=some i->j=j'
 all:∀i,i<hs.length->∃j,j<=t.mask/\owner.getD j none=some i/\wT t (xQ owner) (hs.getD i 0) j
def PM {f:Nat->Nat}{n:Nat}(h:∀a b,a<n->b<n->f a=f b->a=b):((List.range n).map f).Nodup:=by
 grind[List.pairwise_map,List.Pairwise.imp_of_mem,List.nodup_range]
def PN {t:YE}{owner:Array (Option Nat)}{hs:Yh}(L:LayOk t owner hs)(p:hs.length<=t.mask):∃y,y<=t.mask/\owner.getD y none=none:=by
 apply Classical.byContradiction;intro j;have g:∀y,y<t.mask+1->∃i,owner.getD y none=some i:=λy h=>by
  cases q:owner.getD y none with
  |none=>grind
  |some i=>simp
 have l:((List.range (t.mask+1)).map λy=>(owner.getD y none).getD 0).Nodup:=PM λa b m n e=>by
  obtain⟨i,c⟩:=g a m;obtain⟨o,f⟩:=g b n;rw[c,f] at e;have e:i=o:=e;subst e;exact L.one a b i c f
 have sub:((List.range (t.mask+1)).map λy=>(owner.getD y none).getD 0) ⊆ List.range hs.length:=λz hz=>by
  obtain⟨y,h,rfl⟩:=Ja.mp hz;obtain⟨i,c⟩:=g y (Jj.mp h);rw[c];exact Jj.mpr (L.lt y i c)
 have:=VY l sub
 grind
def PP {owner:Array (Option Nat)}{y:Nat}(a:y<owner.size)(v)(j):(owner.setIfInBounds y v).getD j none=if j=y then v else owner.getD j none:=by
 simp
 grind
def PQ {t:YE}{owner:Array (Option Nat)}{hs:Yh}(L:LayOk t owner hs)(x:hs.length<=t.mask)(hp:∃k,t.mask+1=2 ^ k)(h):
 ∃y,SetTable.layClean.free t.mask owner (SetTable.turns t.mask) (SetTable.bits h % (t.mask+1)) (SetTable.bits h)=some y/\LayOk t (owner.setIfInBounds y (some hs.length)) (hs++[h]):=by
 have p:SetTable.bits h % (t.mask+1)<=t.mask:=Jn.mp (Uz _ (Vb _));cases q:SetTable.layClean.free t.mask owner (SetTable.turns t.mask) (SetTable.bits h % (t.mask+1)) (SetTable.bits h) with
 |none =>
  obtain⟨k,A⟩:=hp;obtain⟨y,B,C⟩:=PN L x;obtain⟨r,E,e⟩:=PL A h B;obtain⟨i,hz⟩:=G8 L.size _ _ _ p q r E;rw[e,C] at hz;exact J6 hz
 |some y =>
  obtain⟨F,s,n,G,H⟩:=G4 L.size _ _ _ y p q;have l:=PP (owner:=owner) (y:=y) (by rw[L.size];lia) (some hs.length);have u:∀j,xQ owner j->xQ (owner.setIfInBounds y (some hs.length)) j:=by
   rintro j ⟨i,f⟩;refine⟨i,?_⟩;rw[l,Ze λz=>by rw[z,s] at f;cases f];exact f
  refine⟨y,rfl,⟨by rw[Array.size_setIfInBounds];exact L.size,λj i f=>?_,λj v i f g=>?_,λi o=>?_⟩⟩
  .rw[Ub,Ur];rw[l] at f
   split at f
   .simp_all
   .have:=L.lt j i f;lia
  .rw[l] at f g
   split at f
   .rename_i a;obtain rfl:=Zqi f
    split at g
    .rename_i b;rw[a,b]
    .have:=L.lt v _ g;lia
   .split at g
    .obtain rfl:=Zqi g;have:=L.lt j _ f;lia
    .exact L.one j v i f g
  .rw[Ub,Ur] at o;by_cases c:i<hs.length
   .have ⟨j,I,w,J⟩:=L.all i c;refine⟨j,I,?_,?_⟩
    .rwa [l,Ze λz=>by rw[z,s] at w;cases w]
    .have e:(hs++[h]).getD i 0=hs.getD i 0:=by
      rw[Us,Us,UX c]
     rw[e];exact J.mono rfl u
   .have e:i=hs.length:=()
    subst e;refine⟨y,F,by rw[l,Zd rfl],?_⟩;have e:(hs++[h]).getD hs.length 0=h:=by
     rw[Us,UY (Zf _),Nat.sub_self];rfl
    rw[e];exact⟨n,G,λm K=>u _ (H m K)⟩
theorem G9 {t:YE}(hp:∃k,t.mask+1=2 ^ k):∀rest hs owner,LayOk t owner hs->hs.length+rest.length<=t.mask+1 ->
 ∃a,rest.foldl (init:=some (owner,hs.length)) (λb h=>do
  let (owner,k) <- b
  let j <- SetTable.layClean.free t.mask owner (SetTable.turns t.mask) (SetTable.bits h % (t.mask+1)) (SetTable.bits h)
  pure (owner.setIfInBounds j (some k),k+1))=some (a,hs.length+rest.length)/\LayOk t a (hs++rest)
 | [],hs,owner,L,_=>by grind
 |h::rest,hs,owner,L,hl=>by
  rw[Zu] at hl;obtain⟨y,e,c⟩:=PQ L () hp h;obtain⟨f,g,i⟩:=G9 hp rest (hs++[h]) _ c ()
  grind
def PR {t:YE}(hp:∃k,t.mask+1=2 ^ k)(hs)(b:hs.size<=t.mask+1):∃owner,SetTable.layClean t.mask hs=some owner/\LayOk t owner hs.toList:=by
 have a:LayOk t (Array.replicate (t.mask+1) none) []:=by
  have z:∀j i,(Array.replicate (t.mask+1) (none:Option Nat)).getD j none≠some i:=λj i h=>by
   simp[Array.getElem?_replicate] at h
   split at h<;>exact J6 h
  exact⟨(),(),(),()⟩
 have ⟨o,e,L⟩:=G9 hp hs.toList [] _ a ()
 simp_all [SetTable.layClean]
open PySem
def PU {owner:Array (Option Nat)}{j i:Nat}(h:owner.getD j none=some i):j<owner.size:=()
def KG (mask:Nat)(owner:Array (Option Nat)):List (Nat×Nat):=(List.range (mask+1)).filterMap λj=>(owner.getD j none).map (j,·)
def PX:p∈KG mask owner↔p.1<=mask/\owner.getD p.1 none=some p.2:=by
 unfold KG;rw[List.mem_filterMap];constructor
 .rintro⟨j,a,e⟩;obtain⟨i,b,e⟩:=Jk.mp e;subst e;exact⟨Jn.mp (Jj.mp a),b⟩
 grind
def PY (mask)(owner):(KG mask owner).Pairwise λa b=>a.1<b.1:=by
 unfold KG;rw[List.pairwise_filterMap];refine List.pairwise_lt_range.imp λ{a b} c x e y f=>?_;obtain⟨i,_,rfl⟩:=Jk.mp e;obtain⟨g,_,rfl⟩:=Jk.mp f;exact c
def CQ {α: Type}(l:List α)(i)(d):l.toArray.getD i d=l.getD i d:=()
def CS {α β: Type}(l:List α)(f:α -> β)(i)(hi)(d):(l.map f).getD i d=f l[i]:=()
def PZ {mask:Nat}(hp:∃k,mask+1=2 ^ k)(hs)(S:hs.size<=mask)(finger moves)(led plain):
 ∃t' c,SetTable.laid mask finger moves led plain hs=some (t',c)/\t'.mask=mask/\t'.moves=moves/\t'.led=led/\t'.plain=plain/\t'.finger=finger/\c.size=hs.size/\(∀k,k<c.size->c.getD k 0<hs.size)/\(∀k l,k<c.size->l<c.size->c.getD k 0=c.getD l 0->k=l)/\(∀i,i<hs.size->∃k,k<c.size/\c.getD k 0=i)/\TabOk t' (c.map λi=>hs.getD i 0):=by
 let C:YE:={ mask:=mask,place:=#[],dummies:=#[],finger:=0,led:=false,moves:=0,plain:=true }
 obtain⟨owner,e,L⟩:=PR (t:=C) hp hs ();have e:SetTable.layClean mask hs=some owner:=e;have hsz:owner.size=mask+1:=L.size;have mem:=λp=>PX (mask:=mask) (owner:=owner) (p:=p);have B:=PY mask owner;have x:((KG mask owner).map (·.2)).Nodup:=by
  unfold List.Nodup;rw[U4];refine List.Pairwise.imp_of_mem (λ{a b} E F G n=>?_) B;have m:=((mem a).mp E).2;have u:=((mem b).mp F).2;rw[n] at m;have:=L.one _ _ _ m u;lia
 have v:((KG mask owner).map (·.2)) ⊆ List.range hs.size:=λz hz=>by
  obtain⟨p,hp,rfl⟩:=Ja.mp hz;have:=L.lt _ _ ((mem p).mp hp).2;exact Jj.mpr (by simpa using this)
 have o:List.range hs.size ⊆ ((KG mask owner).map (·.2)):=λi g=>by
  obtain⟨j,m,u,_⟩:=L.all i (by simpa using Jj.mp g);exact Ja.mpr ⟨(j,i),(mem (j,i)).mpr ⟨m,u⟩,rfl⟩
 have len:(KG mask owner).length=hs.size:=by
  have a:=VY x v;have b:=VY List.nodup_range o;rw[Zql,ZB] at a b;lia
 have H:SetTable.laid mask finger moves led plain hs=some ({ mask:=mask,place:=((KG mask owner).map (·.1)).toArray,dummies:=#[],finger:=finger,led:=led,moves:=moves,plain:=plain },((KG mask owner).map (·.2)).toArray):=by
  unfold SetTable.laid;rw[e];rfl
 generalize I:KG mask owner=lv at *;have w:∀i g,((lv.map (·.1)).toArray).getD i 0=lv[i].1:=λi g=>by rw[CQ,CS _ _ _ g]
 have go:∀i g,((lv.map (·.2)).toArray).getD i 0=lv[i].2:=λi g=>by rw[CQ,CS _ _ _ g]
 have r:=Ji.mp B;refine⟨_,_,H,rfl,rfl,rfl,rfl,rfl,by simpa using len,λk f=>?_,λk l f h n=>?_,λi g=>?_,?_⟩
 .have f:k<lv.length:=by simpa using f
  rw[go k f];have:=L.lt _ _ ((mem lv[k]).mp (Uu f)).2;simpa using this
 .have f:k<lv.length:=by simpa using f
  have h:l<lv.length:=by simpa using h
  rw[go k f,go l h] at n;have m:=((mem lv[k]).mp (Uu f)).2;have u:=((mem lv[l]).mp (Uu h)).2;rw[n] at m;have T:=L.one _ _ _ m u;rcases Vc k l with q|q|q
  .have:=r k l f h q;lia
  .exact q
  .have:=r l k h f q;lia
 .obtain⟨p,hp,n⟩:=Ja.mp (o (Jj.mpr g));obtain⟨k,f,rfl⟩:=UG hp;exact⟨k,by simpa using f,by rw[go k f];exact n⟩
 .have J:∀j,xQ owner j->ye { mask:=mask,place:=(lv.map (·.1)).toArray,dummies:=#[],finger:=finger,led:=led,moves:=moves,plain:=plain } j:=by
   rintro j ⟨i,s⟩;have K:=PU s;have M:(j,i)∈lv:=(mem (j,i)).mpr ⟨by show j<=mask;lia,s⟩;obtain⟨k,f,n⟩:=UG M;exact⟨k,by simpa using f,by show((lv.map (·.1)).toArray).getD k 0=j;rw[w k f,n]⟩
  refine⟨(),λi j y s=>?_,λi g=>?_,rfl,hp,by show((lv.map (·.1)).toArray).size<=mask;simp;lia,λk f=>?_⟩
  .have s:j<lv.length:=by simpa using s
   show((lv.map (·.1)).toArray).getD i 0<((lv.map (·.1)).toArray).getD j 0;rw[w i (),w j s];exact r i j () s y
  .have g:i<lv.length:=by simpa using g
   show((lv.map (·.1)).toArray).getD i 0<=mask;rw[w i g];exact((mem lv[i]).mp (Uu g)).1
  .have f:k<lv.length:=by simpa using f
   have m:=((mem lv[k]).mp (Uu f)).2;have A:=L.lt _ _ m;obtain⟨j,U,N,O⟩:=L.all lv[k].2 A;have P:=L.one _ _ _ N m;subst P;have Q:(((lv.map (·.2)).toArray).map λi=>hs.getD i 0).getD k 0=hs.toList.getD lv[k].2 0:=by
    have R:((lv.map (·.2)).toArray).map (λi=>hs.getD i 0)=((lv.map (·.2)).map λi=>hs.getD i 0).toArray:=by simp
    rw[R,CQ,Zw,CS _ _ _ f];show hs.getD lv[k].2 0=_;rw[VX,Us,Vl]
   rw[Q];show wT _ _ _ (((lv.map (·.1)).toArray).getD k 0);rw[w k f];exact O.mono rfl J
theorem GA:∀fuel a n,(∃k,a=2 ^ k)->n<a*2 ^ fuel->(∃k,SetTable.sizeAbove.go n fuel a=2 ^ k)/\n<SetTable.sizeAbove.go n fuel a
 | 0,a,n,hp,h=>by
  simp_all [SetTable.sizeAbove.go]
 |fuel+1,a,n,⟨k,hk⟩,h=>by
  unfold SetTable.sizeAbove.go
  split
  .exact GA fuel (a*2) n ⟨k+1,()⟩ ()
  grind
def GB (h:n<1000000000):(∃k,SetTable.sizeAbove n=2 ^ k)/\n<SetTable.sizeAbove n:=
 GA 64 8 n ⟨3,rfl⟩ (Zg h (by decide))
theorem GC:∀fuel a n,a<=2*n+8->SetTable.sizeAbove.go n fuel a<=2*n+8
 | 0,a,n,h=>h
 |fuel+1,a,n,h=>by
  unfold SetTable.sizeAbove.go
  split
  .exact GC fuel (a*2) n ()
  lia
def Ra (n):SetTable.sizeAbove n<=2*n+8:=GC 64 8 n ()
def Rb {t:YE}{hs:Array Int}{wanted:Nat}(r:hs.size<=wanted)(f:wanted<1000000000):
 ∃t' a,t.relaid hs wanted=some (t',a)/\t'.led=t.led/\t'.plain=t.plain/\t'.mask+1=SetTable.sizeAbove wanted/\a.size=hs.size/\(∀k,k<a.size->a.getD k 0<hs.size)/\(∀k b,k<a.size->b<a.size->a.getD k 0=a.getD b 0->k=b)/\(∀i,i<hs.size->∃k,k<a.size/\a.getD k 0=i)/\TabOk t' (a.map λi=>hs.getD i 0):=by
 obtain⟨⟨k,s⟩,g⟩:=GB f;have h:SetTable.sizeAbove wanted-1+1=SetTable.sizeAbove wanted:=()
 obtain⟨t',a,e,j,_,l,m,_,n,o,p,q,c⟩:=PZ ⟨k,by rwa [h]⟩ hs () t.finger (t.movedTo (SetTable.sizeAbove wanted-1)) t.led t.plain;exact⟨t',a,e,l,m,by rwa [j],n,o,p,q,c⟩
open PySem
variable {prog:Program}{w:World}{A:Around}{E:Ya}{s:Shared}
theorem TabOk.fits {t:YE}{es:Array (Int×Value)}(T:TabOk t (es.map (·.1))):t.fits es.size=true:=by
 have a:=T.size;rw[Uj] at a;unfold SetTable.fits SetTable.fill;rw[T.nod];simp[a,show es.size<=t.mask by have:=T.room;lia]
def GD {es:Array (Int×Value)}{i:Nat}(hi):(es.map (·.1)).getD i 0=es[i].1:=()
def CT {es:Array (Int×Value)}{i:Nat}(hi):(es[i]?.map (·.1)).getD 0=es[i].1:=()
def V5 (t:YE)(p:SetTable.Probe):Prop:=p.j+p.more<=t.mask
def GE (t)(h:i<=t.mask):V5 t (Kp t.mask i pert):=by
 have:=CP h;show i+(SetTable.runEnd t.mask i-i)<=t.mask;lia
def Rc (h:V5 t p):V5 t (t.advance p):=by
 unfold V5 at h;unfold SetTable.advance
 split
 .show p.j+1+(p.more-1)<=t.mask;lia
 .have a:(SetTable.leap t.mask p.i p.perturb).1<=t.mask:=Jn.mp (Uz _ (Vb _));exact GE t (pert:=(SetTable.leap t.mask p.i p.perturb).2) a
def Re (h:V5 t p)(n):V5 t (JI t n p):=by
 induction n generalizing p with
 |zero=>exact h
 |succ n a=>exact a (Rc h)
def Rf (t)(h):V5 t (t.probeStart h):=GE t (Jn.mp (Uz _ (Vb _)))
def Rg (h:V5 t p)(n):(JI t n p).j<=t.mask:=by
 have:=Re h n
 grind[V5]
theorem GF {a:Addr}{o:Obj}{es:Array (Int×Value)}{ep:Nat}{t:YE}{x:Value}{h:Int}{same:Value->Bool}{Q:SetFound->YC}{e:Nat}
 (O:s.heap.get? a=some o) (P:o.data=.set es ep t) (T:TabOk t (es.map (·.1))) (u:t.mask % 2=1)
 (hq:∀i (l:i<es.size),es[i].1=h->∀Q:Bool->YC,Q (same es[i].2) s->YK prog w A (eqBool es[i].2 x) Q E s)
 (hr:∀i (l:i<es.size),∃b,es[i].2=.ref b)
 (hsn:t.led=true\/∀Q:Bool->YC,Q false s->YK prog w A (searchCouldBeSeen x ((es.filter (·.1 == h)).toList.map (·.2))) Q E s)
 (he:e<10*SetTable.turns t.mask) (H:∀m,m<e->ye t (JI t m (t.probeStart h)).j) (r:¬ye t (JI t e (t.probeStart h)).j)
 (I:∀i (l:i<es.size),es[i].1=h->same es[i].2=true->Q (.there none) s)
 (v:(∀i (l:i<es.size),es[i].1=h->same es[i].2=false)->Q (.free (JI t e (t.probeStart h)).j false) s):
 ∀fuel c st,c<=e->e-c<fuel->st.getD (t.probeStart h)=JI t c (t.probeStart h) ->
  (∀m i l,m<c->t.slot (JI t m (t.probeStart h)).j=.live i->es[i].1=h->same es[i].2=false) ->
  YK prog w A (setSearchFrom a x h true fuel st) Q E s
 | 0,c,st,hc,hf,_,_=>Zn hf (UJ _)
 |fuel+1,c,st,hc,hf,hst,hno=>by
  have hsz:t.place.size=es.size:=by have:=T.size;rwa [Uj] at this
  show wpAny _ _ (_ >>= _) _ _ _;refine Za (wpAny_setState_of O P T.fits ?_);dsimp only;have hg:t.gaveWay=false:=by unfold SetTable.gaveWay;rw[u];rfl
  rw[hg];simp only[UC,if_false];have live:∀m,m<e->∃i,t.slot (JI t m (t.probeStart h)).j=.live i/\i<es.size/\t.place.getD i 0=(JI t m (t.probeStart h)).j:=λm hm=>by
   obtain⟨i,h1,h2,h3⟩:=PB T.up (H m hm);exact⟨i,h1,(),h3⟩
  have step:∀m,JI t m (JI t c (t.probeStart h))=JI t (c+m) (t.probeStart h):=λm=>(Y6 t c m _).symm;have F:∀g:Nat->Int,(∀i,g i=(es[i]?.map (·.1)).getD 0)->(∃m i,c<=m/\m<e/\t.slot (JI t m (t.probeStart h)).j=.live i/\g i=h/\t.probe g h (st.getD (t.probeStart h))=some (.candidate (JI t m (t.probeStart h)).j i (JI t (m+1) (t.probeStart h)))/\∀f j,c<=f->f<m->t.slot (JI t f (t.probeStart h)).j=.live j->g j≠h) \/
   (t.probe g h (st.getD (t.probeStart h))=some (.empty (JI t e (t.probeStart h)).j none)/\∀f j,c<=f->f<e->t.slot (JI t f (t.probeStart h)).j=.live j->g j≠h):=λg _=>by
   rw[hst];have sd:(JI t c (t.probeStart h)).dummy=none:=P7 rfl c;have ek:c+(e-c)=e:=()
   rcases Gy (t:=t) (hashAt:=g) (h:=h) (e-c) (10*SetTable.turns t.mask) (JI t c (t.probeStart h)) () sd () (by rw[step,ek];exact P9 T.nod r) with ⟨m,i,g1,g2,g3,g4,g5⟩|⟨g1,g2⟩
   .rw[step] at g2 g4;rw[step] at g4;refine .inl ⟨c+m,i,(),(),g2,g3,g4,λf j a1 a2 R=>g5 (f-c) j () (by rw[step,show c+(f-c)=f by lia];exact R)⟩
   .rw[step,ek] at g1;exact .inr ⟨g1,λf j a1 a2 R=>g2 (f-c) j () (by rw[step,show c+(f-c)=f by lia];exact R)⟩
  generalize B:t.probe _ h (st.getD (t.probeStart h))=met;have J:∀i l,es[i].1=h->∃m,m<e/\t.slot (JI t m (t.probeStart h)).j=.live i:=λi l C=>by
   obtain⟨n,S,n2⟩:=T.ways i ();rw[GD l,C] at S n2;refine⟨n,?_,by rw[S];exact G0 T.up () rfl⟩;rcases Vc n e with q|q|q
   .exact q
   .subst q;exact Zn ⟨i,(),S.symm⟩ r
   .exact Zn (n2 e q) r
  rcases F _ (λi=>rfl) with ⟨m,i,c1,U,X,c4,c5,c6⟩|⟨c1,U⟩
  .have Y:=B.symm.trans c5;subst Y;obtain⟨i2,k1,k2,k3⟩:=live m U;rw[X] at k1;cases k1;have C:es[i].1=h:=by rw[<- CT k2];exact c4
   dsimp only;have rest:YK prog w A (do
    let some (_,y):=es[i]? | unsupported "internal:set-entry"
    let p <- holding [y] (eqBool y x)
    let (es',_,t') <- setState a
    if true&&p then return SetFound.there none
    let some same:=t'.sameMemory t.moves t.mask|unsupported "set.changed-during-lookup:is-the-new-block-at-the-old-address"
    let G <- match (if same then t'.slot (JI t m (t.probeStart h)).j else .empty) with
     | .live j=>match es'[j]? with
      |some (_,y')=>do pure (if <- isSame y' y then some j else none)
      |none=>pure none
     |_=>pure none
    match G with
    |none=>rule "set.search.anew";setSearchFrom a x h true fuel none
    |some j=>if p then return .there (some j) else setSearchFrom a x h true fuel (some (JI t (m+1) (t.probeStart h)))) Q E s:=by
    rw[Uy k2];dsimp only;refine Za (wpAny_holding (hq i k2 C _ ?_));refine Za (wpAny_setState_of O P T.fits ?_);dsimp only;cases hs:same es[i].2 with
    |true =>
     simp only[Bool.and_self,if_true];exact Zb (I i k2 C hs)
    |false =>
     simp only[Bool.and_false,UC,if_false];have Z:t.sameMemory t.moves t.mask=some true:=by unfold SetTable.sameMemory;rw[Zd (beq_self_eq_true _)]
     rw[Z];dsimp only;simp only[if_true];rw[X];dsimp only;rw[Uy k2];dsimp only;obtain⟨b,hb⟩:=hr i k2;have his:∀{Q':Bool->YC},Q' true s->YK prog w A (isSame es[i].2 es[i].2) Q' E s:=λ{Q'} hq'=>by
      rw[hb];unfold isSame;dsimp only;rw[Zd (beq_self_eq_true _)];exact Zb hq'
     refine Za (his ?_);simp only[if_true];refine Za (Zb ?_);dsimp only;refine GF O P T u hq hr hsn he H r I v fuel (m+1) _ () () rfl λf j K hm' N L=>?_;by_cases d1:f<c
     .exact hno f j K d1 N L
     .by_cases d2:f=m
      .subst d2;rw[X] at N;cases N;exact hs
      .exact Zn (by rw[CT K];exact L) (c6 f j () () N)
   cases M:t.led with
   |true =>
    rw[Ze ()];exact rest
   |false =>
    rw[Zd ()];rcases hsn with z|hsn
    .rw[z] at M;cases M
    .refine Za (hsn _ ?_);rw[Ze ()];exact rest
  .have Y:=B.symm.trans c1;subst Y;dsimp only;refine Zb (v λi l C=>?_);obtain⟨m,m1,m2⟩:=J i l C;by_cases d1:m<c
   .exact hno m i l d1 m2 C
   .exact Zn (by rw[CT l];exact C) (U m i () m1 m2)
def Rh {a:Addr}{o:Obj}{es:Array (Int×Value)}{ep:Nat}{t:YE}{x:Value}{h:Int}{same:Value->Bool}{Q:SetFound->YC}
 (p:s.heap.get? a=some o) (q:o.data=.set es ep t) (T:TabOk t (es.map (·.1))) (c:t.mask % 2=1) (B:t.mask<=9000)
 (r:∀i (l:i<es.size),es[i].1=h->∀Q:Bool->YC,Q (same es[i].2) s->YK prog w A (eqBool es[i].2 x) Q E s)
 (u:∀i (l:i<es.size),∃b,es[i].2=.ref b)
 (m:t.led=true\/∀Q:Bool->YC,Q false s->YK prog w A (searchCouldBeSeen x ((es.filter (·.1 == h)).toList.map (·.2))) Q E s)
 (n:∀i (l:i<es.size),es[i].1=h->same es[i].2=true->Q (.there none) s)
 (f:(∀i (l:i<es.size),es[i].1=h->same es[i].2=false)->∀y,y<=t.mask->¬ye t y->wT t (ye t) h y->Q (.free y false) s):
 YK prog w A (setSearch a x h true) Q E s:=have ⟨e,v,g,j⟩:=PJ T h;GF p q T c r u m v g j n (λz=>f z _ (Rg (Rf t h) e) j ⟨e,rfl,g⟩) 100000 0 none (Ua _) (by grind[SetTable.turns]) rfl ()
open PySem
theorem GG:∀fuel a n,a<=SetTable.sizeAbove.go n fuel a
 | 0,a,n=>by simp_all [SetTable.sizeAbove.go]
 |fuel+1,a,n=>by
  unfold SetTable.sizeAbove.go
  split
  .exact Zh () (GG fuel (a*2) n)
  .exact Zf _
def Ri (n):8<=SetTable.sizeAbove n:=GG 64 8 n
def Rj {m k:Nat}(h:m+1=2 ^ k)(a:7<=m):m % 2=1:=by
 cases k with
 |zero=>lia
 |succ k=>lia
def Rk {b:Yi}{n:Nat}(o:∀k,k<b.size->b.getD k 0<n)(p:∀k m,k<b.size->m<b.size->b.getD k 0=b.getD m 0->k=m)(q:∀i,i<n->∃k,k<b.size/\b.getD k 0=i):b.toList.Perm (List.range n):=by
 have r:b.toList.Nodup:=by
  unfold List.Nodup;rw[List.pairwise_iff_getElem];intro i j t u v e;have c:i<b.size:=by simpa using t
  have f:j<b.size:=by simpa using u
  have:=p i j c f (by rw[Kq c,Kq f];simpa using e);lia
 refine List.perm_iff_count.mpr λa=>?_;rw[r.count,List.nodup_range.count];have:a∈b.toList↔a∈List.range n:=by
  rw[List.mem_range];constructor
  .intro h;obtain⟨k,l,e⟩:=UG h;have g:k<b.size:=by simpa using l
   have:=o k g;rw[Kq g] at this;have e:b[k]=a:=by simpa using e
   lia
  .intro h;have ⟨k,l,e⟩:=q a h;rw[Kq l] at e;rw[<- e,VN];exact VO l
 simp only[this]
def Rl {α: Type}{es:Array α}{a:Yi}(d)(c:∀k,k<a.size->a.getD k 0<es.size):(a.filterMap (es[·]?))=a.map λi=>es.getD i d:=by
 apply Array.toList_inj.mp;rw[Array.toList_filterMap,Array.toList_map];have:∀l:Yj,(∀i∈l,i<es.size)->l.filterMap (es[·]?)=l.map λi=>es.getD i d:=by
  intro l
  induction l with
  |nil=>intro _;rfl
  |cons i l g =>
   simp_all
 refine this _ λi f=>?_;obtain⟨k,h,e⟩:=UG f;have b:k<a.size:=()
 have:=c k b
 simp_all
structure SetIs (hp:Heap)(a:Addr)(es:Array (Int×Value))(t:YE):Prop where
 at_:∃ep,hp.get? a=some { cls:=.type "set",dict:=none,data:=.set es ep t,slots:=#[] }
 tab:TabOk t (es.map (·.1))
 seven:7<=t.mask
 most:t.mask<=8*es.size+7
 room:es.size*5<t.mask*3
 refs:∀i (hi:i<es.size),∃b,es[i].2=.ref b
def SetIs.odd {hp:Heap}{a:Addr}{es:Array (Int×Value)}{t:YE}(S:SetIs hp a es t):t.mask % 2=1:=have ⟨k,b⟩:=S.tab.pow;Rj b S.seven
variable {prog:Program}{w:World}{A:Around}{E:Ya}{s:Shared}
def GH {hp:Heap}{a:Addr}{es es':Array (Int×Value)}{ep:Nat}{t t':YE}(b:hp.get? a=some { cls:=.type "set",dict:=none,data:=.set es ep t,slots:=#[] }):
 (hp.update a (Obj.putSet es' t')).get? a=some { cls:=.type "set",dict:=none,data:=.set es' (ep+1) t',slots:=#[] }:=by
 have:=Heap.get?_update_self (Obj.putSet es' t') b (by rfl)
 rwa [(putSet_of es' t' rfl)] at this
def Rm {α β: Type}(f:α -> β)(xs)(p)(x):(SetTable.insertAt xs p x).map f=SetTable.insertAt (xs.map f) p (f x):=by
 unfold SetTable.insertAt;simp
def Rn {a:Addr}{es:Array (Int×Value)}{ep:Nat}{t:YE}{Q:Unit->YC}
 (m:s.heap.get? a=some { cls:=.type "set",dict:=none,data:=.set es ep t,slots:=#[] }) (T:TabOk t (es.map (·.1))) (U:1<=es.size) (X:es.size<=1000) (C:∀i (f:i<es.size),∃b,es[i].2=.ref b)
 (h:∀es' t',es'.toList.Perm es.toList->t'.led=t.led->t'.plain=t.plain->SetIs (s.heap.update a (Obj.putSet es' t')) a es' t'->Q Yt { s with heap:=s.heap.update a (Obj.putSet es' t') }):
 YK prog w A (setRelay a (SetTable.grown es.size)) Q E s:=by
 have F:SetTable.grown es.size=es.size*4:=by unfold SetTable.grown;rw[Ze ()]
 have G:=Ra (es.size*4);obtain⟨_,H⟩:=GB (n:=es.size*4) ();have I:=Ri (es.size*4);obtain⟨t',c,e,J,K,Y,r,l,L,u,M⟩:=Rb (t:=t) (hs:=es.map (·.1)) (wanted:=es.size*4) (by rw[Uj];lia) ();rw[Uj] at r l u;rw[F];unfold setRelay;refine Za (wpAny_setState_of m rfl T.fits ?_);dsimp only;rw[Ze (by rw[sizeLine_eq];lia)];rw[e];have v:=Rl (es:=es) (0,Value.none) l;have g:(c.filterMap (es[·]?)).size=es.size:=by rw[v,Uj];exact r
 have o:(c.filterMap (es[·]?)).toList.Perm es.toList:=by
  rw[Array.toList_filterMap];exact((Rk l L u).filterMap _).trans (by rw[filterMap_getElem?_range])
 have x:(c.filterMap (es[·]?)).map (·.1)=c.map λi=>(es.map (·.1)).getD i 0:=by
  rw[v,Array.map_map];apply Array.map_congr_left;intro i f;obtain⟨k,y,N⟩:=Array.getElem_of_mem f;have:=l k y;rw[Kq y,N] at this;show(es.getD i (0,Value.none)).1=_;rw[Kq this,GD this]
 have z:TabOk t' ((c.filterMap (es[·]?)).map (·.1)):=by rw[x];exact M
 have B:∀i (f:i<(c.filterMap (es[·]?)).size),∃b,(c.filterMap (es[·]?))[i].2=.ref b:=λi f=>by
  have O:(c.filterMap (es[·]?))[i]∈es.toList:=o.mem_iff.mp (by rw[VN];exact VO f);obtain⟨j,P,R⟩:=UG O;have p:j<es.size:=by simpa using P
  obtain⟨b,S⟩:=C j p;refine⟨b,?_⟩;rw[<- R];simpa using S
 have q:¬((c.filterMap (es[·]?)).size != es.size)=true:=by rw[g];simp
 refine Za (wpAny_of_eq (a:=(c.filterMap (es[·]?),t')) ?_ ?_)
 .show(if((c.filterMap (es[·]?)).size != es.size)=true then _ else _)=_;rw[Ze q]
 .dsimp only;generalize c.filterMap (es[·]?)=es' at g o z B x;exact wpAny_storeSet_of m rfl (h es' t' o J K ⟨⟨ep+1,GH m⟩,z,(),(),(),B⟩) (by rw[sizeLine_eq];lia)
def Ro {es es':Array (Int×Value)}(e:∀i (a:i<es.size),∃b,es[i].2=.ref b){x:Value}{h:Int}{b:Addr}(f:x=.ref b)(g:es'.toList.Perm (es.toList++[(h,x)])):∀i (a:i<es'.size),∃b,es'[i].2=.ref b:=λi a=>by
 rcases Jb.mp (g.mem_iff.mp (by rw[VN];exact VO a)) with z|z
 .obtain⟨j,l,m⟩:=UG z;have c:j<es.size:=by simpa using l
  obtain⟨b,n⟩:=e j c;refine⟨b,?_⟩;rw[<- m];simpa using n
 .rw[Jd.mp z];exact⟨b,f⟩
def Rp {a:Addr}{es:Array (Int×Value)}{t:YE}{x:Value}{b:Addr}{h:Int}{same:Value->Bool}{Q:Bool->YC}
 (S:SetIs s.heap a es t) (P:x=.ref b) (hl:es.size+1<=1000)
 (U:∀i (C:i<es.size),es[i].1=h->∀Q:Bool->YC,Q (same es[i].2) s->YK prog w A (eqBool es[i].2 x) Q E s)
 (H:t.led=true\/∀Q:Bool->YC,Q false s->YK prog w A (searchCouldBeSeen x ((es.filter (·.1 == h)).toList.map (·.2))) Q E s)
 (X:∀Q:Bool->YC,Q true s->YK prog w A (hashByValue 8 x) Q E s)
 (I:∀i (C:i<es.size),es[i].1=h->same es[i].2=true->Q false s)
 (l:(∀i (C:i<es.size),es[i].1=h->same es[i].2=false)->∀J es' t',Heap.SameBut a s.heap J->SetIs J a es' t'->es'.toList.Perm (es.toList++[(h,x)])->t'.led=t.led->t'.plain=t.plain->Q true { s with heap:=J }):
 YK prog w A (setAddHashed a x h) Q E s:=by
 obtain⟨ep,o⟩:=S.at_;have K:t.mask<=9000:=by have:=S.most;lia
 unfold setAddHashed setAddHashedIn;refine wpAny_holding (Za (wpAny_setState_of o rfl S.tab.fits ?_));dsimp only;have Y:byScan x es=false:=by subst P;rfl
 rw[Y];simp only[UC,if_false];refine Za (Rh o rfl S.tab S.odd K U S.refs H (λi C Z h2=>Zb (I i C Z h2)) λq y hy hf hw=>?_);dsimp only;refine Za (wpAny_setState_of o rfl S.tab.fits ?_);dsimp only;have hsz:t.place.size=es.size:=by have:=S.tab.size;rwa [Uj] at this
 have L:=S.room;have F:=S.seven;obtain⟨m,f,r⟩:=PK S.tab hy hf hw ();rw[Uj] at f;have g:(t.put y).1.led=t.led:=rfl;have j:(t.put y).1.plain=t.plain:=rfl;generalize R:t.put y=tp at m f r g j;obtain⟨e,p⟩:=tp;dsimp only at m f r g j ⊢;have em:(SetTable.insertAt es p (h,x)).map (·.1)=SetTable.insertAt (es.map (·.1)) p h:=Rm _ _ _ _;rw[<- em] at m;have G:(SetTable.insertAt es p (h,x)).toList.Perm (es.toList++[(h,x)]):=by
  have:=SetTable.insertAt_perm es p (h,x)
  rwa [Array.toList_push] at this
 have u:(SetTable.insertAt es p (h,x)).size=es.size+1:=CO es f _;have n:=Ro S.refs P G;generalize SetTable.insertAt es p (h,x)=es1 at m G u n;have T:YK prog w A (do
  storeSet a es1 e
  if !false&&e.tooFull then setRelay a (SetTable.grown (es.size+1))
  return true) Q E s:=by
  refine Za (wpAny_storeSet_of o rfl ?_ (by rw[sizeLine_eq];lia));have v:=GH (es':=es1) (t':=e) o;have B:=Heap.SameBut.update s.heap a (Obj.putSet es1 e);by_cases c:e.tooFull=true
  .rw[Zd (by rw[c];rfl)];rw[<- u];refine Za (Rn v m () () n λM t2 N l2 p2 S2=>(Zb (l q _ M t2 (B.trans (Heap.SameBut.update _ a _)) S2 (N.trans G) (l2.trans g) (p2.trans j))))
  .rw[Ze (by simpa using c)];have O:¬(e.fill*5 ≥ e.mask*3):=by
    intro z;exact c (Zp z)
   have hfl:e.fill=es1.size:=by
    unfold SetTable.fill;have:=m.size;rw[Uj] at this;rw[this,m.nod];rfl
   have S1:SetIs (s.heap.update a (Obj.putSet es1 e)) a es1 e:=⟨⟨ep+1,v⟩,m,(),by have:=S.most;lia,(),n⟩;exact Zb (l q _ es1 e B S1 G g j)
 grind[wpAny_bind,wpAny_pure]
open PySem
variable {prog:Program}{w:World}{A:Around}{E:Ya}{s:Shared}
inductive HashAll (prog:Program)(w:World)(A:Around)(E:Ya)(s:Shared):Yf->List Int->Prop
 |nil:HashAll prog w A E s [] []
 |cons {v:Value} {vs:Yf} {h:Int} {hs:Yh}:(∀(tk:Nat) (Q:Int->YC),(∀tk',tk<=tk'->Q h { s with toks:=tk' })->YK prog w A (pyHash v) Q E { s with toks:=tk })->HashAll prog w A E s vs hs->HashAll prog w A E s (v::vs) (h::hs)
def CU (hs:Yh):Int:=reduceHash (Builtin.Tuple.tupleHashOf hs)
def GI (g:s.heap.get? a=some o)(i:o.cls=.type "tuple")(j:o.data=.seq items n)(l:A.units<cLine)
 (H:HashAll prog w A.in1 E s items.toList hs) (h:∀tk,tk0<=tk->Q (CU hs) { s with toks:=tk }):YK prog w A (pyHash (.ref a)) Q E { s with toks:=tk0 }:=by
 have m:Shared.TypeIs { s with toks:=tk0 } (.ref a) "tuple" := ⟨o,g,i⟩;refine W.pyHash_slot m F.slot_tuple_hash F.entry_tuple_hash (F.args_tuple_hash_1 _) (beq_builtin_none _) (.inr l) ?_;show wpAny _ _ (Builtin.Tuple.tupleItemsOf (.ref a) >>= _) _ _ _;refine Za (wpAny_tupleItemsOf g j (Za ?_));rw[<- Vo];refine wpAny_forIn_list _ (λrest (b:Array Int) s'=>∃left tk,HashAll prog w A.in1 E s rest left/\b.toList++left=hs/\s'={ s with toks:=tk }/\tk0<=tk) _ ?_ ?_ _ _ ⟨hs,tk0,H,rfl,rfl,Zf _⟩
 .rintro x rest b s' ⟨left,tk,e,f,rfl,c⟩;cases e with
  |cons q p =>
   grind[wpAny_bind,wpAny_pure,Nat.le_trans]
 .rintro b s' ⟨left,tk,e,f,rfl,c⟩;cases e;rw[ZA] at f;show wpAny _ _ (retInt (Builtin.Tuple.tupleHashOf b.toList)) _ _ _;rw[f];exact Za (wpAny_mkInt (Zb ⟨_,_,rfl,h _ (Vk c)⟩))
theorem GJ:∀{a:Yf} {ns:Yh},PyProof.Rows.IntsAre a ns->HashAll prog w A E s a (ns.map hashInt)
 |_,_,.nil=>.nil
 |_,_,.cons n t r=>.cons (λtk Q h=>wpAny_pyHash_int (h _ (Nat.le_succ tk))) (GJ r)
inductive PlainV (hp:Heap):Nat->Value->Prop
 |int (n:Nat) (i:Int) (t:Tok):PlainV hp n (.int i t)
 |tup {n:Nat} {a:Addr} {o:Obj} {items:Yn} {k:Nat}:hp.get? a=some o->o.cls=.type "tuple" -> o.data=.seq items k->(∀v∈items.toList,PlainV hp n v)->PlainV hp (n+1) (.ref a)
def Rq (p:PlainV s.heap n v):∀d Q,n<=d->Q true s->YK prog w A (hashByValue d v) Q E s:=by
 induction p with
 |int n i t =>
  intro d Q _ h;cases d<;>exact Zb h
 |tup a b c _ g =>
  intro d Q j h;cases d with
  |zero=>lia
  |succ d =>
   have e:Shared.TypeIs s (.ref _) "tuple" := ⟨_,a,b⟩;refine Za (wpAny_specialOf e F.slot_tuple_hash.lookup (Za (wpAny_seqItems a c (Za ?_))));rw[Option.getD_some,<- Vo];refine wpAny_forIn_list _ (λrest r s'=>r.1=none/\s'=s/\∀v∈rest,v∈_) _ ?_ ?_ _ _ ⟨rfl,rfl,λv f=>f⟩
   .grind[wpAny_bind,wpAny_pure]
   grind[wpAny_pure]
def GK (p:PlainV s.heap n v):∀d Q,n<=d->Q true s->YK prog w A (eqIsQuiet d v) Q E s:=by
 induction p with
 |int n i t =>
  intro d Q _ h;exact wpAny_of_eq (eqIsQuiet_byValue d rfl) h
 |tup a c e _ g =>
  intro d Q j h;cases d with
  |zero=>lia
  |succ d =>
   have b:Shared.TypeIs s (.ref _) "tuple" := ⟨_,a,c⟩;unfold eqIsQuiet;refine Za (wpAny_specialOf b F.slot_tuple_eq.lookup (Za (wpAny_isInstance b isSubtype_tuple_tuple (Za (wpAny_seqItems a e (Za ?_))))));rw[Option.getD_some,<- Vo];refine wpAny_forIn_list _ (λrest r s'=>r.1=none/\s'=s/\∀v∈rest,v∈_) _ ?_ ?_ _ _ ⟨rfl,rfl,λv f=>f⟩
   .grind[wpAny_bind,wpAny_pure]
   grind[wpAny_pure]
def GL (p:PlainV s.heap n v):∀d Q,n<=d->Q false s->YK prog w A (ofAClassStatement d v) Q E s:=by
 induction p with
 |int n i t =>
  intro d Q _ h;cases d<;>exact Zb h
 |tup a b c _ g =>
  intro d Q j h;cases d with
  |zero=>lia
  |succ d =>
   have e:Shared.TypeIs s (.ref _) "tuple" := ⟨_,a,b⟩;unfold ofAClassStatement;refine Za (wpAny_typeOf e ?_);simp;refine Za (wpAny_seqItems a c (Za ?_));rw[<- Vo];refine wpAny_forIn_list _ (λrest r s'=>r.1=none/\s'=s/\∀v∈rest,v∈_) _ ?_ ?_ _ _ ⟨rfl,rfl,λv f=>f⟩
   .grind[wpAny_bind,wpAny_pure]
   grind[wpAny_pure]
def Rr (a:n<=8)(b:PlainV s.heap n x)(e:∀y∈ys,PlainV s.heap n y)(h:Q false s):YK prog w A (searchCouldBeSeen x ys) Q E s:=by
 refine Za (wpAny_forIn_list _ (λrest r s'=>r.1=none/\s'=s/\∀v∈rest,v∈ys) _ ?_ ?_ _ _ ())
 .rintro y rest r s' ⟨g,rfl,f⟩;have c:=e y (f y Zqs);have nx:∀v∈rest,v∈ys:=by grind
  dsimp only
  split
  all_goals
   split
   .exact Zb ⟨rfl,rfl,nx⟩
   .exact Za (GK b 8 _ a (Za (GK c 8 _ a (Za (GL b 8 _ a (Za (GL c 8 _ a (Zb ⟨rfl,rfl,nx⟩))))))))
 grind[wpAny_pure]
structure KeyFam (prog:Program)(w:World)(hp:Heap)(PV:Value->Prop)(hsh:Value->Int)(same:Value->Value->Bool):Prop where
 ref:∀v,PV v->∃b,v=.ref b
 plain:∀v,PV v->PlainV hp 8 v
 hash:∀v,PV v->∀(A:Around) (E:Ya) (s:Shared) (Q:Int->YC),(∀b o,hp.get? b=some o->s.heap.get? b=some o)->A.units+8<cLine->(∀tk,s.toks<=tk->Q (hsh v) { s with toks:=tk })->YK prog w A (pyHash v) Q E s
 eq:∀v u,PV v->PV u->∀(A:Around) (E:Ya) (s:Shared) (Q:Bool->YC),(∀b o,hp.get? b=some o->s.heap.get? b=some o)->A.units+8<cLine->Q (same v u) s->YK prog w A (eqBool v u) Q E s
 coh:∀v u,PV v->PV u->same v u=true->hsh v=hsh u
def PlainV.keep (k:∀b o,hp.get? b=some o->hp'.get? b=some o)(p:PlainV hp n v):PlainV hp' n v:=by
 induction p with
 |int n i t=>exact .int n i t
 |tup a c e _ f=>exact .tup (k _ _ a) c e f
def Wt (same:Value->Value->Bool)(D:Yf)(v:Value):Yf:=if D.any (same · v) then D else D++[v]
def xT (same:Value->Value->Bool)(val:Nat->Value)(i:Nat):Yf:=((List.range i).map val).foldl (Wt same) []
theorem AB (same)(val)(i):xT same val (i+1)=Wt same (xT same val i) (val i):=by
 grind[xT,List.range_succ,List.map_append,List.foldl_append]
theorem GM (same)(val):∀i,(xT same val i).length<=i
 | 0=>Zf _
 |i+1=>by
  have:=GM same val i
  grind[Wt,AB,List.length_append,List.length_singleton]
theorem CV (same)(val):∀i v,v∈xT same val i->∃j,j<i/\v=val j
 | 0,v,h=>by cases h
 |i+1,v,h=>by
  rw[AB] at h;unfold Wt at h
  split at h
  .have ⟨j,a,e⟩:=CV same val i v h;exact⟨j,(),e⟩
  .rcases Jb.mp h with z|z
   .have ⟨j,a,e⟩:=CV same val i v z;exact⟨j,(),e⟩
   grind
def Holds (a:Value->Int)(hp:Heap)(S:Addr)(ld:Bool)(D:Yf):Prop:=∃es t,SetIs hp S es t/\es.toList.Perm (D.map λv=>(a v,v))/\t.led=ld/\t.plain=true
section
variable {prog:Program}{w:World}{A:Around}{E:Ya}{s:Shared}
def Rs {hp:Heap}{B:Value->Prop}{a:Value->Int}{same:Value->Value->Bool}(K:KeyFam prog w hp B a same){S:Addr}{ld:Bool}{D:Yf}{x:Value}{Q:Bool->YC}
 (C:∀b o,hp.get? b=some o->s.heap.get? b=some o) (R:A.units+8<cLine) (H:Holds a s.heap S ld D) (F:∀v∈D,B v) (r:B x) (hl:D.length<=999)
 (h:∀j b,Heap.SameBut S s.heap j->Holds a j S ld (Wt same D x)->Q b { s with heap:=j }):YK prog w A (setAddHashed S x (a x)) Q E s:=by
 obtain⟨es,t,L,l,m,n⟩:=H;obtain⟨b,T⟩:=K.ref x r;have M:es.size=D.length:=by
  have:=l.length_eq
  simp_all
 have f:∀i (c:i<es.size),es[i].2∈D/\es[i].1=a es[i].2:=λi c=>by
  have G:=l.mem_iff.mp (by rw[VN];exact VO c);obtain⟨v,g,e⟩:=Ja.mp G;rw[<- e];exact⟨g,rfl⟩
 have p:∀v∈D,∃i,∃c:i<es.size,es[i]=(a v,v):=λv g=>by
  have G:=l.mem_iff.mpr (Ja.mpr ⟨v,g,rfl⟩);obtain⟨i,c,e⟩:=UG G;exact⟨i,by simpa using c,by simpa using e⟩
 have N:=(K.plain x r).keep C;refine Rp (same:=λy=>same y x) L T () (λi c _ u q=>K.eq _ _ (F _ (f i c).1) r A E s u C R q) (.inr λu q=>?_) (λu q=>Rq N 8 u (Zf _) q) (λi c h1 U=>?_) λI j es' t' X Y J Z p'=>?_
 .refine Rr (Zf 8) N (λy hy=>?_) q;obtain⟨e,O,rfl⟩:=Ja.mp hy;have O:e∈es:=by
   simp_all
  obtain⟨i,c,rfl⟩:=Array.getElem_of_mem O;exact(K.plain _ (F _ (f i c).1)).keep C
 .have e:Wt same D x=D:=Zd (VM.mpr ⟨_,(f i c).1,U⟩);have:=h s.heap false (Heap.SameBut.refl S s.heap) ⟨es,t,L,by rw[e];exact l,m,n⟩;exact this
 .have e:Wt same D x=D++[x]:=Ze λz=>by
   obtain⟨v,g,hs⟩:=VM.mp z;obtain⟨i,c,P⟩:=p v g;have:=I i c (by rw[P];exact K.coh v x (F v g) r hs);rw[P] at this;rw[hs] at this;cases this
  refine h j true X ⟨es',t',Y,?_,Z.trans m,p'.trans n⟩;rw[e,Ud];exact J.trans (l.append_right _)
end
section
variable {prog:Program}{w:World}{A:Around}{R:Result->YC}{I:Addr}{fp wr:Yl}{G:Array GenState->Array GenState->Prop}{n:Nat}{P:Nat->Value->Prop}{St:Nat->YC}
def Holds.keep {b:Value->Int}{hp hp':Heap}{S:Addr}{ld:Bool}{D:Yf}(H:Holds b hp S ld D)(k:∀o,hp.get? S=some o->hp'.get? S=some o):Holds b hp' S ld D:=by
 obtain⟨es,t,a,r⟩:=H;obtain⟨ep,c⟩:=a.at_;exact⟨es,t,⟨⟨ep,k _ c⟩,a.tab,a.seven,a.most,a.room,a.refs⟩,r⟩
def Rt (W:WalksS prog w A.in1 I fp wr G n P St)(S)(B:S∉fp)(p:∀b o,hp.get? b=some o->b∉wr/\b≠S)
 {C:Value->Prop} {f:Value->Int} {same:Value->Value->Bool} (K:KeyFam prog w hp C f same) (val) (q:∀i v,P i v->v=val i) (J:∀i,i<n->C (val i)) (hn:n<=999) (Q:A.in1.units+8<cLine) (ld):
 ∀k i s,n-i=k->i<=n->St i s->(∀b o,hp.get? b=some o->s.heap.get? b=some o)->Holds f s.heap S ld (xT same val i) ->
  (∀s',Moved (S::wr) G s s'->Holds f s'.heap S ld (xT same val n)->R (.ok (.ret .none)) s') ->
  codeAny (model prog w) A (.builtin "set.update.loop" ⟨[.ref S,.ref I],[]⟩) R s:=by
 have r:S∉wr:=λh=>B (W.sub _ h);have c:∀b∈wr,b∈S::wr:=by grind
 intro k
 induction k with
 |zero =>
  intro i s T Z g t H L;have M:i=n:=()
  subst M;refine codeAny_builtin F.entry_set_update_loop ?_;rw[Around.under_plainId F.plain_set_update_loop _];show wpAny _ A.in1 (pyNext (.ref I) >>= _) _ _ s;refine Za (W.done s _ _ g λs' m=>?_);show wpAny _ A.in1 (ret Value.none) _ _ s';exact Zb (L s' (m.mono c) (H.keep λo e=>m.heap S _ r e))
 |succ k ih =>
  intro i s T Z g t H L;have j:i<n:=()
  refine codeAny_builtin F.entry_set_update_loop ?_;rw[Around.under_plainId F.plain_set_update_loop _];show wpAny _ A.in1 (pyNext (.ref I) >>= _) _ _ s;refine Za (W.item i s _ _ j g λv s' hP x m=>?_);have U:=q i v hP;have H':=H.keep (hp':=s'.heap) λo e=>m.heap S _ r e;have a:∀b o,hp.get? b=some o->s'.heap.get? b=some o:=λb o e=>m.heap b o (p b o e).1 (t b o e);have X:C v:=by rw[U];exact J i j
  show wpAny _ A.in1 (holding [v] (setAdd S v) >>= _) _ _ s';refine Za (wpAny_holding ?_);unfold setAdd;refine wpAny_holding ?_;refine Za (K.hash v X _ _ _ _ a Q λtk y=>?_);have hl:=GM same val i;refine Rs K a Q H' (λu hu'=>?_) X () λh' b l Y=>?_
  .grind[CV]
  .rw[U,<- AB] at Y;refine Zb ⟨plainId_quiet F.plain_set_update_loop _,ih (i+1) _ (by rw[Nat.sub_succ,T];rfl) j (W.frame _ s' _ _ x ?_ λb hb o e=>?_) (λb o e=>?_) Y λN z O=>?_⟩
   .exact y
   .rw[l.2 b ()];exact e
   .rw[l.2 b (p b o e).2];exact a b o e
   .refine L N (Moved.trans W.gtrans ((m.mono c).then_heap ?_ λb o hb e=>?_) z) O
    .exact y
    .rw[l.2 b ()];exact e
end
def Ru (led:Bool):TabOk (SetTable.fresh 0 0 led) ((#[]:Array (Int×Value)).map (·.1)):=by
 refine⟨by rw[Uj];rfl,λi j _ h=>Zn h (UJ _),λi h=>Zn h (UJ _),rfl,⟨3,rfl⟩,Ua _,λi h=>Zn h (UJ _)⟩
def Rv (a:hp.get? S=some { cls:=.type "set",dict:=none,data:=.set #[] 0 (.fresh 0 0 led) }):Holds hsh hp S led []:=
 ⟨#[],.fresh 0 0 led,⟨⟨0,a⟩,Ru led,Zf _,Zf _,(show 0*5<7*3 by decide),λi h=>Zn h (UJ _)⟩,Vz _,rfl,rfl⟩
section
variable {prog:Program}{w:World}{A:Around}{E:Ya}{s:Shared}
def yN (w:World):Bool:=!w.params.followText "set-order"
def Rx (a:Value)
 (h:Q₁ (.ref s.heap.objs.size) { s with heap:=s.heap.push { cls:=.type "set",dict:=none,data:=.set #[] 0 (.fresh 0 0 (yN w)) } }):
 codeAny (model prog w) A (.call (.builtin "set.__new__") ⟨[.type "set",a],[]⟩) (wants Q₁ E) s:=by
 refine codeAny_of_tree ?_;show wpAny _ A.in1 (do checkBuiltinCall "set.__new__" ⟨[.type "set",a],[]⟩;again (.builtin "set.__new__" ⟨[.type "set",a],[]⟩)) _ _ s;refine Za (wpAny_of_eq (F.newCall_set_1 a) (Zb ⟨plainId_quiet F.plain_set_new _,codeAny_builtin F.entry_set_new ?_⟩));rw[Around.under_plainId F.plain_set_new _];unfold Builtin.«set.__new__» Builtin.Frozenset.newClass;have b:=sub_set_self;obtain⟨hp,g,d,tk,os⟩:=s;dsimp only
 wp_walk
 refine wpAny_askSetting (Zb ?_);dsimp only;simp only[newObj];refine Za (wpAny_alloc (Zb ?_));exact Zb h
set_option maxRecDepth 100000 in
set_option maxHeartbeats 3200000 in
def Ry {l:Addr}{a:Yn}{Z:Value->Prop}{n:Value->Int}{same:Value->Value->Bool}{Q:Ya}(hh:A.handled=none)(hl:s.heap.IsList l a)(K:KeyFam prog w s.heap Z n same)
 (J:∀(i:Nat) (v:Value),a[i]? = some v->Z v) (hn:a.size<=999) (hu:A.in1.in1.in1.units+8<cLine)
 (h:∀(g:Heap) (tk:Nat),Holds n g s.heap.objs.size (yN w) (xT same (λi=>a.getD i .none) a.size)->(∀b o,b<s.heap.objs.size->s.heap.get? b=some o->g.get? b=some o)->Q (.ref s.heap.objs.size) { s with heap:=g,toks:=tk }):
 YK prog w A (call (.type "set") [.ref l]) Q E s:=by
 have cn:=λA:Around=>Rx (prog:=prog) (w:=w) (A:=A) (E:=E) (s:=s) (.ref l) (Q₁:=λt s₁=>t=.ref s.heap.objs.size/\s₁={ s with heap:=s.heap.push { cls:=.type "set",dict:=none,data:=.set #[] 0 (.fresh 0 0 (yN w)) } }) ⟨rfl,rfl⟩;generalize yN w=led at h cn;obtain⟨c,tl,hmro⟩:=F.called_set.mro;have L:=F.called_set.made;have hsub:=F.called_set.sub;refine wpAny_call (codeAny_of_tree ?_);show wpAny _ _ (callAny (.type "set") _) _ _ _;refine Zb ⟨Code.quiet_builtin _ (by decide +kernel),codeAny_builtin F.entry_type_call ?_⟩;rw[Around.under_plain (weight_type_call_type "set" [.ref l] []) rfl];have h1:=F.called_set.notType;have h2:=F.called_set.canCreate;have hct:=F.typeCall_set_1 (.ref l)
 repeat (any_goals (first|assumption|wp_step))
 refine codeAny_mono (cn _) λr s₁ p=>?_;cases r with
 |error e=>exact p
 |ok M =>
  cases M with
  |ret t =>
   obtain⟨rfl,rfl⟩:=p;generalize f:({ cls:=.type "set",dict:=none,data:=.set #[] 0 (.fresh 0 0 led) }:Obj)=no at *;have hS:(s.heap.push no).get? s.heap.objs.size=some no:=Zr _ (by rw[<- f];rfl);have hT:Shared.TypeIs { s with heap:=s.heap.push no } (.ref s.heap.objs.size) "set" := ⟨_,hS,by rw[<- f]⟩;have hli:=F.called_set.init.lookup;have hbi:=F.called_set.init.bind (.ref s.heap.objs.size)
   repeat (any_goals (first|assumption|wp_step))
   refine codeAny_mono (codeAny_call_builtin (R:=wants (λr s₂=>r=.none/\∃g tk,s₂={ s with heap:=g,toks:=tk }/\Holds n g s.heap.objs.size led (xT same (λi=>a.getD i .none) a.size) /\
    (∀b o,b<s.heap.objs.size->s.heap.get? b=some o->g.get? b=some o)) E) F.called_set.init.plain F.entry_set_init (check_set_init_1 hT ?_)) λr₂ s₂ hr₂=>?_
   .obtain⟨ol,u,x,nl,y⟩:=hl;obtain⟨ocls,q,N,j⟩:=ol;simp only at x y;subst x;subst y;have z:(s.heap.push no).get? l=some { cls:=.type "list",dict:=q,data:=.seq a nl,slots:=j }:=Zq _ u;have hsls:=F.sub_list_set;have hslf:=F.sub_list_frozenset;have hne:(Value.type "list" == Value.type "dict")=false:=by decide
    have B:(s.heap.push no).IsList l a:=⟨_,z,rfl,nl,rfl⟩;subst f;unfold Builtin.«set.__init__» noKeywords Builtin.Frozenset.updateFrom;generalize O:pyIter=PI
    wp_walk
    subst O;refine wpAny_pyIter_list B ?_;refine Za (wpAny_runValue ?_);have C:l<s.heap.objs.size:=Zk u;have P:A.in1.in1.in1.handled=none:=by simp[hh]
    generalize f:({ cls:=.type "set",dict:=none,data:=.set #[] 0 (.fresh 0 0 led) }:Obj)=no at *;have m:(s.heap.push no).objs.size=s.heap.objs.size+1:=Heap.size_push ..;have G:l≠(s.heap.push no).objs.size:=by rw[m];exact Zi (UB C)
    have S:s.heap.objs.size ∉ [(s.heap.push no).objs.size,l]:=by
     simp only[U0,Vn,or_false,not_or];exact⟨by rw[m];exact Zi (UH _),U6 C⟩
    have hw:∀(i:Nat) (v:Value),a[i]? = some v->v=(λi=>a.getD i .none) i:=λi v hv=>by
     show v=a.getD i .none;rw[VX,hv];rfl
    refine Rt ((Walks.list P _ l G a).toS) s.heap.objs.size S (hp:=s.heap) (λb o e=>?_) K (λi=>a.getD i .none) hw (λi hi=>?_) hn (by exact hu) led (a.size-0) 0 _ () (Ua _)
     ⟨⟨_,Zr _ rfl,rfl,rfl⟩,(B.push _)⟩ (λb o e=>Zq _ (Zq _ e)) (Rv (by rw[f];exact Zq _ hS)) λs' I H'=>?_
    .have H:=Zk e;refine⟨?_,Zi H⟩;simp only[U0,Vn,or_false];rw[m];exact Zi (UB H)
    .exact J i _ (by show a[i]? = some (a.getD i .none);rw[Kq hi,Uy hi])
    .obtain⟨g,g',d',T,U⟩:=s';have eg:g'=s.gens:=I.gens;have ed:d'=s.drawn:=I.drawn;have eo:U=s.os:=I.os;subst eg;subst ed;subst eo;show wpAny _ _ _ _ _ _;refine Zb ?_;show wpAny _ _ (ret Value.none) _ _ _;refine Zb ⟨rfl,g,T,rfl,H',λb o H e=>?_⟩;exact I.heap b o (by simp only[U0,Vn,or_false,not_or];exact⟨Zi H,by rw[m];exact Zi (UB H)⟩) (Zq _ (Zq _ e))
   .cases r₂ with
    |error e=>exact hr₂
    |ok fl₂ =>
     cases fl₂ with
     |ret r =>
      obtain⟨rfl,g,tk,rfl,X,Y⟩:=hr₂
      repeat (any_goals (first|assumption|wp_step))
      exact h _ _ X Y
     |_=>exact hr₂.elim
  |_=>exact p.elim
end
def KH (p:Int×Int):PyData:=.tuple [.int p.1,.int p.2]
def yM (r:Jy):PyData:=.tuple (r.map KH)
def GN (p:Int×Int):Int:=CU ([p.1,p.2].map hashInt)
def GO (r:Jy):Int:=CU (r.map GN)
def wa (hp:Heap)(v:Value)(p:Int×Int):Prop:=∃a o b n t u,v=.ref a/\hp.get? a=some o/\o.cls=.type "tuple" /\ o.data=.seq b n/\b.toList=[.int p.1 t,.int p.2 u]
inductive IsPairs (hp:Heap):Yf->Jy->Prop
 |nil:IsPairs hp [] []
 |cons {v vs p r}:wa hp v p->IsPairs hp vs r->IsPairs hp (v::vs) (p::r)
def yI (hp:Heap)(v:Value)(r:Jy):Prop:=∃a o b n,v=.ref a/\hp.get? a=some o/\o.cls=.type "tuple" /\ o.data=.seq b n/\IsPairs hp b.toList r
def Rz (h:wa hp v p):Reads hp v (KH p) []:=by
 obtain⟨a,o,g,n,t,u,rfl,b,c,e,f⟩:=h;refine .tuple b c e ?_;rw[f];exact .cons (.int _ _) (.cons (.int _ _) .nil)
def R0:∀{a:Yf} {r:Jy},IsPairs hp a r->ReadsAll hp a (r.map KH) []:=λh=>by
 induction h with
 |nil=>exact .nil
 |cons b _ c=>exact .cons (Rz b) c
def GP (h:yI hp v r):Reads hp v (yM r) []:=by
 obtain⟨a,o,g,n,rfl,b,c,e,f⟩:=h;exact .tuple b c e (R0 f)
def wa.keep (k:∀b o,hp.get? b=some o->hp'.get? b=some o)(h:wa hp v p):wa hp' v p:=by
 obtain⟨a,o,c,n,t,u,e,f,r⟩:=h;exact⟨a,o,c,n,t,u,e,k _ _ f,r⟩
theorem IsPairs.keep (k:∀b o,hp.get? b=some o->hp'.get? b=some o)(h:IsPairs hp vs r):IsPairs hp' vs r:=by
 induction h with
 |nil=>exact .nil
 |cons a _ c=>exact .cons (a.keep k) c
theorem yI.keep (k:∀b o,hp.get? b=some o->hp'.get? b=some o)(h:yI hp v r):yI hp' v r:=by
 obtain⟨a,o,c,n,e,f,g,i,j⟩:=h;exact⟨a,o,c,n,e,k _ _ f,g,i,j.keep k⟩
theorem R1 (h:wa hp v p)(n):PlainV hp (n+1) v:=by
 obtain⟨a,o,j,k,t,u,rfl,c,f,g,i⟩:=h;refine .tup c f g λx b=>?_;rw[i] at b;rcases U0.mp b with e|e
 .rw[e];exact .int _ _ _
 .rw[Jd.mp e];exact .int _ _ _
def R3 (h:yI hp v r)(n):PlainV hp (n+2) v:=by
 obtain⟨a,o,c,k,rfl,e,f,g,b⟩:=h;refine .tup e f g ?_;generalize c.toList=l at b
 induction b with
 |nil=>simp
 |cons i _ j =>
  grind[R1]
section
variable {prog:Program}{w:World}{A:Around}{E:Ya}{s:Shared}
def R4 (c:A.units<cLine):∀{b:Yf} {r:Jy},IsPairs s.heap b r->HashAll prog w A E s b (r.map GN):=λh=>by
 induction h with
 |nil=>exact .nil
 |cons e _ f =>
  refine .cons (λtk Q h=>?_) f;obtain⟨a,o,b,n,t,u,rfl,g,i,j,l⟩:=e;refine GI g i j c ?_ h;rw[l];exact GJ (.cons _ _ (.cons _ _ .nil))
def R5 (c:yI s.heap v r)(e:A.units<cLine)(b:A.in1.units<cLine)(h:∀tk,s.toks<=tk->Q (GO r) { s with toks:=tk }):YK prog w A (pyHash v) Q E s:=by
 obtain⟨a,o,l,n,rfl,f,g,i,j⟩:=c;exact GI f g i e (R4 b j) h
end
def R6 (p q):PyData.eqv (KH p) (KH q)=decide (p=q):=by
 grind[KH,PyData.eqv,PyData.eqvAll]
theorem GQ:∀r q:Jy,PyData.eqvAll (r.map KH) (q.map KH)=decide (r=q)
 | [],[]=>by rfl
 | [],_::_=>by rfl
 |_::_,[]=>by rfl
 |p::r,q::s=>by
  rw[Zl,Zl];unfold PyData.eqvAll;rw[R6,GQ r s,Vf];simp
def R7 (r q):PyData.eqv (yM r) (yM q)=decide (r=q):=GQ r q
theorem GR:∀r:Jy,PyData.canLayAll0 (r.map KH)=true
 | []=>rfl
 |p::r=>by
  rw[Zl];unfold PyData.canLayAll0;rw[GR r];rfl
def GS (r):(yM r).canLay0=true:=GR r
theorem GT:∀r:Jy,PyData.depthAll (r.map KH)<=1
 | []=>Ua _
 |p::r=>by
  rw[Zl];unfold PyData.depthAll;have a:(KH p).depth=1:=rfl;have b:=GT r;rw[a];lia
def R8 (r):(yM r).depth<=2:=Vy (GT r)
def wa.inj (h:wa hp v p)(b:wa hp v q):p=q:=by
 obtain⟨a,o,f,n,t,u,rfl,g,i,j,l⟩:=h;obtain⟨m,r,c,x,t',y,e,k1,k2,k3,z⟩:=b
 grind
theorem IsPairs.inj:∀{a:Yf} {r q:Jy},IsPairs hp a r->IsPairs hp a q->r=q:=λ{a r q} g h=>by
 induction g generalizing q with
 |nil=>cases h;rfl
 |cons b _ c =>
  cases h with
  |cons k1 k2=>rw[b.inj k1,c k2]
theorem yI.inj (h:yI hp v r)(b:yI hp v q):r=q:=by
 obtain⟨a,o,l,n,rfl,c,m,f,g⟩:=h;obtain⟨p,t,i,u,e,k1,k2,k3,j⟩:=b;cases e;rw[c] at k1;obtain rfl:=Zqi k1;rw[f] at k3;cases k3;exact g.inj j
open Classical in
def yL (hp:Heap)(v:Value):Jy:=if h:∃r,yI hp v r then h.choose else[]
theorem AC (h:yI hp v r):yL hp v=r:=by
 unfold yL;have e:∃r,yI hp v r:=⟨r,h⟩;rw[dif_pos e];exact e.choose_spec.inj h
def R9 (prog)(w)(hp):KeyFam prog w hp (λv=>∃r,yI hp v r) (λv=>GO (yL hp v)) (λv u=>decide (yL hp v=yL hp u)) where
 ref:=by
  rintro v ⟨r,a,o,b,n,e,_⟩;exact⟨a,e⟩
 plain:=by
  rintro v ⟨r,h⟩;exact R3 h 6
 hash:=by
  rintro v ⟨r,h⟩ A E s Q hk hu hq;rw[AC h] at hq;exact R5 (h.keep hk) () (show A.units+1<cLine from ()) hq
 eq:=by
  rintro v u ⟨r,h⟩ ⟨q,h'⟩ A E s Q hk hu hq;rw[AC h,AC h',<- R7] at hq;have c:=R8 r;exact SeqAt.eqBoolOverData prog w A E s v u (yM r) (yM q) [] [] Q (GP (h.keep hk)) (GP (h'.keep hk)) (GS r) (GS q) () hq
 coh:=()
def vx:Slot "set_iterator" "__next__" "set_iterator.__next__" :=
 .of (owner:= "set_iterator") (n:= "__next__") (by kernel_rfl) (by rfl) (by rfl) (by rfl)
  (by first|exact .inl (by decide +kernel)|exact .inr (by decide +kernel)) (by kernel_rfl)
def GU:entryFor table "set_iterator.__next__" = some Builtin.«set_iterator.__next__»:=entryFor_of_tree (by rfl)
def GV:Manifest.owners.lookup (String.ofList ['r','o','t','a','r','e','t','i','_','t','e','s'].reverse)=some Manifest.sig_set_iterator:=by kernel_rfl
def GW (a):argsOk "set_iterator.__next__" ⟨[a],[]⟩:=by
 unfold argsOk;rw[signature?_of (n:=['_','_','t','x','e','n','_','_']) (by kernel_rfl) GV];rfl
def RA:entryFor table "set.__iter__" = some Builtin.«frozenset.__iter__»:=entryFor_alias (id':= "frozenset.__iter__") (by kernel_rfl) rfl (by decide +kernel) (by kernel_rfl)
def GX:Slot "set_iterator" "__iter__" "set_iterator.__iter__" :=
 .of (owner:= "set_iterator") (n:= "__iter__") (by rw[typeLookup_type,builtinLookup_eq_fast];kernel_rfl) (by decide +kernel) (by rfl) (by rfl)
  (by first|exact .inl (by decide +kernel)|exact .inr (by decide +kernel)) (by rw[isSubtype_type];kernel_rfl)
def RB:entryFor table "set_iterator.__iter__" = some Builtin.«dict_keyiterator.__iter__» :=
 entryFor_alias (id':= "dict_keyiterator.__iter__") (by kernel_rfl) (by rfl) (by decide +kernel) (by kernel_rfl)
def RC (a):argsOk "set_iterator.__iter__" ⟨[a],[]⟩:=by
 unfold argsOk;rw[signature?_of (n:=['_','_','r','e','t','i','_','_']) (by kernel_rfl) GV];rfl
abbrev GY (h:Heap)(it S:Addr)(slot i n ep:Nat):Prop:=h.get? it=some { cls:=.type "set_iterator",dict:=none,data:=.fields #[.int slot 0,.int i 0,.ref S,.int n 0,.int ep 0],slots:=#[] }
abbrev WL (es:Array (Int×Value))(ep:Nat)(t:YE):Obj:={ cls:=.type "set",dict:=none,data:=.set es ep t,slots:=#[] }
def Kh (w:World)(S ep:Nat)(es:Array (Int×Value)):Array (Int×Value):=if w.params.followText "set-order" then pickOrder (w.params.setOrder S ep) es else es
theorem GZ {α: Type}(next):∀fuel k (left:List α) a,left.length<=fuel->(pickOrder.go next fuel k left a).toList.Perm (a.toList++left)
 | 0,k,left,a,h=>by
  simp_all [pickOrder.go]
 |fuel+1,k,left,a,h=>by
  unfold pickOrder.go;cases q:left[next k % left.length]? with
  |none =>
   have b:left.length=0:=by
    grind[Nat.eq_zero_or_pos,Nat.mod_lt,Zqg]
   simp_all
  |some x =>
   have b:=List.length_eraseIdx_of_lt ((Jc.mp q).1);refine(GZ next fuel (k+1) _ _ ()).trans ?_;rw[Array.toList_push,Uh];refine List.Perm.append_left _ ?_;have c:left=left.take (next k % left.length)++x::left.drop (next k % left.length+1):=by
    grind[List.take_append_drop,List.drop_eq_getElem_cons]
   rw[List.eraseIdx_eq_take_drop_succ];exact Vx ((List.perm_middle (l₁:=left.take (next k % left.length))).symm) (List.Perm.of_eq c.symm)
theorem RE {α: Type}(next)(es:Array α):(pickOrder next es).toList.Perm es.toList:=by
 grind[pickOrder,GZ]
def Ha (w)(S ep)(es):(Kh w S ep es).toList.Perm es.toList:=by
 grind[Kh,RE,List.Perm.refl]
def CW (w)(S ep)(es):(Kh w S ep es).size=es.size:=by
 have:=(Ha w S ep es).length_eq;omega
def RF (u:zL xs)(hi):SetTable.below xs (xs[i]+1)=i+1:=by
 obtain⟨f,c,g⟩:=A9 u (xs[i]+1);have e:=Kq hi 0;rcases Vc (SetTable.below xs (xs[i]+1)) (i+1) with q|q|q
 .grind
 .exact q
 .have a:=c (i+1) q;have b:=u i (i+1) () ();lia
def RG (xs)(u:zL xs):SetTable.below xs 0=0:=by
 obtain⟨b,a,c⟩:=A9 u 0;rcases Vm (SetTable.below xs 0) with q|q
 .exact q
 .have:=a 0 q;lia
section
variable {prog:Program}{w:World}{A:Around}{E:Ya}{s:Shared}
def RH (a:s.heap.get? S=some (WL es ep t))(c:t.fits es.size=true)(hp:t.plain=true)
 (g:Q (.ref s.heap.objs.size) { s with heap:=s.heap.push { cls:=.type "set_iterator",data:=.fields #[.int 0 0,.int 0 0,.ref S,.int es.size 0,.int ep 0] } }):YK prog w A (pyIter (.ref S)) Q E s:=by
 have f:s.TypeIs (.ref S) "set" := ⟨_,a,rfl⟩;refine wpAny_pyIter_slot f F.slot_set_iter (wpAny_call_entry F.slot_set_iter f RA ?_ (F.args_set_iter_1 _));unfold Builtin.«frozenset.__iter__» Builtin.Frozenset.slot0 slotArgs;simp only[bind_assoc];refine Za (Zb (Za (Zb (Za (Za (wpAny_setEntries_of a rfl c (Zb ?_)))))));have h:wpAny (model prog w) A.in1 (setDrawn S) (λb s'=>b=false/\s'=s) E s:=by
  refine Za (wpAny_setState_of a rfl c (Za (Za (wpAny_askSetting (Zb (Zb ⟨?_,rfl⟩))))));obtain⟨mask,place,dummies,finger,led,moves,plain⟩:=t;cases hp;exact Bool.and_false _
 refine Za (Zc h (λb s' z=>?_) λ_ _ e=>e);obtain⟨rfl,rfl⟩:=z;refine Za (Zb (Za (Za (wpAny_setState_of a rfl c (Zb (Za (wpAny_newObj_type (Zb ⟨_,rfl, "set_iterator",_,⟨_,Zr _ rfl,rfl⟩,vx.lookup,g⟩) (by simp_all [sizeOk,sizeLine_eq]))))))))
def Hb (f:s.heap.get? S=some (WL es ep t))(g:t.fits es.size=true)(hp:t.plain=true)(b:t.led=yN w)(l:zL t.place)(hz:t.place.size=es.size)
 (m:w.params.followText "set-order" = false->SetTable.below t.place slot=i)
 (c:∀a,(w.params.followText "set-order" = false->i<es.size->SetTable.below t.place a=i+1)->Q (((Kh w S ep es)[i]?).map λe=>(e.2,a)) s):YK prog w A (setNext S slot i ep) Q E s:=by
 refine Za (wpAny_setState_of f rfl g ?_);refine Za (Za (wpAny_askSetting (Zb ?_)));cases q:w.params.followText "set-order" with
 |true =>
  have e:({ program:=(model prog w).prog,params:=(model prog w).w.params }:Setting).params.followText "set-order" = true:=q;rw[Zd e];rw[Ze ()];refine Za (Za (wpAny_setState_of f rfl g ?_));refine Za (Za (wpAny_askSetting (Zb ?_)));rw[Zd e];refine Za (wpAny_askSetting (Zb (Zb ?_)));have:=c slot λz=>by rw[q] at z;cases z
  unfold Kh at this
  rwa [Zd q] at this
 |false =>
  have e:¬({ program:=(model prog w).prog,params:=(model prog w).w.params }:Setting).params.followText "set-order" = true:=by
   show ¬w.params.followText "set-order" = true;rw[q];simp
  rw[Ze e];have n:Kh w S ep es=es:=by unfold Kh;rw[q];rfl
  rw[n] at c;rw[(m q)];have b:t.led=true:=by rw[b];unfold yN;rw[q];rfl
  obtain⟨mask,place,dummies,finger,led,moves,plain⟩:=t;cases hp;cases b
  split
  .rename_i z;exact Zn z Zj
  .refine Za (Zb (Zb ?_));by_cases h:i<es.size
   .have j:i<place.size:=by rwa [hz]
    have:=c (place[i]+1) λ_ _=>RF l j;rw[Uy h] at this
    rwa [Uy h,Uy j]
   grind[Array.getElem?_eq_none]
abbrev Y7 (w:World)(it S:Addr)(es:Array (Int×Value))(ep:Nat)(t:YE)(i:Nat)(h:Heap):Prop:=(∃slot,GY h it S slot i es.size ep/\(w.params.followText "set-order" = false->i<=es.size->SetTable.below t.place slot=i))/\h.get? S=some (WL es ep t)
structure SetGood (w:World)(es:Array (Int×Value))(t:YE):Prop where
 fits:t.fits es.size=true
 plain:t.plain=true
 led:t.led=yN w
 up:zL t.place
 size:t.place.size=es.size
def RJ (G:SetGood w es t)(st:Y7 w it S es ep t i s.heap)(o:i<es.size)
 (p:∀f x,(∃k,(Kh w S ep es)[i]? = some (k,x))->Y7 w it S es ep t (i+1) f->Heap.SameBut it s.heap f->Q (some x) { s with heap:=f }):YK prog w A (pyNext (.ref it)) Q E s:=by
 obtain⟨⟨m,a,g⟩,j⟩:=st;have n:s.TypeIs (.ref it) "set_iterator" := ⟨_,a,rfl⟩;have e:S≠it:=by grind
 unfold pyNext;refine Za (wpAny_attempt (wpAny_callSpecial?_slot n vx
  (wpAny_call_entry vx n GU ?_ (GW _))))
 unfold Builtin.«set_iterator.__next__» slotArgs;simp only[UC,bind_assoc];refine Za (Zb ?_);refine Za (wpAny_fieldsOf a rfl (Za (wpAny_setEntries_of j rfl G.fits ?_)));simp;refine Za (Hb j G.fits G.plain G.led G.up G.size () λc hs=>?_);have q:i<(Kh w S ep es).size:=by rwa [CW]
 rw[Uy q];refine Za (wpAny_setField_rec a () λh₁ he₁ hs₁=>(Za (wpAny_setField_rec he₁ () λh₂ he₂ hs₂=>?_)));refine Zb ⟨_,rfl,Zb (p h₂ _ () ⟨⟨c,?_,λz _=>hs z o⟩,hs₂.extBut _ _ e (hs₁.extBut _ _ e j)⟩ ⟨hs₂.1.trans hs₁.1,λb g=>(hs₂.2 b g).trans (hs₁.2 b g)⟩)⟩;unfold GY;simpa [rawInt] using he₂
def RK (h:A.handled=none)(G:SetGood w es t)(st:Y7 w it S es ep t i s.heap)(l:i=es.size)
 (j:∀c,Heap.ExtBut it s.heap c->Q none { s with heap:=c }):YK prog w A (pyNext (.ref it)) Q E s:=by
 obtain⟨⟨e,a,m⟩,f⟩:=st;have g:s.TypeIs (.ref it) "set_iterator" := ⟨_,a,rfl⟩;unfold pyNext;refine Za (wpAny_attempt (wpAny_callSpecial?_slot (name:=Str.ofString "__next__") g vx
  (wpAny_call_entry vx g GU ?_ (GW _))))
 unfold Builtin.«set_iterator.__next__» slotArgs;simp only[List.isEmpty_nil,Bool.not_true,UC,↓reduceIte,ZC];refine Za (Zb ?_);refine Za (wpAny_fieldsOf a rfl ?_);dsimp only;refine Za (wpAny_setEntries_of f rfl G.fits ?_);simp[Int.toNat_natCast];refine Za (Hb f G.fits G.plain G.led G.up G.size () λb hs=>?_);rw[VV (by rw[CW];lia)];refine Za (wpAny_setField a rfl () (Za ?_));refine Za (wpAny_newObj_type (Za (wpAny_of_eq (by first|rfl|(simp only)) ?_)) (by size_fits));refine wpAny_newObj_type (Za (wpAny_handled ?_)) (by size_fits);rw[h];refine Za (Zb (wpAny_throw ?_));exact Za (wpAny_isInstance ⟨_,Zr _ rfl,rfl⟩ isSubtype_stop (Zb (j _ (((Heap.SameBut.update ..).extBut.push _).push _))))
end
def RL (p:A.handled=none)(G:SetGood w es t):WalksS prog w A it [it,S] [it] (λg q=>q=g) es.size (λi v=>∃k,(Kh w S ep es)[i]? = some (k,v)) (λi s=>Y7 w it S es ep t i s.heap):=
 (show Walks prog w A it [it,S] [it] es.size (λi v=>∃k,(Kh w S ep es)[i]? = some (k,v)) (λi h=>Y7 w it S es ep t i h) from {
  sub:=by simp
  frame:=by grind
  item:=λi s Q E r st a=>RJ G st r λc x u f y=>a x c s.toks u f λb o m e=>y.extBut b o () e
  done:=λs Q E st a=>RK p G st rfl λc z=>a c s.toks λb o m e=>z b o () e
  self:=λi s Q E st a=>have ⟨⟨n,j,m⟩,B⟩:=st;have l:=⟨_,j,rfl⟩;wpAny_pyIter_slot l GX (wpAny_call_entry GX l RB (Zb ⟨_,rfl, "set_iterator",_,l,vx.lookup,a⟩) (RC _)) }).toS
def RM:typeLookup (.type "set") "__len__" = pure (some (.builtin "set.__len__")):=by rw[typeLookup_type,builtinLookup_eq_fast];kernel_rfl
section
variable {prog:Program}{w:World}{A:Around}{E:Ya}{s:Shared}
def RN (a:s.TypeIs (.ref r) "set")(h:Q false s):YK prog w A (Builtin.List.listLengthHint (.ref r)) Q E s:=by
 refine Za (wpAny_specialOf a RM ?_);generalize c:("set.__len__" : String)=id0;subst c;exact Za (wpAny_isInstance (b:=true) a (by rw[isSubtype_type];kernel_rfl) (wpAny_ite_split (λe=>Zn e (by decide)) (λ_=>(Za (wpAny_typeOf a (Zb h))))))
def RO (hh:A.handled=none)(m:s.heap.get? S=some (WL es ep t))(G:SetGood w es t)(hn:es.size<=1000)
 (h:∀(f:Heap) (tk:Nat) (X:Yf),(∀b o,s.heap.get? b=some o->f.get? b=some o)->X.Perm (es.toList.map (·.2))->s.heap.objs.size<f.objs.size->R X { s with heap:=f,toks:=tk }):YK prog w A (collect (.ref S)) R E s:=by
 have H:S<s.heap.objs.size:=Zk m;have Y:s.TypeIs (.ref S) "set" := ⟨_,m,rfl⟩;unfold collect;refine Za (wpAny_runValue (codeAny_builtin F.entry_proto_collect ?_));rw[Around.under_plainId F.plain_proto_collect _];show wpAny _ A.in1 (newList [] >>= λl=>again (.builtin "list.__iadd__" ⟨[l,.ref S],[]⟩)) _ _ s;refine Za (wpAny_newObj_type ?_);refine Zb ⟨plainId_quiet F.plain_list_iadd _,codeAny_builtin F.entry_list_iadd ?_⟩;rw[Around.under_plainId F.plain_list_iadd _];generalize p:({ cls:=.type "list",data:=.seq ([]:Yf).toArray }:Obj)=no;have hL₁:(s.heap.push no).get? s.heap.objs.size=some no:=Zr _ (by rw[<- p];rfl);have ho₁:(s.heap.push no).get? S=some (WL es ep t):=Zq _ m;have hT₁:Shared.TypeIs { s with heap:=s.heap.push no } (.ref S) "set" := ⟨_,ho₁,rfl⟩;have q:S≠s.heap.objs.size:=Zi H;show wpAny _ A.in1 (Builtin.List.listExtendWith (.ref s.heap.objs.size) (.ref S) (.ref s.heap.objs.size)) _ _ _;unfold Builtin.List.listExtendWith;refine Za (wpAny_typeOf hT₁ ?_);have h1:Builtin.List.listSameRef (.ref s.heap.objs.size) (.ref S)=false:=by simp[Builtin.List.listSameRef,Ne.symm q]
 have h2:(Value.type "set" == Value.type "list")=false:=by decide
 have h3:(Value.type "set" == Value.type "tuple")=false:=by decide
 simp only[h1,h2,h3,Bool.or_false,UC,if_false];refine Za (RH (s:={ s with heap:=s.heap.push no }) ho₁ G.fits G.plain ?_);have K:(s.heap.push no).objs.size=s.heap.objs.size+1:=Heap.size_push ..;generalize L:(s.heap.push no).objs.size=I at *;generalize r:({ cls:=.type "set_iterator",data:=.fields #[.int 0 0,.int 0 0,.ref S,.int es.size 0,.int ep 0] }:Obj)=ni;have hS₂:=Zq ni ho₁;have hL₂:=Zq ni hL₁;have hI₂:((s.heap.push no).push ni).get? I=some ni:=by rw[<- L];exact Zr _ (by rw[<- r];rfl)
 refine Za (wpAny_holding (RN ⟨_,hS₂,rfl⟩ ?_));have M:I≠s.heap.objs.size:=()
 have u:∀N,(∀f tk c a,(∀b o,s.heap.get? b=some o->f.get? b=some o)->f.get? s.heap.objs.size=some { cls:=.type "list",dict:=none,data:=.seq a c,slots:=#[] }->a.toList.Perm (es.toList.map (·.2))->N (.ok (.ret (.ref s.heap.objs.size))) { s with heap:=f,toks:=tk }) ->
  ∀h c₁ tk,(∀b o,b≠s.heap.objs.size->((s.heap.push no).push ni).get? b=some o->h.get? b=some o)->h.get? s.heap.objs.size=some { cls:=.type "list",dict:=none,data:=.seq #[] c₁,slots:=#[] } ->
  codeAny (model prog w) A (.builtin "list.extend.loop" ⟨[.ref s.heap.objs.size,.ref I,.ref s.heap.objs.size],[]⟩) N { s with heap:=h,toks:=tk }:=by
  intro N hR h₀ c₁ tk v g;have O:s.heap.objs.size ∉ [I,S]:=by
   simp only[U0,Vn,or_false,not_or];exact()
  have x:h₀.get? I=some ni:=v I _ M hI₂;rw[<- r] at x;refine codeAny_extend_loopS (RL (prog:=prog) (w:=w) (A:=A.in1) (it:=I) (S:=S) (ep:=ep) hh G) (Zh hn (by rw[sizeLine_eq];lia)) s.heap.objs.size O _ es.size 0 { s with heap:=h₀,toks:=tk } #[] c₁ rfl (Ua _)
   ⟨⟨0,x,λ_ _=>RG _ G.up⟩,v S _ q hS₂⟩ g (ItemsOf.nil _) λs' a c J P i=>?_
  obtain⟨f,g',d',Q,T⟩:=s';have eg:g'=s.gens:=J.gens;have ed:d'=s.drawn:=J.drawn;have eo:T=s.os:=J.os;subst eg;subst ed;subst eo;refine hR f Q c a (λb o e=>?_) P ?_
  .have y:=Zk e;have z:b≠s.heap.objs.size:=Zi y;have U:b≠I:=Zi (Zg y (by rw[K];exact Nat.le_succ _));exact J.heap b o (by simp only[U0,Vn,or_false,not_or];exact⟨z,U⟩) (v b o z (Zq _ (Zq _ e)))
  .have el:a.toList=(Kh w S ep es).toList.map (·.2):=by
    apply VP;intro j;rw[Zv];by_cases Z:j<a.size
    .obtain⟨k,v⟩:=i.2 j a[j] (Uy Z);have:(Kh w S ep es).toList[j]? = some (k,a[j]):=by simpa using v
     rw[this];simp[Z]
    .have hw:(Kh w S ep es).toList[j]? = none:=Vq (by rw[Ui,CW,<- i.1];lia);rw[hw];exact Vq (by rw[Ui];lia)
   rw[el];exact(Ha w S ep es).map _
 have B:∀f tk c (a:Yn),(∀b o,s.heap.get? b=some o->f.get? b=some o)->f.get? s.heap.objs.size=some { cls:=.type "list",dict:=none,data:=.seq a c,slots:=#[] }->a.toList.Perm (es.toList.map (·.2)) ->
  YK prog w A (do
   let o <- load s.heap.objs.size
   match o.data with
    | .seq xs _=>pure xs.toList
    |_=>unsupported "internal:collect") R E { s with heap:=f,toks:=tk }:=λf tk c a C n hp=>by
  refine Za (wpAny_load n ?_);exact Zb (h f tk a.toList C hp (Zk n))
 have hL₂':((s.heap.push no).push ni).get? s.heap.objs.size=some { cls:=.type "list",dict:=none,data:=.seq #[] 0,slots:=#[] }:=by rw[hL₂,<- p]
 refine wpAny_ite_split (λ_=>?_) (λ_=>Zb ⟨plainId_quiet F.plain_extend_loop _,u _ (λf tk c a C n hp=>B f tk c a C n hp) _ 0 _ (λb o _ e=>e) hL₂'⟩);refine Za (wpAny_rule ?_);refine Za ?_;show wpAny _ _ (updateSeq s.heap.objs.size (·.push .none) >>= λ_=>updateSeq s.heap.objs.size (·.pop)) _ _ _;refine Za (wpAny_updateSeq hL₂' rfl ?_);have hL₃:=Heap.get?_update_self (Obj.mapSeq (·.push Value.none)) hL₂' rfl;refine wpAny_updateSeq (hz:=by seq_fits) hL₃ rfl ?_;have hL₄:=Heap.get?_update_self (Obj.mapSeq (·.pop)) hL₃ rfl;refine Zb ⟨plainId_quiet F.plain_extend_loop _,u _ (λf tk c a C n hp=>B f tk c a C n hp) _ _ _ (λb o y e=>?_) hL₄⟩;exact(Heap.get?_update_other _ _ (Ne.symm y)).trans ((Heap.get?_update_other _ _ (Ne.symm y)).trans e)
end
theorem Hc:∀{a:Yf} {r:Jy},W8 h a r->IsPairs h a r
 | [],[],_=>.nil
 | [],_::_,p=>by have:=p.1;simp at this
 |_::_,[],p=>by have:=p.1;simp at this
 |u::a,q::r,p=>by
  obtain⟨b,c,nb,t,v,e,f,g,j⟩:=p.2 0 q rfl;obtain rfl:=Zqi e;refine .cons ⟨b,c,_,nb,t,v,rfl,f,g,j,rfl⟩ (Hc ⟨by have:=p.1;simpa using this,λi x l=>p.2 (i+1) x l⟩)
def RP (R:RowAt h v r a o us n):yI h v r:=
 ⟨a,o,us.toArray,n,R.isv,R.get,R.cls,R.dat,Hc R.prs⟩
def jT (rs:Jz):Nat->List Nat
 | 0=>[]
 |n+1=>if(jT rs n).any (λi=>decide (rs.getD i []=rs.getD n [])) then jT rs n else jT rs n++[n]
def RQ (rs)(n):jT rs (n+1)=if(jT rs n).any (λi=>decide (rs.getD i []=rs.getD n [])) then jT rs n else jT rs n++[n]:=rfl
def qL (rs:Jz):Jz:=(jT rs rs.length).map λi=>rs.getD i []
theorem Xo (rs):∀n i,i∈jT rs n->i<n
 | 0,i,h=>by cases h
 |n+1,i,h=>by
  unfold jT at h
  split at h
  .have:=Xo rs n i h;lia
  .rcases Jb.mp h with q|q
   .have:=Xo rs n i q;lia
   simp_all
theorem CY (rs):∀n,(jT rs n).length<=n
 | 0=>Zf _
 |n+1=>by
  have:=CY rs n
  grind[jT,List.length_append,List.length_singleton]
theorem Hd (rs):∀n,((jT rs n).map λi=>rs.getD i []).Nodup
 | 0=>VB
 |n+1=>by
  have a:=Hd rs n;unfold jT
  grind
theorem He (rs):∀n r,r∈((jT rs n).map λi=>rs.getD i [])↔∃i,i<n/\rs.getD i []=r
 | 0,r=>by
  constructor
  .intro h;cases h
  lia
 |n+1,r=>by
  have a:=He rs n;unfold jT
  grind
def Hf (rs):(qL rs).Nodup:=Hd rs _
def Hg (rs):(qL rs).length<=rs.length:=by unfold qL;rw[Zql];exact CY rs _
theorem bC:r∈qL rs↔r∈rs:=by
 unfold qL;rw[He];constructor
 .grind
 .intro h;obtain⟨i,a,z⟩:=UG h;exact⟨i,a,()⟩
theorem Hh {same:Value->Value->Bool}{val:Nat->Value}{rs:Jz}{n:Nat}(h:∀i j,i<n->j<n->same (val i) (val j)=decide (rs.getD i []=rs.getD j [])):∀k,k<=n->xT same val k=(jT rs k).map val
 | 0,_=>rfl
 |k+1,hk=>by
  rw[AB,Hh h k (),RQ];unfold Wt;have e:((jT rs k).map val).any (same · (val k))=(jT rs k).any (λi=>decide (rs.getD i []=rs.getD k [])):=by
   rw[List.any_map,Vf,VM,VM];constructor
   .rintro⟨i,a,z⟩;exact⟨i,a,by rwa [<- h i k (by have:=Xo rs k i a;lia) ()]⟩
   .rintro⟨i,a,z⟩;exact⟨i,a,by show same (val i) (val k)=true;rwa [h i k (by have:=Xo rs k i a;lia) ()]⟩
  grind
theorem AD {G:Hp}{rs:Jz}{ys:YF}(h:qh G (rs.map rD) ys):∀ix:Yj,(∀i∈ix,i<rs.length)->qh G ((ix.map λi=>rs.getD i []).map rD) (ix.map λi=>ys.getD i .non)
 | [],_=>by rfl
 |i::ix,hi=>by
  have ⟨x,a,b⟩:=h.get (i:=i) (d:=rD (rs.getD i [])) ();rw[Zl,Zl,Zl];refine⟨x,_,?_,b,AD h ix ()⟩;rw[Qg a]
def zk (w:World)(S:Addr)(ys:YF):HO:=.ext λh=>∃es ep t a,h.get? S=some (WL es ep t)/\SetGood w es t/\es.size<=1000/\(es.toList.map (·.2)).Perm a/\ju ys a
def Hi (w:World):YF->Hp->VK->Prop:=λb H Q=>∃a ys rs,b=[.ref a]/\Rd H a (.lst ys)/\qh H (rs.map rD) ys/\rs.length<=999/\∀S,H S=none->Q (.ref S) (jB H S (zk w S ((jT rs rs.length).map λi=>ys.getD i .non)))
def Hj (w:World):YF->Hp->VK->Prop:=λb H Q=>∃S ys rs,b=[.ref S]/\H S=some (zk w S ys)/\qh H (rs.map rD) ys/\(∀r∈rs,r ≠ [])/\rs.length<1000 /\
 ∀l a,H l=none->(∀G,qh G (rs.map rD) ys->qh G ((JV j9 rs).map rD) a)->Q (.ref l) (jB H l (.lst a))
def RR (p:us.Perm vs):∀{f:YF} {rs:Jz},ju f us->f.length=rs.length->∃(a:YF) (b:Jz),ju a vs/\b.Perm rs/\a.length=b.length/\∀G,qh G (rs.map rD) f->qh G (b.map rD) a:=by
 induction p with
 |nil=>exact λ{f rs} h c=>⟨f,rs,h,.refl _,c,λ_ h=>h⟩
 |cons x _ C =>
  intro f rs h c;cases h with
  |cons r h =>
   cases rs with
   |nil=>simp at c
   |cons q rs =>
    obtain⟨a,b,j,m,n,o⟩:=C h (by simpa using c);refine⟨_::a,q::b,.cons r j,m.cons q,by simp[n],λG g=>?_⟩;obtain⟨y,w,e,i,t⟩:=g;cases e;exact⟨_,_,rfl,i,o G t⟩
 |swap x y l =>
  intro f rs h c;cases h with
  |cons r h =>
   cases h with
   |cons F h =>
    cases rs with
    |nil=>simp at c
    |cons q rs =>
     cases rs with
     |nil=>simp at c
     |cons H rs =>
      refine⟨_,H::q::rs,.cons F (.cons r h),.swap _ _ _,by simpa using c,λG g=>?_⟩;obtain⟨y,w,e,i,t⟩:=g;cases e;obtain⟨y,w,e,I,J⟩:=t;cases e;exact⟨_,_,rfl,I,⟨_,_,rfl,i,J⟩⟩
 |trans _ _ u v =>
  intro f rs h c;obtain⟨a,b,j,m,n,o⟩:=u h c;obtain⟨z,B,i,K,L,M⟩:=v j n;exact⟨z,B,i,K.trans m,L,λG g=>M G (o G g)⟩
section
variable {X:Cx}
def call_setRows (L:X.calm=true)(hu:X.A.units+64<cLine):jU X (.type "set") (Hi X.w):=by
 intro Y s Z H xs G Q I M h;obtain⟨a,ys,rs,rfl,N,J,hl,q⟩:=h;obtain⟨u,rfl,O⟩:=QU M;obtain rfl:u=Value.ref a:=O;obtain⟨its,p,pl,hz⟩:=I.list (.inl N);have P:=J.length;have l2:=p.length;rw[Zql] at P;have sz:its.toArray.size=its.length:=Zm;have S:∀i,its.toArray.getD i .none=its.getD i .none:=λi=>by
  simp
 have T:∀i,i<its.length->yI s.heap (its.getD i .none) (rs.getD i []):=λi f=>by
  have hr:i<rs.length:=()
  obtain⟨x,g,U⟩:=J.get (i:=i) (d:=rD (rs.getD i [])) ();obtain⟨v,l,y⟩:=p.get g;obtain⟨b,o,ws,n,R⟩:=Cc I.hok U y;rw[Qg l];exact RP R
 refine Ry (I.ok.hd L) pl.isList (R9 X.prog X.w s.heap) (λi v l=>?_) () () λh' tk H' kk=>?_
 .grind
 .have same:∀i j,i<its.toArray.size->j<its.toArray.size->(λv u=>decide (yL s.heap v=yL s.heap u)) ((λi=>its.toArray.getD i .none) i) ((λi=>its.toArray.getD i .none) j)=decide (rs.getD i []=rs.getD j []):=λi j f hj=>by
   grind[AC]
  obtain⟨es,t,m,B,led,plain⟩:=H';rw[Hh same _ (Zf _)] at B;obtain⟨ep,K⟩:=m.at_;have en:its.toArray.size=rs.length:=()
  rw[en] at B;have c:(es.toList.map (·.2)).Perm ((jT rs rs.length).map λi=>its.getD i .none):=by
   have:=B.map (·.2);rw[Zw,Zw] at this;refine this.trans (List.Perm.of_eq (UZ λi _=>?_));exact S i
  have vl:ju ((jT rs rs.length).map λi=>ys.getD i .non) ((jT rs rs.length).map λi=>its.getD i .none):=Xc λi f=>by
   have f:=Xo rs _ i f;obtain⟨x,g⟩:∃x,ys[i]? = some x:=⟨ys[i]'(),()⟩;obtain⟨v,l,y⟩:=p.get g;rw[Qg g,Qg l];exact y
  have C:es.size<=1000:=by
   have:=c.length_eq;rw[Zql,Zql,Ui] at this;have:=CY rs rs.length;lia
  have F:t.place.size=es.size:=by
   have:=m.tab.size;rw[Uj] at this;exact this
  refine⟨.ref s.heap.objs.size,jB H s.heap.objs.size (zk X.w s.heap.objs.size ((jT rs rs.length).map λi=>ys.getD i .non)),I.laid (λb o e=>kk b o (Zk e) e) (Zf _) ?_,rfl,q _ (I.hok.fresh (Zf _))⟩;refine⟨⟨es,ep,t,_,K,⟨m.tab.fits,plain,led,m.tab.up,F⟩,C,c,vl⟩,⟨_,K⟩,λh1 h2 z kp=>?_⟩;have ⟨es,ep,t,G,e,r⟩:=z;exact⟨es,ep,t,G,kp _ e,r⟩
def RU (I:Inv X Y Z H s)(h:H S=some (zk X.w S ys)):∃es ep t a,s.heap.get? S=some (WL es ep t)/\SetGood X.w es t/\es.size<=1000/\(es.toList.map (·.2)).Perm a/\ju ys a:=(I.hok S _ h).1
def RV
 (j:wpAny (model prog w) A.in1 (collect x) (λa c=>∃lt,Wk lt/\a.length<1000/\(∀f,(∀b o,c.heap.get? b=some o->f.get? b=some o)->2<=a.length->zP prog w A.in1.in1 { c with heap:=f } a lt) /\
  ∀g f l,Pl a.length g a.length->Up lt g a.length->(∀b o,c.heap.get? b=some o->f.get? b=some o)->c.heap.objs.size<=l->(∃e,f.get? l=some (seqObj "list" (g.map (jC a)) e))->Q (.ref l) { c with heap:=f }) E s):
 YK prog w A (call (.builtin "sorted") [x]) Q E s:=by
 refine Calls.call_function_entry kind_sorted plain_sorted entry_sorted (args_sorted1 _) (Za (Zb (Za (Zc j (λa c z=>?_) λ_ _ e=>e))));obtain⟨lt,W,h,m,n⟩:=z;have i:(c.heap.push (seqObj "list" a.toArray 0)).get? c.heap.objs.size=some (seqObj "list" a.toArray 0):=Zr _ rfl;have q:∀b o,c.heap.get? b=some o->b≠c.heap.objs.size:=λb o e=>Zi (Zk e);refine Za (wpAny_newList (Za (wpAny_holding (wpAny_call_entry slot_list_sort ⟨_,i,rfl⟩ entry_list_sort (Fb W i h (λf r=>m f λb o e=>r b o (q b o e) (Zq _ e)) λg p u=>⟨_,rfl,Zb ⟨_,rfl,n g _ _ p u (λb o e=>?_) (Zf _) (sortedHeap_at i)⟩⟩) (args_list_sort _)))))
 grind[size_push',sortedHeap_old,Nat.lt_succ_of_lt,Heap.lt_size,Heap.get?_push_of_some]
def call_sortedSet (hc:X.calm=true)(hu:X.A.units+64<cLine):jU X (.builtin "sorted") (Hj X.w):=by
 intro Y s Z H xs us Q I rv h;obtain⟨S,ys,rs,rfl,hS,T,J,h64,q⟩:=h;obtain⟨u,rfl,ru⟩:=QU rv;obtain rfl:u=Value.ref S:=ru;obtain⟨es,ep,t,ws,ho,G,hsz,U,vl⟩:=RU I hS;have l1:=T.length;rw[Zql] at l1;have K:∀m:Yf,m.Perm (es.toList.map (·.2))->m.length=rs.length:=λm n=>by
  have a:=n.length_eq;have b:=U.length_eq;have c:=vl.length;lia
 refine RV (RO (A:=X.A.in1) (E:=X.xe) (I.ok.hd hc) ho G hsz λh1 tk m kk n hsz1=>?_);obtain⟨g,f,y,L,l2,g2⟩:=RR (U.symm.trans n.symm) vl ();have lv:=K m n;have lr:=L.length_eq;have A2:=g2 H T;have M:∀r∈f,r ≠ []:=λr hr=>J r (L.mem_iff.mp hr);refine⟨λi j=>j9 (f.getD i []) (f.getD j []),xM.wk λi=>f.getD i [],(),λh' N h2=>Fj (by show X.A.units+1+1+4<cLine;lia) (I.hok.kept λb o e=>N b o (kk b o e)) A2 y M h2,λz h' l p u N hl O=>?_⟩;have ⟨e,O⟩:=O;have P:m.length=f.length:=()
 rw[P] at p u;have B:s.heap.objs.size<=l:=by
  have hl:h1.objs.size<=l:=hl;lia
 have at_:∀i∈z.toList,∃x v,g[i]? = some x/\m[i]? = some v/\jv x v:=λi C=>by
  have hn:=p.mem C;have ⟨x,F⟩:∃x,g[i]? = some x:=⟨g[i]'(),()⟩;have ⟨v,n,rr⟩:=y.get F;exact⟨x,v,F,n,rr⟩
 have sp:=Cb xM p u;have se:=Af xM (((Q4 f).trans L).trans (Q4 rs).symm) (W7 xM f) (W7 xM rs);have R:=q l (z.toList.map λi=>g.getD i .non) (I.hok.fresh B) λG hG=>by
  have:=AD (g2 G hG) z.toList λi C=>p.mem C
  rwa [sp,se] at this
 refine⟨.ref l,jB H l (.lst (z.toList.map λi=>g.getD i .non)),I.laid (λb o e=>N b o (kk b o e)) B ⟨?_,z.toList.map (jC m),e,?_,?_⟩,rfl,R⟩
 .rw[Zql,p.len];exact QY ()
 .refine Xc λi C=>?_;have ⟨x,v,F,n,rr⟩:=at_ i C;unfold jC
  rwa [Qg F,Qg n]
 .rw[O]
  congr 3
  apply Vj;simp
end
end L2.ST
namespace L2.DL
open PySem PySem.Spec PyProof.Rows L2.ST
def Y8:YH->YI
 | [.lst ds]=>(Q9 K0 ds).bind λrs=>if(∀r∈rs,r ≠ [])/\(qL rs).length<1000/\rs.length<=999 then some (.lst ((JV j9 (qL rs)).map jz)) else none
 |_=>none
section
variable {X:Cx}{E:XK}{fr:FA}{es:Ym}{e:Expr}
def RW (h:∀{s:TA},PA X es s->PE X e (ve (Hj X.w) (B5 (ve (Hi X.w) s) vb)))(y:QA X E es fr):QN X E e (jq Y8 fr):=PE.weak (h y) λZ H Q A=>by
 obtain⟨B,F,sd,r,n⟩:=A;refine⟨B,F,sd,r,(ja n).mono (λds C O c g b I=>?_) λ_ _ q=>q⟩;obtain⟨z,hz,q⟩:=jh C;unfold Y8 at hz
 split at hz
 .obtain⟨rs,J,hz⟩:=Jg.mp hz
  split at hz
  .rename_i j;obtain rfl:=Zqi hz;obtain⟨v,rfl,h⟩:=QB I;rw[Cp J,jn] at h;obtain⟨a,ys,rfl,K,m⟩:=h;refine⟨a,ys,rs,rfl,K.same b.fh,zW.mp (jd.same b.fh _ _ m),j.2.2,λS t=>?_⟩;have u:∀G,qh G (rs.map rD) ys->qh G ((qL rs).map rD) ((jT rs rs.length).map λi=>ys.getD i .non):=λG o=>AD o _ λi L=>Xo rs _ i L;refine⟨S,_,qL rs,rfl,JM,u _ (qh.same (Kx t (zk X.w S ((jT rs rs.length).map λi=>ys.getD i .non))) _ _ (zW.mp (jd.same b.fh _ _ m))),λr M=>j.1 r (bC.mp M),j.2.1,λl N w o=>?_⟩;have p:l≠S:=λz=>by simp_all [JM]
   have f:g l=none:=by rwa [JJ p] at w
   have x:Ext c g c (jB g S (zk X.w S ((jT rs rs.length).map λi=>ys.getD i .non))):=.keep b.fh t _;exact(q.ext b) l c _ (x.trans (.keep x.fh w _)) f (Qj b.fh f) ⟨N,JM,zW.mpr (o c (u c (zW.mp m)))⟩
  .exact J6 hz
 simp_all
end
def bt_set:bootBuiltins "set" = some (.type "set"):=by kernel_rfl
def RX (h:∀r∈rs,r ≠ [])(a:(qL rs).length<1000)(b:rs.length<=999):Y8 [.lst (rs.map jz)]=some (.lst ((JV j9 (qL rs)).map jz)):=by
 show(Q9 K0 (rs.map jz)).bind _=_
 simp_all [Co]
end L2.DL
namespace L2.ST
def za (a b:Jy):Bool:=decide (a.length<b.length)||(decide (a.length=b.length)&&j9 a b)
theorem Xp:za a b=true↔a.length<b.length\/(a.length=b.length/\j9 a b=true):=by
 simp_all [za]
def CZ:za a b=false↔b.length<a.length\/(a.length=b.length/\j9 a b=false):=by
 grind[Xp]
def vv:Tot za where
 asy:=λa b h=>by
  rw[Xp] at h;rw[CZ];rcases h with h|⟨f,e⟩
  .exact .inl h
  .exact .inr ⟨f.symm,xM.asy _ _ e⟩
 neg:=λa b c h=>by
  rw[Xp] at h;rw[Xp,Xp];rcases h with h|⟨f,e⟩
  .omega
  .rcases Vc a.length b.length with z|z|z
   .exact .inl (.inl z)
   .rcases xM.neg a b c e with y|y
    .exact by grind
    simp_all
   lia
 tot:=λa b f e=>by
  rw[CZ] at f e;rcases f with f|⟨f,h3⟩<;>rcases e with e|⟨e,h4⟩
  .omega
  .omega
  .omega
  .exact xM.tot _ _ h3 h4
def RY (hs:l.Pairwise λa b=>j9 a b=true)(p:Pl l.length jx l.length)(u:Up (λi j=>decide (((l.getD i []).length:Int)<((l.getD j []).length:Int))) jx l.length):jx.toList.map (λi=>l.getD i [])=JV za l:=by
 refine Af vv ?_ ?_ (W7 vv l)
 .refine Vx ?_ (Q4 l).symm;have q:jx.toList.Perm (List.range l.length):=by
   have:=Jo.mp p.perm;simpa using this
  refine(q.map _).trans (List.Perm.of_eq ?_);apply List.ext_getElem
  .simp
  .intro i r g;simp[g]
 .refine Ji.mpr λa b h m ab=>?_;rw[VL,VL];have sz:jx.toList.length=l.length:=by rw[Ui,p.size]
  rw[Zql] at h m;have n:jx.toList[a]=gx jx a:=by
   simp_all [gx]
  have o:jx.toList[b]=gx jx b:=by
   simp_all [gx]
  rw[n,o];have e:=p.lt (Zf _) (show a<l.length from ());have f:=p.lt (Zf _) (show b<l.length from ());have c:=u a b ab ();generalize gx jx a=i at c e;generalize gx jx b=j at c f;rw[CZ];rcases c with c|⟨c,ij⟩
  .simp_all
  .have:=of_decide_eq_false c;rcases Vd (l.getD i []).length (l.getD j []).length with z|z
   .exact .inl z
   .refine .inr ⟨(),xM.asy _ _ ?_⟩;have:=Ji.mp hs i j e f ij
    simp_all
section
variable {prog:Program}{w:World}{A:Around}{E:Ya}{s:Shared}
def RZ (e:IntsAre a kz)(f:kz.length=vs.length):xY prog w A s oneType' (λi=>(jC a i,jC vs i)) (λi j=>decide (kz.getD i 0<kz.getD j 0)) vs.length:=by
 have at_:∀{a:Yf} {kz:Yh},IntsAre a kz->∀i,i<kz.length->∃t,jC a i=.int (kz.getD i 0) t:=by
  intro a kz h
  induction h with
  |nil=>simp
  |cons n t _ b =>
   intro i c;cases i with
   |zero=>exact⟨t,rfl⟩
   |succ i=>exact b i ()
 intro i j c g E Q l
 grind[W.kat_lt_int]
def Sa (kz:Yh):Wk λi j=>decide (kz.getD i 0<kz.getD j 0):=
 ⟨λi j h=>(),()⟩
def Sb (p:IntsAre keys.toList kz)(C:kz.length=vs.length)(q:vs.length<1000)(r:kS≠a)
 (x:s.heap.get? kS=some (seqObj "list" keys e)) (F:s.heap.get? a=some (seqObj "list" #[] e1))
 (h:∀f t,Pl vs.length f vs.length->Up (λi j=>decide (kz.getD i 0<kz.getD j 0)) f vs.length->(∀b o,b≠kS->b≠a->s.heap.get? b=some o->t.get? b=some o)->(∃c,t.get? a=some (seqObj "list" (f.map (jC vs)) c))->P (.done (.ret .none)) { s with heap:=t }):
 YK prog w A (ksk_end a false vs.toArray e1 (.ref kS) keys) P E s:=by
 have hsz:keys.size=vs.length:=by
  have M:=p.length
  simp_all
 have N:keys=keys.toList.toArray:=Array.toArray_toList.symm;have y:keys.zip vs.toArray=(Array.range vs.length).map λi=>(jC keys.toList i,jC vs i):=by
  apply Array.ext_getElem?;intro k;rw[UO];by_cases u:k<vs.length
  .rw[Array.getElem?_range,Zd u]
   grind[jC,List.getD_eq_getElem?_getD,Array.length_toList,Array.getElem?_zip_eq_some,Zqg]
  grind
 have m:∀st (f:Yi),arrOf st=f.map (λi=>(jC keys.toList i,jC vs i))->failedOf st=none->Pl vs.length f vs.length->Up (λi j=>decide (kz.getD i 0<kz.getD j 0)) f vs.length->YK prog w A (ksk_tail a false e1 (.ref kS) st) P E s:=by
  intro st f G H z I;have J:(arrOf st).map (·.2)=f.map (jC vs):=by rw[G,Array.map_map];rfl
  unfold ksk_tail;dsimp only;rw[J,H];obtain⟨B,g1⟩:∃B,(s.heap.update kS (Obj.mapSeq λ_ => #[])).get? kS=some (seqObj "list" #[] B):=⟨_,get?_update_seq x (λ_ => #[])⟩;have g:(s.heap.update kS (Obj.mapSeq λ_ => #[])).get? a=some (seqObj "list" #[] e1):=by rw[Heap.get?_update_ne _ _ _ _ (Ne.symm r)];exact F
  refine Za (listUpdate_at x rfl ?_ (by rw[hsz,sizeLine_eq];lia) (Ua _));refine Za (wpAny_letGo ?_);refine Za (seqEpoch_at (s:={ s with heap:=s.heap.update kS (Obj.mapSeq λ_ => #[]) }) g rfl (Za (listUpdate_at (s:={ s with heap:=s.heap.update kS (Obj.mapSeq λ_ => #[]) }) g rfl ?_ (Ua _) (by rw[Ze Zj,Uj,z.size,sizeLine_eq];lia))));simp only[bne_self_eq_false,UC,if_false];refine Zb (h f _ z I (λb o K v L=>?_) ?_)
  .show((s.heap.update kS (Obj.mapSeq λ_ => #[])).update a (Obj.mapSeq λ_=>f.map (jC vs))).get? b=some o;rw[Heap.get?_update_ne _ _ _ _ v,Heap.get?_update_ne _ _ _ _ K];exact L
  .exact⟨_,get?_update_seq g (λ_=>f.map (jC vs))⟩
 unfold ksk_end;dsimp only;simp only[UC,if_false];by_cases l:vs.toArray.size<2
 .rw[Zd l,Zd l];refine Za (Zb (m _ (Array.range vs.length) y rfl (Ae _ _ (Zf _)) λi j O R=>?_));rw[Zm] at l;lia
 .rw[Ze l,Ze l];rw[Zm] at l;rw[ksk_kind p (by rw[hsz];lia)];refine Za (Zb ?_);refine Za (Zc (EZ (Sa kz) (RZ p C) (Q:=λ_ n=>∃f,arrOf n=f.map (λi=>(jC keys.toList i,jC vs i))/\failedOf n=none/\Pl vs.length f vs.length/\Up (λi j=>decide (kz.getD i 0<kz.getD j 0)) f vs.length)
   ⟨y,rfl,rfl,rfl⟩ (Ae _ _ ()) () q ()) ?_ λ_ _ e=>e)
  exact()
def Sc {a q:Addr}{f:Value}{m:Yf}{kz:Yh}{L:Nat}{P:PySem.Fin->YC}(O:kz.length=m.length)(F:m.length<1000)(G:q≠a)
 (Q:s.heap.get? q=some (seqObj "list" #[] 0)) (hA:s.heap.get? a=some (seqObj "list" #[] L))
 (z:∀(i:Nat) v k,m[i]? = some v->kz[i]? = some k->∀h tk,(∀b o,b≠q->b≠a->s.heap.get? b=some o->h.get? b=some o) ->
  YK prog w A (call f [v]) (λr s'=>∃t H,r=.int k t/\s'={ s with heap:=h,toks:=H }) (λ_ _=>False) { s with heap:=h,toks:=tk })
 (h:∀C l tk,Pl m.length C m.length->Up (λi j=>decide (kz.getD i 0<kz.getD j 0)) C m.length->(∀b o,b≠q->b≠a->s.heap.get? b=some o->l.get? b=some o)->(∃c,l.get? a=some (seqObj "list" (C.map (jC m)) c))->P (.done (.ret .none)) { s with heap:=l,toks:=tk }):
 YK prog w A (ksk_rest a f false m.toArray L (.ref q)) P E s:=by
 unfold ksk_rest;refine Za (wpAny_rule ?_)
 first
  |rw[List.forIn_toArray]
  | (rw[<- Vo];simp only[List.toList_toArray])
  |rw[<- Vo]
 refine Za (ksk_fold (λi s'=>∃l tk y e,s'={ s with heap:=l,toks:=tk }/\(∀b o,b≠q->s.heap.get? b=some o->l.get? b=some o)/\l.get? q=some (seqObj "list" y e)/\IntsAre y.toList (kz.take i)) m 0 s
  ⟨s.heap,s.toks,#[],0,rfl,λ_ _ _ e=>e,Q,by simpa using IntsAre.nil⟩ ?step ?done)
 case step =>
  rintro j x s' R ⟨l,tk,y,e,rfl,M,n,I⟩;simp only[Nat.zero_add] at I ⊢;have hj:j<m.length:=();obtain⟨k,hkj⟩:∃k,kz[j]? = some k:=⟨_,Zqg ()⟩;have hz:y.size<=m.length:=by
   have S:=I.length;rw[Ui,Uv] at S;lia
  refine Za (wpAny_attempt (Zc (z j x k R hkj l tk λb o T _ U=>M b o T U) (λv X Y=>?_) λ_ _ Z=>Z.elim));obtain⟨B,J,rfl,rfl⟩:=Y
  try dsimp only
  obtain⟨N,hc2⟩:∃N,(l.update q (Obj.mapSeq (·.push (.int k B)))).get? q=some (seqObj "list" (y.push (.int k B)) N):=⟨_,get?_update_seq n (·.push (.int k B))⟩;have ek:kz.take (j+1)=kz.take j++[k]:=by rw[VC,hkj];simp
  have ea:(y.push (Value.int k B)).toList=y.toList++[Value.int k B]:=by simp
  refine Za (listUpdate_at (s:={ s with heap:=l,toks:=J }) n rfl ?_ (by rw[sizeLine_eq];lia) (Zh (Yx (Array.size_push ..)) (by rw[sizeLine_eq];lia)))
  grind[wpAny_pure,ksk_snoc,Heap.get?_update_ne]
 case done =>
  rintro s' ⟨l,tk,y,e,rfl,M,n,I⟩;have K:IntsAre y.toList kz:=by
   grind[List.take_of_length_le]
  try dsimp only
  refine Za (listItems_at n rfl ?_);exact Sb K O F G n () λC h2 p u k2 g=>by grind
def Se {a:Addr}{f:Value}{l:Yf}{kz:Yh}{n:Nat}{P:PySem.Fin->YC}(m:s.heap.get? a=some (seqObj "list" l.toArray n))(G:kz.length=l.length)(y:l.length<1000)
 (C:∀(i:Nat) v k,l[i]? = some v->kz[i]? = some k->∀h tk,(∀b o,b≠a->s.heap.get? b=some o->h.get? b=some o) ->
  YK prog w A (call f [v]) (λr s'=>∃t z,r=.int k t/\s'={ s with heap:=h,toks:=z }) (λ_ _=>False) { s with heap:=h,toks:=tk })
 (h:∀q x tk,Pl l.length q l.length->Up (λi j=>decide (kz.getD i 0<kz.getD j 0)) q l.length->(∀b o,b≠a->s.heap.get? b=some o->x.get? b=some o)->(∃c,x.get? a=some (seqObj "list" (q.map (jC l)) c))->P (.done (.ret .none)) { s with heap:=x,toks:=tk }):
 YK prog w A (ksk_tree a f false) P E s:=by
 have H:a<s.heap.objs.size:=Zk m;obtain⟨F,ho1⟩:∃F,(s.heap.update a (Obj.mapSeq λ_=>(#[]:Yn))).get? a=some (seqObj "list" #[] F):=⟨_,get?_update_seq m λ_ => #[]⟩;have B:((s.heap.update a (Obj.mapSeq λ_=>(#[]:Yn))).push (seqObj "tuple" l.toArray 0)).objs.size=s.heap.objs.size+1:=by simp
 unfold ksk_tree;refine Za (listItems_at m rfl ?_);refine Za (listUpdate_at m rfl ?_ (by rw[Zm,sizeLine_eq];lia) (Ua _));refine Za (seqEpoch_at ho1 rfl (Za (wpAny_newTuple ?_ (by show l.length<=_;rw[sizeLine_eq];lia))));refine Za (wpAny_newList (wpAny_holding ?_) (Ua _));have I:∀{b o},s.heap.get? b=some o->b≠s.heap.objs.size/\b≠s.heap.objs.size+1:=λe=>⟨Zi (Zk e),Zi (UB (Zk e))⟩;have keep:∀b o,b≠a->s.heap.get? b=some o->(((s.heap.update a (Obj.mapSeq λ_=>(#[]:Yn))).push (seqObj "tuple" l.toArray 0)).push (seqObj "list" #[] 0)).get? b=some o:=λb o J e=>by
  grind[Heap.get?_push_of_some,Heap.get?_update_ne]
 refine Sc
  G y (by rw[B];exact U6 (UB H)) (Zr _ rfl) (Zq _ (Zq _ ho1))
  ()
  (λq x tk p u K g=>())
end
section
variable {X:Cx}
def Hk:YF->Hp->VK->Prop:=λe H Q=>∃a ys rs,e=[.ref a]/\Rd H a (.lst ys)/\qh H (rs.map rD) ys/\rs.Pairwise (λa b=>j9 a b=true)/\rs.length<1000/\(∀r∈rs,r.length<=1000) /\
 ∀l c,H l=none->(∀G,qh G (rs.map rD) ys->qh G ((JV za rs).map rD) c)->Q (.ref l) (jB H l (.lst c))
def Sf {Y:Yb}{Z: St}{H:Hp}{s:Shared}{a:Addr}{ys:YF}{rs:Jz}{Q:VK}(I:Inv X Y Z H s)(U:Rd H a (.lst ys))(P:qh H (rs.map rD) ys)(hs:rs.Pairwise (λa b=>j9 a b=true))(h64:rs.length<1000)(E:∀r∈rs,r.length<=1000)
 (q:∀l S,H l=none->(∀G,qh G (rs.map rD) ys->qh G ((JV za rs).map rD) S)->Q (.ref l) (jB H l (.lst S))):
 YJ X (call (.builtin "sorted") [.ref a] [(Str.ofString "key",.builtin "len")]) (EP X Y Z Q) X.xe s:=by
 obtain⟨its,F,pl,hz⟩:=I.list (.inl U);have l1:=P.length;have l2:=F.length;rw[Zql] at l1;have J:its.length=rs.length:=()
 have hl:=pl.isList;have keep:∀b o,s.heap.get? b=some o->(((s.heap.push (seqObj "list" #[] 0)).update s.heap.objs.size (Obj.mapSeq (· ++ its.toArray))).push (seqObj "list" its.toArray 0)).get? b=some o:=λb o q=>by
  have w:b<s.heap.objs.size:=Zk q;refine Zq _ ?_;rw[Heap.get?_update_ne _ _ _ _ (Zi w),Heap.get?_push_ne _ _ _ (Zi w)];exact q
 have hsz:((s.heap.push (seqObj "list" #[] 0)).update s.heap.objs.size (Obj.mapSeq (· ++ its.toArray))).objs.size=s.heap.objs.size+1:=by
  simp
 have h:(((s.heap.push (seqObj "list" #[] 0)).update s.heap.objs.size (Obj.mapSeq (· ++ its.toArray))).push (seqObj "list" its.toArray 0)).get? (s.heap.objs.size+1)=some (seqObj "list" its.toArray 0):=by
  rw[<- hsz];exact Zr _ rfl
 refine call_function_entry_kw kind_sorted plain_sorted entry_sorted (ksk_s1 _ _) ?_;unfold Builtin.«sorted»;refine Za (m:=checkCount "sorted" 1 1 _) (Zb ?_);refine Za (collect_list hl ?_ (by rw[J,sizeLine_eq];lia));refine Za (wpAny_newList ?_ (by rw[J,sizeLine_eq];lia));show wpAny _ _ _ _ _ { s with heap:=((s.heap.push (seqObj "list" #[] 0)).update s.heap.objs.size (Obj.mapSeq (· ++ its.toArray))).push (seqObj "list" its.toArray 0) };rw[hsz];generalize hH:((s.heap.push (seqObj "list" #[] 0)).update s.heap.objs.size (Obj.mapSeq (· ++ its.toArray))).push (seqObj "list" its.toArray 0)=hp at keep h;refine Za (wpAny_holding (wpAny_call_entry_kw slot_list_sort ⟨_,h,rfl⟩ entry_list_sort ?body (ksk_l1 _ _)))
 case body =>
  show wpAny (model X.prog X.w) X.A.in1.in1 (Builtin.«list.sort» ⟨[.ref (s.heap.objs.size+1)],[(Str.ofString "key",.builtin "len")]⟩) _ _ _;rw[ksk_t4];refine Se (s:={ s with heap:=hp }) (kz:=rs.map λr=>(r.length:Int)) h () () (λi v k y hk C tk K=>?_) λn C tk p u K g=>⟨_,rfl,Zb ⟨_,rfl,?_⟩⟩
  .have f:i<rs.length:=by
    have:=(Jc.mp hk).1
    rwa [Zql] at this
   obtain⟨x,t,hI⟩:=P.get (i:=i) (d:=rD (rs.getD i [])) (by rw[Zv,Zqg f,Qg (Zqg f)];rfl);obtain⟨v',z,A⟩:=F.get t;rw[y] at z;obtain rfl:=Zqi z;obtain⟨b,o,L,m,R⟩:=Cc I.hok hI A;obtain rfl:v=Value.ref b:=R.isv;have hb:b≠s.heap.objs.size+1:=Zi (UB (Zk R.get));have ht:IsTup C b L.toArray:=⟨o,K b o hb (keep b o R.get),R.cls,m,R.dat⟩;have M:L.length=(rs.getD i []).length:=R.prs.1;have ek:k=((rs.getD i []).length:Int):=by
    simp_all
   have T:(rs.getD i []).length<=1000:=by
    rw[Qg (Zqg f)];exact E _ (Uu f)
   have ev:Value.int ((L.toArray.size:Nat):Int) (tk+1)=Value.int k (tk+1):=by simp_all
   exact len_tuple (s:={ s with heap:=C,toks:=tk }) ht (by rw[Zm,M];lia) ⟨tk+1,tk+1+1,ev,rfl⟩
  .obtain⟨c,g⟩:=g;have N:∀b o,s.heap.get? b=some o->C.get? b=some o:=λb o e=>K b o (Zi (UB (Zk e))) (keep b o e);rw[J] at p u;have ud:(λi j=>decide ((rs.map λr=>(r.length:Int)).getD i 0<(rs.map λr=>(r.length:Int)).getD j 0))=λi j=>decide (((rs.getD i []).length:Int)<((rs.getD j []).length:Int)):=by
    have e:∀i,(rs.map λr=>(r.length:Int)).getD i 0=((rs.getD i []).length:Int):=λi=>by
     rw[Us,Zv,Us];cases rs[i]?<;>rfl
    funext i j
    rw[e,e]
   rw[ud] at u;have sp:=RY hs p u;have B:s.heap.objs.size<=s.heap.objs.size+1:=Nat.le_succ _;have at_:∀i∈n.toList,∃x v,ys[i]? = some x/\its[i]? = some v/\jv x v:=λi f=>by
    have hn:=p.mem f;obtain⟨x,t⟩:∃x,ys[i]? = some x:=⟨ys[i]'(),()⟩;obtain⟨v,y,A⟩:=F.get t;exact⟨x,v,t,y,A⟩
   have O:=q (s.heap.objs.size+1) (n.toList.map λi=>ys.getD i .non) (I.hok.fresh B) λG hG=>by
    have:=AD hG n.toList λi f=>p.mem f;rw[sp] at this;exact this
   refine⟨.ref (s.heap.objs.size+1),jB H (s.heap.objs.size+1) (.lst (n.toList.map λi=>ys.getD i .non)),I.laid (a:=s.heap.objs.size+1) (o:=.lst (n.toList.map λi=>ys.getD i .non)) (t':=tk) N B ⟨?_,n.toList.map (jC its),c,?_,?_⟩,rfl,O⟩
   .rw[Zql,p.len];exact QY ()
   .refine Xc λi f=>?_;obtain⟨x,v,t,y,A⟩:=at_ i f;unfold jC;rw[Qg t,Qg y];exact A
   .rw[g]
    congr 3
    apply Vj;simp
def pe_sortLen (i:Gl X "sorted")(j:X.mg "sorted" = none)(b:Gl X "len")(c:X.mg "len" = none)(l:PA X [e] t)
 (m:backTo pos (starEach [e] X.env)=(false,eval e X.env)::backTo pos (starEach [] X.env):=by rfl) (f:(backTo pos (starEach [e] X.env)).any (·.1)=false:=by rfl):PE X (.Call (.Name "sorted" p) [e] [⟨some "key",.Name "len" lp,kp⟩] pos) (ve Hk t):=by
 intro Y s Z H Q I h;refine wpAny_Call_Name_kw (WT I i j (show bootBuiltins "sorted" = some (.builtin "sorted") by kernel_rfl) ?_ (by decide) (by decide));refine callWith_kw (jJ (l pos Y s Z H _ I h) λA B ⟨C,E,g,n,o⟩=>(kws_cons (WT g b c boot_len (kws_nil ?_) (by decide) (by decide)))) m f;obtain⟨a,ys,rs,rfl,r,v,w,x,y,q⟩:=o;obtain⟨u,rfl,z⟩:=QU n;obtain rfl:=z;exact Sf g r v w x y q
end
end L2.ST
namespace L2.DL
open PySem PySem.Spec PyProof.Rows L2.ST
def Y9:YH->YI
 | [.lst ds]=>(Q9 K0 ds).bind λrs=>if rs.Pairwise (λa b=>j9 a b=true)/\rs.length<1000/\∀r∈rs,r.length<=1000 then some (.lst ((JV za rs).map jz)) else none
 |_=>none
section
variable {X:Cx}{E:XK}{fr:FA}{es:Ym}{e:Expr}
def Sh (h:∀{g:TA},PA X es g->PE X e (ve Hk g))(m:QA X E es fr):QN X E e (jq Y9 fr):=PE.weak (h m) λZ H Q o=>by
 obtain⟨B,F,sd,r,n⟩:=o;refine⟨B,F,sd,r,(ja n).mono (λds p y i A b s=>?_) λ_ _ q=>q⟩;obtain⟨z,hz,q⟩:=jh p;unfold Y9 at hz
 split at hz
 .obtain⟨rs,t,hz⟩:=Jg.mp hz
  split at hz
  .rename_i c;obtain rfl:=Zqi hz;obtain⟨v,rfl,h⟩:=QB s;rw[Cp t,jn] at h;obtain⟨a,ys,rfl,u,j⟩:=h;exact⟨a,ys,rs,rfl,u.same b.fh,zW.mp (jd.same b.fh _ _ j),c.1,c.2.1,c.2.2,λl w f x=>((q.ext b) l i _ (.keep b.fh f _) f (Qj b.fh f) ⟨w,JM,zW.mpr (x i (zW.mp j))⟩)⟩
  .exact J6 hz
 simp_all
end
def Si (h:rs.Pairwise (λa b=>j9 a b=true))(c:rs.length<1000)(e:∀r∈rs,r.length<=1000):Y9 [.lst (rs.map jz)]=some (.lst ((JV za rs).map jz)):=by
 show(Q9 K0 (rs.map jz)).bind _=_
 simp_all [Co]
end L2.DL
namespace L2
def xL.has {P:Program}{w:World}{H:Hp}{h:Heap}{a:Addr}{o:HO}(x:xL P w H h a o):∃u,h.get? a=some u:=by
 cases o with
 |lst c=>obtain⟨_,_,_,_,e⟩:=x;exact⟨_,e⟩
 |tup c=>obtain⟨_,_,_,o,e,_⟩:=x;exact⟨_,e⟩
 |dK b=>obtain⟨_,_,_,_,o,_,_,e,_⟩:=x;exact⟨_,e⟩
 |dT b=>obtain⟨_,_,_,_,o,_,_,e,_⟩:=x;exact⟨_,e⟩
 |set S n=>obtain⟨o,_,_,_,e,_⟩:=x;exact⟨_,e⟩
 |ins C g fs=>exact⟨_,x.2.2.2.1⟩
 |own y=>exact x
 |xd fs=>obtain⟨_,⟨_,_,_,e,_⟩,_⟩:=x;exact⟨_,e⟩
 |rng lo i=>obtain⟨_,_,_,e⟩:=x;exact⟨_,e⟩
 |frz j u=>exact⟨_,x.1⟩
 |tbl ps=>exact⟨_,x⟩
 |met f y=>exact⟨_,x⟩
 |ext φ => exact x.2.1
structure FlyAt (l:List Env)(h₀:Heap)(H:Hp)(x C:Addr)(B h:Heap):Prop where
 fly:∃t,Heap.FlyingW B l x (.ref C) (.ref t) h
 trk:∀b o,h.get? b=some o->(H b≠none\/((∃u,h₀.get? b=some u)/\b∉xa l))->B.get? b=some o
def xz (P:Program)(w:World):zq:=λa H s E e s'=>∃b x C B,e=.ref x/\s'.os=s.os/\AllBare s'.gens/\Un (xa a) [] H b s.heap s'.heap/\qH P w b s'.heap/\FlyAt a s.heap b x C B s'.heap/\E (.ref C) none b
structure Thrown (X:Cx)(E:XK):Prop where
 on:∀(Y:Yb) (Z: St) (H:Hp) (s:Shared) (h₀:Heap) (x C:Addr) (B:Heap),Inv X Y Z H s->(∀b u,X.s₀.heap.get? b=some u->b∉X.ex->∃u',h₀.get? b=some u')->FlyAt X.stack h₀ H x C B s.heap->E (.ref C) none H->X.xe (.ref x) s
structure Raises (X:Cx)(E:XK):Prop where
 new:∀(Y:Yb) (Z: St) (H:Hp) (s:Shared) (h':Heap) (x C:Addr) (args:Yf),Inv X Y Z H s->Heap.MadeExcOf s.heap h' x (.ref C) args->E (.ref C) none H->X.xe (.ref x) { s with heap:=h' }
def Thrown.passes {X:Cx}{E:XK}(T:Thrown X E):WV (xz X.prog X.w) X E:=by
 intro Y Z H s e s' I ⟨c,x,C,B,f,os,bare,un,a,g,h⟩;subst f;exact T.on Y Z c s' s.heap x C B (I.call' os un a bare ()) (λb u e i=>I.base.there b u e i) g h
def Sj {X:Cx}:Thrown X E0:=⟨λ_ _ _ _ _ _ _ _ _ _ _ z=>z.elim⟩
section
variable {P:Program}{w:World}{K:W.Frag}{mg:Ye}{base:Heap}{N:Yk}{qual:Str}{scope:Scope}{f:Addr}{cd:Value}{A:Around}{outer:List Env}{s:Shared}{H:Hp}{E:XK}
def Da {Y:Yb}{Z: St}{m:Hp}{s':Shared}{h₀ g B:Heap}{x C t:Addr}(I:Inv (qc (xz P w) P w K mg base N qual scope f cd A outer s H E) Y Z m s')
 (U:∀b u,s.heap.get? b=some u->∃J,h₀.get? b=some J) (p:Heap.FlyingW B outer x (.ref C) (.ref t) g) (L:s'.heap.UpToSlots g)
 (trk:∀b o,s'.heap.get? b=some o->(m b≠none\/((∃u,h₀.get? b=some u)/\b∉xa (envOfC qual scope s.heap.objs.size f cd::outer)))->B.get? b=some o) (M:E (.ref C) none m):
 xz P w outer H s E (.ref x) { s' with heap:=g }:=by
 have O:∀b u,s.heap.get? b=some u->b∉xa outer->b∉xa (envOfC qual scope s.heap.objs.size f cd::outer):=λb u e l z=>by
  have z:=z;rcases U0.mp z with q|q
  .exact Zn (Zk e) (by rw[q];exact Zy _)
  .exact l q
 have a:∀b:Addr,b∉(qc (xz P w) P w K mg base N qual scope f cd A outer s H E).ex:=λb z=>Zn (show b∈([]:Yl) from z) ();have keep:∀b o,s'.heap.get? b=some o->(m b≠none\/((∃u,s.heap.get? b=some u)/\b∉xa outer))->B.get? b=some o:=by grind
 have y:∀b o,s.heap.get? b=some o->b∈xa outer->∃F,g.get? b=some { o with slots:=F }:=λb o e l=>by
  obtain⟨F,Q⟩:=I.base.slot b o e (I.ok.frf b l) l (a b);obtain⟨_,i,j,R⟩:=I.ok.funs.mem l;have j:s.heap.get? b=some i:=j;rw[e] at j;obtain rfl:=Zqi j;obtain⟨r,S⟩:=L b _ Q R;exact⟨r,S⟩
 refine⟨m,x,C,B,rfl,I.os,I.bare,⟨λb o e n l _=>?_,(),λb o e n _=>I.base.free b o e n (a b),λb o e _=>?_,I.base.tups,I.base.frzs,I.base.tbls⟩,λb u e=>?_,⟨⟨t,p⟩,λb o e c=>?_⟩,M⟩
 .exact p.1 b o (keep b o (I.base.keep b o e n l (a b)) ())
 .by_cases l:b∈xa outer
  .grind
  .have ⟨i,G⟩:=I.base.there b o e (a b);exact⟨i,p.1 b i ()⟩
 .refine(I.hok b u e).stay (λc v X q=>p.1 c v (keep c v q (.inl ?_))) (λ_ q=>q) λ_ _ q=>q
  grind
 .have T:∃i,s'.heap.get? b=some i:=by
   rcases c with c|⟨⟨u,hu⟩,_⟩
   .cases q:m b with
    |none=>exact Zn q c
    |some u=>exact(I.hok b u q).has
   .exact I.base.there b u hu (a b)
  have ⟨i,G⟩:=T;have:=p.1 b i (keep b i G c)
  grind[Zqi]
def Kr:Thrown (qc (xz P w) P w K mg base N qual scope f cd A outer s H E) E:=by
 refine⟨λY Z m s' h₀ x C B I i a j=>?_⟩;obtain⟨⟨t,c⟩,trk⟩:=a;have g:∀b:Addr,b∉(qc (xz P w) P w K mg base N qual scope f cd A outer s H E).ex:=λb z=>Zn (show b∈([]:Yl) from z) ();exact wpAny_leaves_onW I.ok.frames rfl c λn a l=>Da I (λb u e=>i b u e (g b)) a l trk j
def Sk:Raises (qc (xz P w) P w K mg base N qual scope f cd A outer s H E) E:=by
 refine⟨λY Z r s' v x C args I h i=>?_⟩;have g:∀env∈(envOfC qual scope s.heap.objs.size f cd::outer),∀a,env.frame=some a->a∈xa (envOfC qual scope s.heap.objs.size f cd::outer):=λenv j a l=>Jq.mpr ⟨env,j,l⟩;refine wpAny_leaves_madeW I.ok.frames rfl (λb o e=>W.of_hideAll _ e) (W.funFrames_hide I.stack g) h λm t n p y q=>(Da (s':=s') I (λb u e=>I.base.there b u e (by show b∉([]:Yl);simp)) n ((Heap.UpToSlots.of_keeps h.keeps).trans q) (λb o e c=>(W.hideAll_get _ e λz=>?_)) i);rcases c with c|c
 .exact c (I.stkFree b z)
 simp_all
end
def yk (P:Program)(w:World)(K:W.Frag)(mg:Ye)(a:Heap)(name:Str)(k:Nat)(ps:Yk)(sp:Sp):Prop:=
 ∃f fd,FnOk P w K mg a (xz P w) k f fd ps sp/\zw K fd ps []/\W.keepIn K (.ref f)=true/\mg name=some (.ref f)
theorem yk.mono {P:Program}{w:World}{K:W.Frag}{mg:Ye}{a:Heap}{name:Str}{j k:Nat}{ps:Yk}{sp:Sp}(c:yk P w K mg a name j ps sp)(h:j<=k):yk P w K mg a name k ps sp:=by
 obtain⟨f,fd,F,r⟩:=c;exact⟨f,fd,F.mono h,r⟩
section
variable {X:Cx}{E:XK}{name:Str}{k:Nat}{ps:Yk}{sp:Sp}{p pos:Pos}{e:Expr}{es:Ym}{t:TA}
def YM (c:yk X.prog X.w X.K X.mg X.base name k ps sp)(T:Thrown X E)(h:Room k X.A)(i:Gl X name)(j:PA X (e::es) t)
 (a:(name == ("__debug__" : Str))=false:=by decide) (l:starEach (e::es) X.env=(false,eval e X.env)::starEach es X.env:=by rfl) (g:(backTo pos (starEach es X.env)).any (·.1)=false:=by rfl):
 PE X (.Call (.Name name p) (e::es) [] pos) (B6 sp [] E t):=by
 obtain⟨f,fd,F,b,m,n⟩:=c;exact Eb F h i n m b .nil T.passes j a l g
end
def Fun.okX {P:Program}{w:World}{K:W.Frag}{mg:Ye}{e:Heap}{x b:Str}{st:Stmt}{f:Addr}{fd:FuncData}{N ps:Yk}{k:Nat}{sp:Sp}(F:Fun K x b st f fd)(S:FnScope N ps (JZ st))(len:∀g H Q E,sp g H Q E->g.length=ps.length)
 (h:∀c A a s H g Q E,Room k (A.deeper (envOfC b (JZ st) s.heap.objs.size f c))->sp g H Q E ->
  ∃t,qG (qc (xz P w) P w K mg e N b (JZ st) f c A a s H E) (QV st) t/\t { nx:=λ_ l=>Q .non l,rt:=Q } (start N g) H):FnOk P w K mg e (xz P w) (k+1) f fd ps sp:=by
 obtain⟨q,r,kV,m,u,v,c,ct,n,rfl,o,i⟩:=F.ex;exact Eh o i S len λA a s H g Q E p j=>h c A a s H g Q E p j
end L2
namespace L2.DL
def xu (K:W.Frag)(a:YH->Res D):Sp:=λb H Q E=>∃F ds,jm F H/\jd K F ds b/\(a ds).need (yq K F H Q) (XW K E F H)
def xX (K:W.Frag)(a:YH->Res D):Sp:=λb H Q E=>∃F ds,jm F H/\jd K F ds b/\(a ds).need (xK K F H Q) (XW K E F H)
def Res.strict {α: Type}:Res α -> Res α
 | .ok a=>.ok a
 |_=>.no
@[simp]def zZ {α: Type}(a:α):(Res.ok a).strict=.ok a:=rfl
def jN {α: Type}{r:Res α}{p:α -> Prop}{q b:Str->YH->Prop}(h:r.strict.need p q):r.need p b:=by
 cases r with
 |ok a=>exact h
 |ex c fs=>exact h.elim
 |no=>exact h
def Ki (a:YH->Res D)(b:FA):FE:=λsd=>(b sd).bind λds=>(a ds).strict
@[simp]def gH (Fn)(fr)(sd):Ki Fn fr sd=(fr sd).bind λds=>(Fn ds).strict:=rfl
section
variable {X:Cx}{E:XK}{name:Str}{k:Nat}{ps:Yk}{Fn:YH->Res D}{p pos:Pos}{e:Expr}{es:Ym}{fr:FA}
def YN (c:yk X.prog X.w X.K X.mg X.base name k ps (xu X.K Fn))(T:Thrown X E)(g:Room k X.A)(h:Gl X name)(i:QA X E (e::es) fr)
 (a:(name == ("__debug__" : Str))=false:=by decide) (j:starEach (e::es) X.env=(false,eval e X.env)::starEach es X.env:=by rfl) (b:(backTo pos (starEach es X.env)).any (·.1)=false:=by rfl):
 QE X E (.Call (.Name name p) (e::es) [] pos) (J5 Fn fr):=PE.weak (YM c T g h i a j b) λZ H Q l=>by
 obtain⟨B,F,sd,r,n⟩:=l;refine⟨B,F,sd,r,(ja n).mono (λm o s t u f v=>?_) λ_ _ q=>q⟩;show xu X.K Fn (s++[]) u Q E;rw[ZA];exact⟨t,m,f.fh,v,Ak o f⟩
def Xq (c:yk X.prog X.w X.K X.mg X.base name k ps (xX X.K Fn))(T:Thrown X E)(g:Room k X.A)(h:Gl X name)(i:QA X E (e::es) fr)
 (a:(name == ("__debug__" : Str))=false:=by decide) (j:starEach (e::es) X.env=(false,eval e X.env)::starEach es X.env:=by rfl) (b:(backTo pos (starEach es X.env)).any (·.1)=false:=by rfl):
 QN X E (.Call (.Name name p) (e::es) [] pos) (J5 Fn fr):=PE.weak (YM c T g h i a j b) λZ H Q l=>by
 obtain⟨B,F,sd,r,n⟩:=l;refine⟨B,F,sd,r,(ja n).mono (λm o s t u f v=>?_) λ_ _ q=>q⟩;show xX X.K Fn (s++[]) u Q E;rw[ZA];exact⟨t,m,f.fh,v,Cf o f⟩
def u4 (c:zV X.prog X.w X.K X.mg X.base name k ps (qw X.K Fn))(g:Room k X.A)(h:Gl X name)(i:QA X E (e::es) fr)
 (a:(name == ("__debug__" : Str))=false:=by decide) (j:starEach (e::es) X.env=(false,eval e X.env)::starEach es X.env:=by rfl) (b:(backTo pos (starEach es X.env)).any (·.1)=false:=by rfl):
 QE X E (.Call (.Name name p) (e::es) [] pos) (Ki Fn fr):=PE.weak (ZU c g h i a j b) λZ H Q l=>by
 obtain⟨B,F,sd,r,n⟩:=l;refine⟨B,F,sd,r,(ja n).mono (λm o s t u f v=>?_) λ_ _ q=>q⟩;show qw X.K Fn (s++[]) u Q E0;rw[ZA];exact⟨t,m,f.fh,v,jN (Ak o f)⟩
def YO (c:zV X.prog X.w X.K X.mg X.base name k ps (zj X.K Fn))(g:Room k X.A)(h:Gl X name)(i:QA X E (e::es) fr)
 (a:(name == ("__debug__" : Str))=false:=by decide) (j:starEach (e::es) X.env=(false,eval e X.env)::starEach es X.env:=by rfl) (b:(backTo pos (starEach es X.env)).any (·.1)=false:=by rfl):
 QN X E (.Call (.Name name p) (e::es) [] pos) (Ki Fn fr):=PE.weak (ZU c g h i a j b) λZ H Q l=>by
 obtain⟨B,F,sd,r,n⟩:=l;refine⟨B,F,sd,r,(ja n).mono (λm o s t u f v=>?_) λ_ _ q=>q⟩;show zj X.K Fn (s++[]) u Q E0;rw[ZA];exact⟨t,m,f.fh,v,jN (Cf o f)⟩
end
section
variable {P:Program}{w:World}{K:W.Frag}{mg:Ye}{base:Heap}{x qual:Str}{f:Addr}{fd:FuncData}{N ps:Yk}{k:Nat}{st:Stmt}
def AE {g:FS}(F:Fun K x qual st f fd)(S:FnScope N ps (JZ st))
 (e:∀b A a s H E,Room k (A.deeper (envOfC qual (JZ st) s.heap.objs.size f b))->zt (qc (xz P w) P w K mg base N qual (JZ st) f b A a s H E) E false (QV st) g):
 FnOk P w K mg base (xz P w) (k+1) f fd ps (xu K (jE N.length ps.length g)):=by
 refine F.okX S (λi H Q E ⟨F,ds,_,h,n⟩=>?_) λb A a s H i Q E j ⟨F,ds,hs,h,n⟩=>⟨_,e b A a s H E j,?_⟩
 .unfold jE at n
  split at n
  .rw[h.length];lia
  .exact n.elim
 .unfold jE at n
  split at n
  .refine⟨⟨F,H,λ_=>none⟩,F,_,RS.start hs h,(ja n).mono (λo c=>?_) λ_ _ q=>q⟩;cases o with
   |next sd=>exact λZ l m _ r=>c .non l m r.ext (jD.mpr rfl)
   |ret d=>exact c
   |brk sd=>exact c.elim
   |cont sd=>exact c.elim
  .exact n.elim
def Db {g:FS}(F:Fun K x qual st f fd)(S:FnScope N ps (JZ st))
 (e:∀b A a s H E,Room k (A.deeper (envOfC qual (JZ st) s.heap.objs.size f b))->zt (qc (xz P w) P w K mg base N qual (JZ st) f b A a s H E) E true (QV st) g):
 FnOk P w K mg base (xz P w) (k+1) f fd ps (xX K (qf N.length ps.length g)):=by
 refine F.okX S (λi H Q E ⟨F,ds,_,h,n⟩=>?_) λb A a s H i Q E j ⟨F,ds,hs,h,n⟩=>⟨_,e b A a s H E j,?_⟩
 .unfold qf at n
  split at n
  .rw[h.length];lia
  .exact n.elim
 .unfold qf at n
  split at n
  .refine⟨⟨F,H,λ_=>none⟩,F,_,RS.start hs h,(ja n).mono (λo c=>?_) λ_ _ q=>q⟩;cases o with
   |next sd=>exact c.elim
   |ret d=>exact c
   |brk sd=>exact c.elim
   |cont sd=>exact c.elim
  .exact n.elim
end
end L2.DL
namespace L2
def Sl (h:n<1000000):n.log2<20:=by
 by_cases z:n=0
 .simp_all
 .exact(Nat.log2_lt z).mpr (Zg h (by decide))
section
variable {X:Cx}{x:Str}{v e:Expr}{tv:TE}{t:TA}{p1 p2 np cpos pos:Pos}{k}
def bS (x:Str)(tv:TE):TE:=λZ H Q=>tv Z H λy b=>∃a:Int,y=.int a/\a.natAbs<1000000/\Q (.str (Str.empty++x++Str.ofString (toString a))) b
def Sm (A:x.length<=1000)(g:PE X v tv):PE X (.JoinedStr [.Constant (.str x) k p1,.FormattedValue v (-1) none p2] pos) (bS x tv):=by
 intro Y s Z H Q I h;refine wpAny_JoinedStr ?_;have B:(Str.empty:Str).length=0:=rfl;refine jJ (DO Y s Z H (λy b=>y=.str x/\b=H) I ⟨rfl,rfl⟩) λu i ⟨y,b,j,l,c,m⟩=>?_;subst c m;obtain⟨n,rfl⟩:=l;refine⟨x,n,rfl,by grind[strLen_append,sizeLine_eq],wpAny_FormattedValue_plain (jJ (g Y i Z b _ j h) λu C ⟨y,o,p,r,a,c,w,q⟩=>?_)⟩;subst c;obtain⟨E,rfl⟩:=r;have z:=Sl w;have F:=int_text_length_le (by decide) z;have f:(Str.empty++x++Str.ofString (toString a)).length<=sizeLine:=by grind[strLen_append,PySem.ofString_length,sizeLine_eq]
 exact wpAny_formatField_int () ⟨_,_,rfl,f,f,⟨.str (Str.empty++x++Str.ofString (toString a)),o,p.tok _,⟨_,rfl⟩,q⟩⟩
structure Exc (K:W.Frag)(mg:Ye)(c:Str)(C:Addr):Prop where
 ns:W.nsIn K mainGlobals c=some (some (.ref C))
 mgc:mg c=some (.ref C)
 exc:W.excIn K C [.type "ValueError",.type "Exception",.type "BaseException",.type "object"] "ValueError.__new__" = true
def nS (m:Yf)(l:List Yg)(g:Addr->List Value->Option Value->Option Value->Option Value->Option Value->String->Option Value->Bool):Prop:=
 ∃C a k0 k1 k2 k3 n k5,m=.ref C::a/\l=[k0,k1,k2,k3,some (.builtin n),k5]/\g C a k0 k1 k2 k3 n k5=true
def Sn
 (q:W.excIn.match_1 (λ_ _=>Bool) m l g (λ_ _=>false)=true):nS m l g:=by
 cases m with
 |nil=>exact JF q
 |cons v b =>
  cases v with
  |ref C =>
   cases l with
   |nil=>exact JF q
   |cons k0 l =>
    cases l with
    |nil=>exact JF q
    |cons k1 l =>
     cases l with
     |nil=>exact JF q
     |cons k2 l =>
      cases l with
      |nil=>exact JF q
      |cons k3 l =>
       cases l with
       |nil=>exact JF q
       |cons a l =>
        cases a with
        |none=>exact JF q
        |some u =>
         cases u with
         |builtin n =>
          cases l with
          |nil=>exact JF q
          |cons k5 l =>
           cases l with
           |nil=>exact⟨_,_,_,_,_,_,_,_,rfl,rfl,q⟩
           |cons _ _=>exact JF q
         |_=>exact JF q
  |_=>exact JF q
def Hl {K:W.Frag}{h:Heap}{C:Addr}{f:Yf}{a:String}{P:Prop}(i:K.In h)(q:W.excIn K C f a=true)
 (k:∀j N nm m bs hdct sn sub ab col dd k0 k1 k2 k3 k5 p,h.get? C=some (excClassObj nm m C N bs j hdct sn sub ab col dd k0 k1 k2 k3 k5 a)->h.Ns N p->p "__init__" = none->OwnTail h f j->P):P:=by
 unfold W.excIn at q
 split at q
 .rename_i dd w r y;obtain⟨H,j,k0,k1,k2,k3,n,k5,s,hs,q⟩:=Sn q;simp only[Uc,Ys,Bool.not_eq_true'] at q;obtain⟨⟨⟨⟨⟨z,A⟩,b⟩,B⟩,c⟩,g⟩:=q;subst z A;have u:=i _ _ y;obtain⟨nm,bs,E,ns,m,F,sn,sub,ab,col,G⟩:=w;dsimp only at s b c g u;subst s b;have o:r = #[k0,k1,k2,k3,some (.builtin n),k5]:=by
   obtain⟨l⟩:=r;exact Zt Array.mk hs
  subst o;exact k j ns nm m bs F sn sub ab col dd k0 k1 k2 k3 k5 _ u (.of_isNs (W.isNs_of_in i c)) (W.nsMap_none_of_in i c g) (W.tail_of_in i B)
 .exact JF q
def So (C:Addr)(E:XK)(t:TA):TS:=λ_ Z H=>t Z H λa b=>a.length<=1000/\E (.ref C) none b
def Sq {E:XK}{c:Str}{C:Addr}(R:Raises X E)(f:Exc X.K X.mg c C)(j:X.calm=true)(l:Gl X c)(m:PA X [e] t)(n:(c == ("__debug__" : Str))=false:=by decide)
 (g:starEach [e] X.env=(false,eval e X.env)::starEach [] X.env:=by rfl):PS X (.Raise (some (.Call (.Name c np) [e] [] cpos)) none pos) (So C E t):=by
 intro Y s Z H D I h;refine Hl I.mod.kin f.exc λF N nm q bs hdct sn sub ab col dd k0 k1 k2 k3 k5 G o p b T=>(wpAny_Raise_call_subU (nm:=nm) (q:=q) (N:=N) (bs:=bs) (hdct:=hdct) (sn:=sn) (sub:=sub) (ab:=ab) (col:=col) (dd:=dd) (k0:=k0) (k1:=k1) (k2:=k2) (k3:=k3) (k5:=k5)
  PySem.F.excBase_ValueError (by rfl) PySem.F.excBase_ValueError (T.hasType PySem.F.excBase_ValueError.hasBase) (I.ok.hd j) (by rw[g];rfl) b (X8 I l f.mgc ⟨rfl,?_⟩ n))
 have i:=m cpos Y s Z H _ I h;rw[g] at i ⊢;refine Calls.evalArgs_plain (Zc i (λJ r ⟨K,u,a,w,L,z⟩=>?_) λ_ _ y=>y);have M:=w.length;refine⟨rfl,QY (),a.bk _ _ o,p.keeps a.bk,T.keeps a.bk,λA x B=>R.new Y Z u r A x C _ a B z⟩
end
end L2
namespace L2.DL
def ww (x:Str):D->YI
 | .int a=>if UP a.natAbs 999999=true then some (.str (Str.empty++x++Str.ofString (toString a))) else none
 |_=>none
def Sr (b: -999999<=a)(c:a<=999999):∃z,ww x (.int a)=some (.str z):=⟨_,Zd (UQ.mpr ())⟩
def AF (c:Str)(f:FE):FS:=λsd=>(f sd).bind λ_=>.ex c []
@[simp]def gE (c)(f)(sd):AF c f sd=(f sd).bind λ_=>.ex c []:=rfl
section
variable {X:Cx}{E:XK}{m:Option Bool}{x:Str}{v e:Expr}{fv fe:FE}{p1 p2 np cpos pos:Pos}{k}
def u5 (b:x.length<=1000)(c:QE X E v fv):QE X E (.JoinedStr [.Constant (.str x) k p1,.FormattedValue v (-1) none p2] pos) (qM (ww x) fv):=
 PE.weak (Sm b c) λZ H Q f=>by
  obtain⟨B,F,sd,r,n⟩:=f;refine⟨B,F,sd,r,(ja n).mono (λd g y h i j l=>?_) λ_ _ q=>q⟩;obtain⟨z,hz,q⟩:=jh g;unfold ww at hz
  split at hz
  .rename_i a
   split at hz
   .rename_i o;obtain rfl:=Zqi hz;exact⟨a,je.mp l,by have:=UQ.mp o;lia,q _ h i j (jr.mpr rfl)⟩
   .exact J6 hz
  simp_all
def Ss (R:Raises X E)(ex:Exc X.K X.mg c C)(f:X.calm=true)(g:Gl X c)(h:QE X E e fe)(i:(c == ("__debug__" : Str))=false:=by decide)
 (a:starEach [e] X.env=(false,eval e X.env)::starEach [] X.env:=by rfl):QS X E m (.Raise (some (.Call (.Name c np) [e] [] cpos)) none pos) (AF c fe):=
 PS.weak (Sq R ex f g (J1 h J2 a) i a) λT Z H j=>by
  obtain⟨B,F,sd,r,n⟩:=j;have l:(J0 fe jc sd).need (λds=>ds.length=1/\XW X.K E B.F0 B.H0 c []) (XW X.K E F H):=by
   unfold AF at n;unfold J0 jc;cases b:fe sd with
   |ok d=>rw[b] at n;exact⟨rfl,n⟩
   |ex o fs=>rw[b] at n;exact XW.ext (n:XW X.K E B.F0 B.H0 o fs) r.ext
   |no=>rwa [b] at n
  refine⟨B,F,sd,r,l.mono (λds p y s t u w=>?_) λ_ _ q=>q⟩;have:=w.length;exact⟨(),p.2 (.ref C) none s t (r.ext.trans u) ⟨C,rfl,ex.ns,.inl rfl⟩⟩
end
end L2.DL
namespace L2
def Dc (X:Cx)(Y:Yb)(Z: St)(E:XK)(e:Value)(s':Shared):Prop:=
 ∃a h₀ x C B,e=.ref x/\Inv X Y Z a s'/\(∀b u,X.s₀.heap.get? b=some u->b∉X.ex->∃c,h₀.get? b=some c)/\(∀p∈X.pn++Y,∃u,h₀.get? p.1=some u)/\FlyAt X.stack h₀ a x C B s'.heap/\E (.ref C) none a
section
variable {X:Cx}{Y:Yb}{Z: St}{H:Hp}{s:Shared}{E:XK}
def Su (F:FnOk X.prog X.w X.K X.mg X.base (xz X.prog X.w) k f fd ps sp)(j:Room k X.A)(l:zw X.K fd ps [])
 (I:Inv X Y Z H s) (r:ju vs us) (h:sp vs H Q E):YJ X (call (.ref f) us) (EP X Y Z Q) (Dc X Y Z E) s:=by
 have m:(us++[]).length=ps.length:=by rw[ZA,<- r.length];exact F.len _ _ _ _ h
 have a:=l s us I.kIn m;rw[ZA] at a;refine wpAny_call (codeAny_mono (F.run X.A X.stack s H ⟨us,[]⟩ us vs Q E j I.env0 a r h) λr s' c=>?_);cases r with
 |error e =>
  obtain⟨n,x,C,B,o,os,bare,un,g,i,q⟩:=c;subst o;exact⟨n,s.heap,x,C,B,rfl,I.call' os un g bare (λb z=>Zn z ()),λb u e t=>I.base.there b u e t,λp hp=>⟨_,(I.pin p hp).1⟩,i,q⟩
 |ok i =>
  cases i with
  |ret u=>exact I.after c
  |next=>exact False.elim c
  |brk=>exact False.elim c
  |cont=>exact False.elim c
def Sv (c:yk X.prog X.w X.K X.mg X.base name k ps sp)(m:Room k X.A)(n:Gl X name)(o:PA X.nox (e::es) t)
 (a:(name == ("__debug__" : Str))=false) (u:starEach (e::es) X.env=(false,eval e X.env)::starEach es X.env) (g:(backTo pos (starEach es X.env)).any (·.1)=false)
 (I:Inv X Y Z H s) (h:t Z H λi j=>sp i j Q E):YJ X (eval (.Call (.Name name p) (e::es) [] pos) X.env) (EP X Y Z Q) (Dc X Y Z E) s:=by
 obtain⟨f,fd,F,b,v,w⟩:=c;exact wpAny_Call_Name_kw (X8 I n w (W.callWith_K I.ok.mod.kin v (Zc (o pos Y s Z H _ (I.wish _) h) (λx y ⟨i,j,l,r,q⟩=>⟨l.kIn,Su F m b l.unwish r q⟩) λ_ _ z=>z.elim) u g) a)
def Inv.flown {h₀ w B:Heap}{x C t:Addr}(I:Inv X Y Z H s)(P:∀b u,X.s₀.heap.get? b=some u->b∉X.ex->∃S,h₀.get? b=some S)(hp:∀p∈X.pn++Y,∃u,h₀.get? p.1=some u)
 (trk:∀b o,s.heap.get? b=some o->(H b≠none\/((∃u,h₀.get? b=some u)/\b∉xa X.stack))->B.get? b=some o) (J:Heap.FlyingW B X.stack x (.ref C) (.ref t) w) (M:s.heap.UpToSlots w):Inv X Y Z H { s with heap:=w }:=by
 have A:∀b u,X.s₀.heap.get? b=some u->b∉X.fs->b∉xa X.stack:=λb u e a z=>by
  rcases U0.mp (I.stkSub b z) with q|q
  .exact Zn (Zk e) (by rw[q];exact Nat.not_lt.mpr I.ok.above)
  .exact a q
 have g:∀b o,X.s₀.heap.get? b=some o->b∈X.fs->b∉X.ex->∃K,w.get? b=some { o with slots:=K }:=λb o e a f=>by
  obtain⟨K,T⟩:=I.base.slot b o e (I.ok.frf b a) a f;obtain⟨_,L,F,N⟩:=I.ok.funs.mem a;rw[e] at F;obtain rfl:=Zqi F;obtain⟨O,U⟩:=M b _ T N;exact⟨O,U⟩
 have j:∀c v,s.heap.IsCell c v->w.IsCell c v:=λc v zh=>by
  obtain⟨o,ho,N⟩:=zh;obtain⟨K,e⟩:=M c o ho λvs q=>by simp_all
  exact⟨_,e,N⟩
 obtain⟨m,hn,hl⟩:=id I.loc;refine⟨I.ok,I.os,I.bare,⟨λb o e n a f=>?_,λb o e n a f=>g b o e a f,λb o e n f=>I.base.free b o e n f,λb o e f=>?_,I.base.tups,I.base.frzs,I.base.tbls⟩,⟨m,M.ns hn,λi y v h1 h2 h3=>?_⟩,λy c e=>?_,I.free,I.freeC,λp G=>?_,λb u e=>?_,I.len⟩
 .exact J.1 b o (trk b o (I.base.keep b o e n a f) (.inr ⟨P b o e f,A b o e a⟩))
 .by_cases a:b∈X.fs
  .obtain⟨K,q⟩:=g b o e a f;exact⟨_,q⟩
  .obtain⟨L,e'⟩:=I.base.there b o e f;exact⟨L,J.1 b L (trk b L e' (.inr ⟨P b o e f,A b o e a⟩))⟩
 .obtain⟨u,r,l⟩:=hl i y v h1 h2 h3;refine⟨u,r,?_⟩;rcases l with l|⟨k,c,e,z⟩
  .exact .inl l
  .exact .inr ⟨k,c,e,j c _ z⟩
 .obtain⟨v,q⟩:=I.cell y c e;exact⟨v,j c v q⟩
 .obtain⟨q1,q2,Q,R,q5⟩:=I.pin p G;refine⟨J.1 _ _ (trk _ _ q1 (.inr ⟨hp p G,λz=>?_⟩)),q2,Q,R,q5⟩;rcases U0.mp (I.stkSub _ z) with q|q
  .exact Q q
  .exact R q
 .refine(I.hok b u e).stay (λc v hc q=>J.1 c v (trk c v q (.inl ?_))) (λ_ q=>q) λ_ _ q=>q
  grind
abbrev Cx.inSuite (X:Cx)(x:Addr):Cx:={ X with A:=X.A.mark (some (.ref x)),calm:=false,xe:=λ_ _=>False }
def Inv.suite (I:Inv X Y Z H s)(x:Addr):Inv (X.inSuite x) Y Z H s:=
 ⟨⟨I.ok.mod,I.ok.kind,I.ok.glob,I.ok.blt,I.ok.above,I.ok.inj,I.ok.has,I.ok.cab,(),I.ok.frames,I.ok.stk,I.ok.exf,I.ok.bs,I.ok.bsz,I.ok.noex,I.ok.exfs,I.ok.funs,I.ok.frf⟩,I.os,I.bare,I.base,I.loc,I.cell,I.free,I.freeC,I.pin,I.hok,I.len⟩
def Inv.unsuite (I:Inv (X.inSuite x) Y Z H s)(ok:X.Ok):Inv X Y Z H s:=⟨ok,I.os,I.bare,I.base,I.loc,I.cell,I.free,I.freeC,I.pin,I.hok,I.len⟩
theorem SP.unsuite (h:SP (X.inSuite x) Y D f s')(ok:X.Ok):SP X Y D f s':=by
 cases f with
 |next=>obtain⟨a,b,I,q⟩:=h;exact⟨a,b,I.unsuite ok,q⟩
 |brk=>obtain⟨a,b,I,q⟩:=h;exact⟨a,b,I.unsuite ok,q⟩
 |cont=>obtain⟨a,b,I,q⟩:=h;exact⟨a,b,I.unsuite ok,q⟩
 |ret u=>obtain⟨v,a,b,I,r,q⟩:=h;exact⟨v,a,b,I.unsuite ok,r,q⟩
def Sw {r:Ya}{c:Str}{C:Addr}{b₀:Stmt}{suite:List Stmt}{L j:Pos}{F:TS}{D:Ends}{e:Value}(a:X.stack=X.env::X.outer)(u:X.env.frame=some X.env.locals)(G:Exc X.K X.mg c C)(M:Gl X c)
 (hs:∀x,qG (X.inSuite x) (b₀::suite) F) (g:Dc X Y Z (λO _ P=>O=.ref C/\F D Z P) e s) (Q:(c == ("__debug__" : Str))=false):
 YJ X (noteFrame e X.env) (λ_ s₂=>YJ X (setFlight e none) (λ_ s₃=>YJ X (handleBy e X.env [.ExceptHandler (some (.Name c L)) none (b₀::suite) j]) (SP X Y D) r s₃) r s₂) r s:=by
 obtain⟨R,h₀,x,C',B,rfl,I,J,hp,⟨⟨t,v⟩,trk⟩,w,y⟩:=g;cases w;have i:=v;rw[a] at i;refine wpAny_looks_onW (I.ok.frames.trans (by rw[a])) u i λh₄ held₄ up₄=>(wpAny_landsW held₄ λh₅ fl₅ up₅=>?_);have n:=fl₅;rw[<- a] at n;have o:=up₄.trans up₅;have K:=I.flown J hp trk n o;refine wpAny_handleBy_cons (codeAny_handlers_test (X8 (K.suite x) M G.mgc (Hl K.kIn G.exc λtl N nm q bs hdct sn sub ab col dd k0 k1 k2 k3 k5 mN S hN U T=>?_) Q)) (by intro q;cases q);obtain⟨ob,A,p⟩:=fl₅.there;refine wpAny_excMatches_sub_self S A p (T.hasType PySem.F.excBase_ValueError.hasBase) (codeAny_handlers_suite (lands_againW fl₅ λh₆ fl₆ up₆=>?_));rw[<- a] at fl₆;exact Zc (hs x Y _ Z R D ((I.flown J hp trk fl₆ (o.trans up₆)).suite x) y) (λf s2 q=>q.unsuite I.ok) λ_ _ z=>z.elim
def vH (i:Nat)(C:Addr)(sp:Sp)(t:TA)(b:TS):TS:=λD Z H=>t Z H λc e=>sp c e (λv a=>D.nx (Z.set i (some v)) a) (λf _ a=>f=.ref C/\b D Z a)
def Sx (a:X.stack=X.env::X.outer)(f:X.env.frame=some X.env.locals)
 (n:X.N.Nodup) (o:X.N[i]? = some y) (r:yG X.env.scope y) (u:yk X.prog X.w X.K X.mg X.base name k ps sp) (w:Room k X.A) (A:Gl X name) (B:PA X.nox (e::es) t) (F:Exc X.K X.mg c C) (g:Gl X c) (hs:∀x,qG (X.inSuite x) (b₀::suite) ts)
 (j:(name == ("__debug__" : Str))=false:=by decide) (G:starEach (e::es) X.env=(false,eval e X.env)::starEach es X.env:=by rfl) (l:(backTo cpos (starEach es X.env)).any (·.1)=false:=by rfl) (J:(c == ("__debug__" : Str))=false:=by decide)
 (m:swapsWith (.Call (.Name name p) (e::es) [] cpos) (some (.Name y py)) apos.line X.env=pure false:=by rfl) (K:X.fn y=true\/X.env.scope.names.lookup y=some .local:=by trivial):
 PS X (.Try [.Assign [.Name y py] (.Call (.Name name p) (e::es) [] cpos) apos] [.ExceptHandler (some (.Name c np)) none (b₀::suite) hpos] [] [] pos) (vH i C sp t ts):=by
 intro Y s Z H D I h;refine Za (wpAny_standAt (wpAny_tryStmt_except (wpAny_execs_cons (wpAny_Assign_Name (Zc (Sv u w A B j G l I h) (λv L q=>?_) λe L M=>Sw a f F g hs M J) m))));obtain⟨z,N,O,P,Q⟩:=q;exact ZK O n o r P (λS R=>wpAny_execs_nil (wpAny_execs_nil ⟨_,N,R,Q⟩)) K
end
end L2
namespace L2.DL
def z7 (i:Nat)(c:Str)(a:FS)(sd:SD):Res D->Res Out
 | .ok d=>.ok (.next (sd.set i (some (.val d))))
 | .ex c' [] => @ite _ (c'=c) (Classical.propDecidable _) (a sd).strict .no
 |_=>.no
@[simp]def fJ (i)(c)(gs)(sd)(d):z7 i c gs sd (.ok d)=.ok (.next (sd.set i (some (.val d)))):=rfl
@[simp]def Sy (i)(c)(gs)(sd):z7 i c gs sd (.ex c [])=(gs sd).strict:=@if_pos _ (Classical.propDecidable _) rfl _ _ _
def z8 (i:Nat)(c:Str)(a:YH->Res D)(b:FA)(e:FS):FS:=λsd=>(b sd).strict.bind λds=>z7 i c e sd (a ds)
@[simp]def mY (i)(c)(Fn)(fr)(gs)(sd):z8 i c Fn fr gs sd=(fr sd).strict.bind λds=>z7 i c gs sd (Fn ds):=rfl
section
variable {X:Cx}{E:XK}{m:Option Bool}
def Sz (ex:Exc X.K X.mg c C)(h:vz X.K E m (z8 i c Fn fr gs) T Z H):
 vH i C (xu X.K Fn) (rb X.K E0 fr) (vz X.K E0 m gs) T Z H:=by
 obtain⟨B,F,sd,r,n⟩:=h;refine⟨B,F,sd,r,?_⟩;unfold z8 at n;cases f:fr sd with
 |ex g fs=>rw[f] at n;exact n.elim
 |no=>rwa [f] at n
 |ok ds =>
  rw[f] at n;have n:(z7 i c gs sd (Fn ds)).need (zv X.K m B F T) (XW X.K E B.F0 B.H0):=n;intro z u A b w;refine⟨u,ds,b.fh,w,?_⟩;cases j:Fn ds with
  |ok d =>
   rw[j] at n;exact λv l p e x=>n _ l p (b.ff.trans e.ff) (((r.step b).step e).setVal x)
  |no=>rwa [j] at n
  |ex g fs =>
   rw[j] at n;cases fs with
   |cons d r=>exact n.elim
   |nil =>
    by_cases s:g=c
    .subst s;rw[Sy] at n;intro G a l p e ⟨I,y,t,_⟩;rw[ex.ns] at t;cases t;exact⟨y,B,l,sd,(r.step b).step e,(jN n).mono (λo (q:zv X.K m B F T o)=>q.mono (b.ff.trans e.ff)) λ_ _ q=>q⟩
    .have n:(@ite _ (g=c) (Classical.propDecidable _) (gs sd).strict Res.no).need (zv X.K m B F T) (XW X.K E B.F0 B.H0):=n;rw[@if_neg _ (Classical.propDecidable _) s] at n;exact n.elim
def xX.d {K:W.Frag}{a:YH->Res D}{b:YF}{H:Hp}{Q:VK}{E:XK}(h:xu K a b H Q E):xX K a b H Q E:=by
 obtain⟨F,ds,c,e,n⟩:=h;exact⟨F,ds,c,e,n.mono (λ_ q=>q.new) λ_ _ q=>q⟩
theorem yk.d {P:Program}{w:World}{K:W.Frag}{mg:Ye}{a:Heap}{name:Str}{k:Nat}{ps:Yk}{b:YH->Res D}(c:yk P w K mg a name k ps (xX K b)):yk P w K mg a name k ps (xu K b):=by
 obtain⟨f,fd,F,r⟩:=c;exact⟨f,fd,F.imp λ_ _ _ _ h=>xX.d h,r⟩
def S0 (a:X.stack=X.env::X.outer)(f:X.env.frame=some X.env.locals)
 (q:X.N.Nodup) (r:X.N[i]? = some y) (s:yG X.env.scope y) (t:yk X.prog X.w X.K X.mg X.base name k ps (xu X.K Fn)) (u:Room k X.A) (v:Gl X name) (w:QA X.nox E0 (e::es) fr) (o:Exc X.K X.mg c C) (g:Gl X c) (hs:∀x,zt (X.inSuite x) E0 m (b₀::suite) gs)
 (j:(name == ("__debug__" : Str))=false:=by decide) (z:starEach (e::es) X.env=(false,eval e X.env)::starEach es X.env:=by rfl) (l:(backTo cpos (starEach es X.env)).any (·.1)=false:=by rfl) (A:(c == ("__debug__" : Str))=false:=by decide)
 (n:swapsWith (.Call (.Name name p) (e::es) [] cpos) (some (.Name y py)) apos.line X.env=pure false:=by rfl) (B:X.fn y=true\/X.env.scope.names.lookup y=some .local:=by trivial):
 QS X E m (.Try [.Assign [.Name y py] (.Call (.Name name p) (e::es) [] cpos) apos] [.ExceptHandler (some (.Name c np)) none (b₀::suite) hpos] [] [] pos) (z8 i c Fn fr gs):=
 PS.weak (Sx a f q r s t u v w o g hs j z l A n B) λT Z H h=>Sz o h
end
end L2.DL
namespace L2
def Dd {P:Program}{w:World}{K:W.Frag}{mg:Ye}{c:Heap}{N:Yk}{g:Str}{b:Scope}{f:Addr}{h:Value}{A:Around}{a:List Env}{s:Shared}{H:Hp}{E:XK} :
 PassesOwn (model (qc (xz P w) P w K mg c N g b f h A a s H E).prog (qc (xz P w) P w K mg c N g b f h A a s H E).w) (qc (xz P w) P w K mg c N g b f h A a s H E).A (qc (xz P w) P w K mg c N g b f h A a s H E).env (qc (xz P w) P w K mg c N g b f h A a s H E).xe:=
 PassesOwn.leaving (Q₁:=λe i=>xz P w a H s E e i)
end L2
namespace L2.DL
def xF (H:Hp)(l:Addr):Hp:=λa=>if a=l then none else H a
def S3:jm (xF H l) H:=λa o e=>by
 simp_all [xF]
def S4:xF H l l=none:=by simp_all [xF]
def S5 (h:a≠l):xF H l a=H a:=by simp_all [xF]
def Hm (R:Res Out->Prop)(P:Nat->SD->Prop)(m:P 0 sd)(n:∀sd,P ds.length sd->R (.ok (.next sd)))
 (hs:∀(i:Nat) (x:D) (sd:SD),ds[i]? = some x->P i sd->(∃sd',(JR tg x sd).bind b=.ok (.next sd')/\P (i+1) sd')\/∃c es,(JR tg x sd).bind b=.ex c es/\R (.ex c es)):R (q9 tg b ds sd):=by
 have h:∀(k i:Nat) (sd:SD),ds.length-i=k->i<=ds.length->P i sd->R (q9 tg b (ds.drop i) sd):=by
  intro k
  induction k with
  |zero =>
   intro i sd e j p;have:i=ds.length:=()
   simp_all
  |succ k l =>
   intro i sd e j p;have a:i<ds.length:=()
   rw[Ut a];unfold q9 yg;rcases hs i ds[i] sd () p with ⟨sd',f,g⟩|⟨c,es,f,g⟩
   .rw[f];exact l (i+1) sd' () a g
   .rwa [f]
 grind
section
variable {X:Cx}{pos:Pos}
def De:D->D->YI
 | .lst a,.lst b=>if a.length+b.length<=sizeLine then some (.lst (a++b)) else none
 |_,_=>none
def S6:f7 X (binaryOp .Add) De:=xi.weak FC λx y H Q h=>by
 obtain⟨F,d,e,z,c,id,i,hz,q⟩:=h;cases d with
 |lst a =>
  cases e with
  |lst b =>
   have hz:(if a.length+b.length<=sizeLine then some (D.lst (a++b)) else none)=some z:=hz
   split at hz
   .obtain rfl:=Zqi hz;obtain⟨l,j,rfl,m,f⟩:=id;obtain⟨n,ys,rfl,o,g⟩:=i;have r:=f.length;have s:=g.length;exact⟨l,n,j,ys,rfl,rfl,m.same c,o.same c,(),λp hp=>q p F _ (.keep c hp _) hp (Qj c hp) ⟨_,JM,f.append g⟩⟩
   simp_all
  |_=>exact J6 hz
 |_=>exact J6 hz
@[simp]def cf (a b:YH):De (.lst a) (.lst b)=if a.length+b.length<=sizeLine then some (.lst (a++b)) else none:=rfl
end
end L2.DL
namespace L2
def wM (K:W.Frag)(x:Str)(st:Stmt):Prop:=∃f fd,W.nsIn K mainGlobals x=some (some (.ref f))/\Fun K x x st f fd
def wM.callee {P:Program}{w:World}{K:W.Frag}{h b:Heap}{mg:Ye}{x:Str}{st:Stmt}{k:Nat}{ps:Yk}{sp:Sp}(X:K.In h)(G:h.Ns mainGlobals mg)(d:wM K x st)
 (ok:∀{f:Addr} {fd:FuncData},Fun K x x st f fd->FnOk P w K mg b yr k f fd ps sp)
 (i:∀(kV c j:Value) (l:Option Addr) (e ct:Value) (g:Yf),g.length=ps.length->bindArgs (W.fnOf x x (W3 st) (QV st) (JZ st) .none kV c j l e ct) ⟨g,[]⟩=pure (ps.zip g)):zV P w K mg b x k ps sp:=by
 obtain⟨f,fd,a,F⟩:=d;exact⟨f,fd,ok F,F.binds i,F.kp,W.mg_of X G a⟩
def wM.calleeX {P:Program}{w:World}{K:W.Frag}{h b:Heap}{mg:Ye}{x:Str}{st:Stmt}{k:Nat}{ps:Yk}{sp:Sp}(X:K.In h)(G:h.Ns mainGlobals mg)(d:wM K x st)
 (ok:∀{f:Addr} {fd:FuncData},Fun K x x st f fd->FnOk P w K mg b (xz P w) k f fd ps sp)
 (i:∀(kV c j:Value) (l:Option Addr) (e ct:Value) (g:Yf),g.length=ps.length->bindArgs (W.fnOf x x (W3 st) (QV st) (JZ st) .none kV c j l e ct) ⟨g,[]⟩=pure (ps.zip g)):yk P w K mg b x k ps sp:=have ⟨f,fd,a,F⟩:=d;⟨f,fd,ok F,F.binds i,F.kp,W.mg_of X G a⟩
end L2
namespace L2.DL
def zc:YH->YI
 | [.int i]=>if UP i.natAbs.log2 1900 then some (.str (toString i)) else none
 |_=>none
section
variable {X:Cx}{E:XK}{tg e a b:Expr}{fe fa fb:FE}{lo hi:Option Expr}{p2 pos p:Pos}
def Df:jU X (.type "str") (zX X.K zc):=jU.weak Mr λl H Q c=>by
 obtain⟨F,ds,z,f,id,hz,q⟩:=c;unfold zc at hz
 split at hz
 .rename_i i
  split at hz
  .rename_i g;obtain rfl:=Zqi hz;obtain⟨m,n,h,j,id⟩:=jo.mp id;subst id h;exact⟨i,by rw[je.mp j],UI (UQ.mp g) (by decide),q _ F H (.refl f) (jr.mpr rfl)⟩
  .exact J6 hz
 simp_all
end
structure ClsD (K:W.Frag)(mg:Ye)(c:Str)(C:Addr)(fs:Yk):Prop where
 ns:W.nsIn K mainGlobals c=some (some (.ref C))
 mgc:mg c=some (.ref C)
 cls:Cls K C
 no:∀f∈fs,wO K C f
def zF (f:Str):Yk->YH->YI
 |g::gs,d::ds=>if g=f then some d else zF f gs ds
 |_,_=>none
theorem Hn {K:W.Frag}{H:Hp}{f:Str}:∀{fs:Yk} {ds:YH} {a:YF} {d:D},jd K H ds a->fs.length=a.length->zF f fs ds=some d->∃x,(fs.zip a).lookup f=some x/\jg K H d x
 | [],ds,a,d,_,_,h=>J6 h
 |g::gs,[],a,d,i,l,h=>by
  simp_all [jd.nil_iff]
 |g::gs,e::ds,a,d,i,l,h=>by
  obtain⟨x,r,rfl,c,b⟩:=jo.mp i;unfold zF at h;rw[Vu];by_cases q:g=f
  .simp_all
  .rw[Ze q] at h;obtain⟨y,j,m⟩:=Hn b (by simpa using l) h
   grind
def qY (c f:Str):D->YI
 | .ins c' fs ds=>if c'=c then zF f fs ds else none
 |_=>none
section
variable {X:Cx}{E:XK}{e:Expr}{fe:FE}{pos:Pos}
def YP {c f:Str}{C:Addr}{fs:Yk}(k:ClsD X.K X.mg c C fs)(l:f∈fs)(m:QE X E e fe)(o:attributeBase e f X.env (eval e X.env)=eval e X.env:=by rfl):QE X E (.Attribute e f pos) (qM (qY c f) fe):=PE.weak (M3 m o) λZ H Q p=>by
 obtain⟨B,F,sd,r,n⟩:=p;refine⟨B,F,sd,r,(ja n).mono (λd s v t u b w=>?_) λ_ _ q=>q⟩;obtain⟨z,hz,q⟩:=jh s;cases d with
 |ins g y ds =>
  have h:(if g=c then zF f y ds else none)=some z:=hz;by_cases i:g=c
  .rw[Zd i] at h;subst i;obtain⟨a,M,A,N,rfl,j,G,I,J⟩:=jY.mp w;rw[k.ns] at j;cases j;obtain⟨x,K,L⟩:=Hn J I h;exact⟨a,C,A,_,x,rfl,b.fh _ _ G,k.cls,k.no f l,K,q _ t u b L⟩
  simp_all
 |_=>exact J6 hz
end
theorem Ho (f)(v):∀fs:List (Str×V),f∉fs.map (·.1)->qJ f v fs=fs++[(f,v)]
 | [],_=>rfl
 | (g,x)::r,h=>by
  rw[Zl,U0,not_or] at h;show(if g=f then(g,v)::r else(g,x)::qJ f v r)=_;rw[Ze (λz=>h.1 z.symm),Ho f v r h.2];rfl
def tI (K:W.Frag)(c:Str)(names:Yk)(g:FA):TS:=λT Z H=>∃B F sd x C j fs e b,RS K B F H sd Z /\ (∀(i:Nat) (p:Bool) (d:D),sd[i]? ≠ some (some (SV.own p d))) /\ Z[0]? = some (some (.ref x))/\B.H0 x=none/\F x=none/\W.nsIn K mainGlobals c=some (some (.ref C))/\H x=some (.ins C j (fs.zip e))/\fs.length=e.length/\(fs++names).Nodup/\(fs++names).length<900/\jd K F b e /\
 (g sd).need (λds=>∀f h a,Ext B.F0 B.H0 f h->f x=none->h x=some (.ins C j ((fs++names).zip a))->(fs++names).length=a.length->jd K f (b++ds) a->T.nx Z h) (XW K E0 B.F0 B.H0)
section
variable {X:Cx}{o e:Expr}{fe:FE}{g:FA}{pos pos':Pos}{ss:List Stmt}{c f:Str}{C:Addr}{fs names:Yk}
def Hq:qG X [] (tI X.K c [] jc):=qG.weak ZL λT Z H j=>by
 obtain⟨B,F,sd,x,C,l,fs,m,b,r,no,u,v,p,w,q,s,y,z,t,n⟩:=j;have n:∀h i a,Ext B.F0 B.H0 h i->h x=none->i x=some (.ins C l ((fs++[]).zip a))->(fs++[]).length=a.length->jd X.K h (b++[]) a->T.nx Z i:=n;simp at n;exact n F H m r.ext p q s t
def AG (k:ClsD X.K X.mg c C fs)(I:f∈fs)(J:PE X o (xC 0))(K:QE X E0 e fe)(L:qG X ss (tI X.K c names g))(hs:swapsWith e (some (.Attribute o f pos')) pos.line X.env=pure false:=by rfl):
 qG X (.Assign [.Attribute o f pos'] e pos::ss) (tI X.K c (f::names) (J0 fe g)):=qG.weak (X9 (M4 J K hs) L) λT Z H M=>by
 obtain⟨B,F,sd,x,m,w,b,i,p,r,no,y,z,N,s,A,E,O,P,Q,n⟩:=M;refine⟨B,F,sd,r,(ja n).mono (λd R v G H1 l S=>?_) λ_ _ q=>q.ext r.ext⟩;have U:m=C:=by
  rw[k.ns] at s;cases s;rfl
 subst U;have t:=l.hh _ _ A;have j:G x=none:=l.new x N (by rw[A];simp);have Y:(b.zip i).map (·.1)=b:=by rw[List.map_fst_zip ()]
 have hfn:f∉b:=by grind
 have ll:(b.zip i).length<1000:=by
  grind
 refine⟨.ref x,y,x,m,w,_,rfl,t,k.cls,k.no f I,ll,?_⟩;rw[Ho f v _ (by rwa [Y])];have ez:b.zip i++[(f,v)]=(b++[f]).zip (i++[v]):=by rw[List.zip_append E];rfl
 rw[ez];have h:=r.step l;refine⟨B,G,sd,x,m,w,b++[f],i++[v],p++[d],⟨⟨h.ext.ff,λa o e=>?_,λa o e=>?_,h.ext.new⟩,h.len,h.val,(),()⟩,no,y,z,j,s,JM,by simp[E],by simpa using O,by simpa using P,(jd.snoc (jd.same l.ff _ _ Q) S),(ja R).mono (λds n2 F2 H2 u e2 f2 q1 q2 q3=>?_) λ_ _ q=>q⟩
 .rw[JJ (Kd e j)];exact h.ext.fh _ _ e
 .rw[JJ (Kd e z)];exact h.ext.hh _ _ e
 .exact n2 F2 H2 u e2 f2 (by simpa using q1) (by simpa using q2) (by simpa using q3)
end
def rO (K:W.Frag)(c:Str)(names:Yk)(h:YH->Res YH):Sp:=λi H Q _=>∃F ds x C f g,jm F H/\i=.ref x::g/\jd K F ds g/\F x=none/\W.nsIn K mainGlobals c=some (some (.ref C))/\H x=some (.ins C f []) /\
 (h ds).need (λes=>∀a b e,Ext F (xF H x) a b->a x=none->b x=some (.ins C f (names.zip e))->names.length=e.length->jd K a es e->Q .non b) (XW K E0 F (xF H x))
def zA (n ar:Nat)(g:FA)(ds:YH):Res YH:=if ds.length+1=ar then g (none::Qz (n-1) ds) else .no
def zl {K:W.Frag}{F H:Hp}{N:Yk}{ds:YH}{b:YF}{x:Addr}(s:jm F H)(h:jd K F ds b):
 RS K ⟨F,xF H x,λ_=>none⟩ F H (none::Qz N.length ds) (some (.ref x)::L2.start N b)/\∀(i:Nat) p d,(none::Qz N.length ds:SD)[i]? ≠ some (some (SV.own p d)):=by
 have a:=RS.start (N:=N) s h;have no:∀(i:Nat) p d,(none::Qz N.length ds:SD)[i]? ≠ some (some (SV.own p d)):=λi p d q=>by
  cases i with
  |zero=>cases q
  |succ i =>
   obtain⟨l,_,f,_,c,_⟩:=a.own q;obtain⟨o,g⟩:=c.has
   simp_all
 refine⟨⟨⟨.refl _,s,S3,λ_ e _=>e⟩,by simp[a.len],λ{i d} q=>?_,λq=>Zn q (no _ _ _),λ_ q _ _=>Zn q (no _ _ _)⟩,no⟩;cases i with
 |zero=>cases q
 |succ i=>exact a.val q
section
variable {P:Program}{w:World}{K:W.Frag}{mg:Ye}{base:Heap}{x qual:Str}{st:Stmt}{f:Addr}{fd:FuncData}{N ps:Yk}{k:Nat}
def kY {c y:Str}{names:Yk}{g:FA}(F:Fun K x qual st f fd)(S:FnScope (y::N) ps (JZ st))(m:names.Nodup)(o:names.length<900)
 (p:∀b A a s H E,Room k (A.deeper (envOfC qual (JZ st) s.heap.objs.size f b))->qG (qc yr P w K mg base (y::N) qual (JZ st) f b A a s H E).nox (QV st) (tI K c names g)):
 FnOk P w K mg base yr (k+1) f fd ps (rO K c names (zA (y::N).length ps.length g)):=by
 refine F.ok S (λq H Q E ⟨F,ds,x,C,l,j,_,e,i,_,_,_,n⟩=>?_) λb A a s H q Q E t ⟨F,ds,x,C,l,j,hs,e,i,u,v,z,n⟩=>⟨_,p b A a s H E t,?_⟩
 .unfold zA at n
  split at n
  .rename_i h;rw[e,<- h,Zu,i.length]
  .exact n.elim
 .subst e;unfold zA at n
  split at n
  .have es:L2.start (y::N) (.ref x::j)=some (.ref x)::L2.start N j:=by
    unfold L2.start;simp
   rw[es];obtain⟨r,no⟩:=zl hs i;exact⟨_,F,_,x,C,l,[],[],[],r,no,rfl,S4,u,v,z,rfl,m,o,.nil,n⟩
  .exact n.elim
end
def nN (P:Program)(w:World)(K:W.Frag)(mg:Ye)(a:Heap)(c:Str)(names:Yk)(k:Nat)(ps:Yk)(b:YH->Res YH):Prop:=
 ∃C f fd,ClsD K mg c C names/\Mk K C f/\FnOk P w K mg a yr k f fd ps (rO K c names b)/\zw K fd ps []
def YQ (c:Str)(names:Yk)(a:YH->Res YH)(b:FA):FE:=λsd=>(b sd).bind λds=>(a ds).bind λes=>.ok (.ins c names es)
section
variable {X:Cx}{pos:Pos}
def Hr (M:nN X.prog X.w X.K X.mg X.base c names k ps Fn)(A:Room (k+1) X.A)(E:Gl X c)(I:QA X E0 (e::es) fa)
 (m:(c == ("__debug__" : Str))=false:=by decide) (J:starEach (e::es) X.env=(false,eval e X.env)::starEach es X.env:=by rfl) (t:(backTo pos (starEach es X.env)).any (·.1)=false:=by rfl):
 QN X E0 (.Call (.Name c p) (e::es) [] pos) (YQ c names Fn fa):=by
 obtain⟨C,f,fd,u,mk,F,b⟩:=M;refine PE.weak (MC mk F A E u.mgc b .nil Eu I m J t) λZ H Q ⟨B,F,sd,r,n⟩=>⟨B,F,sd,r,(ja n).mono (λds K L j l h N x g nx j5 ne=>?_) λ_ _ q=>q⟩;have v:j x=none:=by
  cases q:j x with
  |none=>rfl
  |some o=>rw[h.fh _ _ q] at nx;cases nx
 have w:H x=none:=by
  cases q:H x with
  |none=>rfl
  |some o=>rw[h.hh _ _ q] at nx;cases nx
 have y:∀{G:Hp},jm G l->jm G (xF (jB (jB l g (.own x)) x (.ins C g [])) x):=λ{G} s a o q=>by
  have i:=s _ _ q
  rwa [S5 (Kd i nx),JJ (Kd i nx),JJ (Kd i j5)]
 have O:jm j (jB (jB l g (.own x)) x (.ins C g [])):=λa o q=>by
  have i:=h.fh _ _ q
  rwa [JJ (Kd i nx),JJ (Kd i j5)]
 have z:Ext F H j (xF (jB (jB l g (.own x)) x (.ins C g [])) x):=⟨h.ff,y h.fh,y h.hh,h.new⟩;rw[ZA];exact⟨j,ds,x,C,g,L,O,rfl,N,v,u.ns,JM,(ja K).mono (λes P R S T U Y h2 l2 i2=>⟨rfl,P x R S (z.trans U) w Y ⟨C,g,T,u.ns,h2,l2,i2⟩⟩) λ_ _ q=>q.ext z⟩
end
def Hs (K:W.Frag)(c a:Str)(fs:Yk)(st:Stmt):Prop:=∃C e b,W.nsIn K mainGlobals c=some (some (.ref C))/\Cls K C/\(∀f∈fs,wO K C f)/\Mk K C e/\Fun K "__init__" a st e b
def Dg (F c:Hp):Prop:=∀a b,c a=some (.tup b)->F a=some (.tup b)
section
variable {K:W.Frag}{B:Bs}{F H F' H':Hp}{sd:SD}{Z: St}
def RS.frz1C (r:RS K B F H sd Z)(y:sd[i]? = some (some (.own p d))):∃F',jm F F'/\Dg F F'/\RS K B F' H (sd.set i (some (.val d))) Z:= by
 obtain⟨l,A,G,C,g,_⟩:=r.own y;obtain⟨o,e⟩:=g.has;have I:i<sd.length:=(Jc.mp y).1;have w:jm F (jB F l o):=Kx C o;have J:Dg F (jB F l o):=λa U q=>by
  by_cases z:a=l
  .subst z;rw[JM] at q;obtain rfl:=Zqi q;cases d with
   |lst ds=>obtain⟨_,h,_⟩:=g;rw[e] at h;cases h
   |dct ks ds=>obtain⟨_,h,_⟩:=g;rw[e] at h;cases h
   |ins c fs ds=>obtain⟨_,_,_,_,h,_⟩:=g;rw[e] at h;cases h
   |_=>exact g.elim
  .rw[JJ z] at q;exact q
 refine⟨jB F l o,w,J,⟨r.ext.ff.trans w,λb u q=>?_,r.ext.hh,λa t s=>?_⟩,by rw[UM,r.len],λ{j x} q=>?_,λ{j p x} q=>?_,λ{j k X Y d1 d2 m} n t s L=>?_⟩
 .by_cases z:b=l
  .subst z;rw[JM] at q;cases q;exact e
  .rw[JJ z] at q;exact r.ext.fh _ _ q
 .have z:a≠l:=λz=>s (by rw[z];exact G);rw[JJ z];exact r.ext.new a t s
 .by_cases z:i=j
  .subst z;obtain⟨f,_⟩:=Kk q;cases f;exact⟨_,A,g.frz e C⟩
  .rw[Q5 z] at q;obtain⟨v,M,N⟩:=r.val q;exact⟨v,M,jg.same w _ _ N⟩
 .by_cases z:i=j
  .subst z;obtain⟨f,_⟩:=Kk q;cases f
  .rw[Q5 z] at q;obtain⟨m,E,m2,O,P,Q⟩:=r.own q;have ne:m≠l:=λe=>r.apart z y q A (by rw[<- e];exact E);exact⟨m,E,m2,by rw[JJ ne];exact O,P.ext w λu R=>R,Q⟩
 .have S:i≠j:=λz=>by subst z;obtain⟨f,_⟩:=Kk t;cases f
  have T:i≠k:=λz=>by subst z;obtain⟨f,_⟩:=Kk s;cases f
  rw[Q5 S] at t;rw[Q5 T] at s;exact r.apart n t s L
theorem RS.frzC:∀(is:Yj) {F:Hp} {sd:SD},RS K B F H sd Z -> ∃F',jm F F'/\Dg F F'/\RS K B F' H (jS is sd) Z
 | [],F,sd,r=>⟨F,.refl _,λ_ _ q=>q,r⟩
 |i::is,F,sd,r=>by
  unfold jS
  split
  .rename_i p d h;obtain⟨n,c,e,f⟩:=r.frz1C h;obtain⟨g,j,l,m⟩:=RS.frzC is f;exact⟨g,c.trans j,λa b q=>e a b (l a b q),m⟩
  .exact RS.frzC is r
def gc:D->Bool
 | .tup ds=>ds.all KB
 |d=>KB d
def Xr (F H b:Hp):Hp:=λa=>match H a,b a with
 |none,some (.tup xs)=>some (.tup xs)
 |_,_=>F a
def S7 (s:jm F H)(g:jm F F1)(e:Ext F1 H F2 H2):Ext F H (Xr F H F2) H2:=by
 refine⟨λa o q=>?_,λa o q=>?_,e.hh,λa b c=>?_⟩
 .unfold Xr;rw[s _ _ q];exact q
 .unfold Xr at q
  split at q
  .rename_i i f;obtain rfl:=Zqi q;exact e.fh _ _ f
  .exact e.hh _ _ (s _ _ q)
 .unfold Xr;cases h:H a with
  |none=>exact Zn h c
  |some o=>exact b
def Ht:D->Bool
 | .lst ds=>ds.all gc
 |_=>false
def gQ (is:Yj)(f:FE):FE:=λsd=>(f (jS is sd)).bare.bind λd=>if Ht d then .ok d else .no
end
end L2.DL
namespace L2
open PySem
def JO (a:h.kind=.function:=by rfl)(b:h.isCoroutine=false:=by rfl)(c:h.isGenerator=false:=by rfl)(d:N.Nodup:=by decide +kernel)(e:N.take P.length=P:=by rfl)
 (f:∀x∈P,h.names.lookup x=some .local\/h.names.lookup x=some .cell:=by decide +kernel) (g:∀y∈h.names,y.2 ≠ .free:=by decide +kernel):FnScope N P h:=⟨a,b,c,d,e,f,g⟩
def xI (i:Nat)(a:X.N.Nodup)(b:X.N[i]? = some x:=by rfl)(c:yG X.env.scope x:=by trivial)(e:X.fn x=true\/X.env.scope.names.lookup x=some .local:=by trivial):PG X (.Name x pos) (KJ i):=JW a b c e
section
variable {p:Yf->Prop}
def nX (h:∀a,p [a]):∀b:Yf,b.length=1->p b:=λb e=>by
 obtain⟨a,rfl⟩:=List.length_eq_one_iff.mp e;exact h a
def bH (h:∀a b,p [a,b]):∀c:Yf,c.length=2->p c:=λc e=>by
 cases c with
 |nil=>simp_all
 |cons a c=>exact nX (p:=λc=>p (a::c)) (λb=>h a b) c (UL e)
def nW (h:∀a b c,p [a,b,c]):∀f:Yf,f.length=3->p f:=λf e=>by
 cases f with
 |nil=>simp_all
 |cons a f=>exact bH (p:=λf=>p (a::f)) (λb c=>h a b c) f (UL e)
def bG (h:∀a b c d,p [a,b,c,d]):∀f:Yf,f.length=4->p f:=λf e=>by
 cases f with
 |nil=>simp_all
 |cons a f=>exact nW (p:=λf=>p (a::f)) () f (UL e)
def dh (h:∀a b c d e,p [a,b,c,d,e]):∀f:Yf,f.length=5->p f:=λf e=>by
 cases f with
 |nil=>simp_all
 |cons a f=>exact bG (p:=λf=>p (a::f)) () f (UL e)
end
section
variable {M:Model}{A:Around}{E:Ya}{s:Shared}{base:Heap}{e:Addr}{cls a0 fl:Value}
def S8 (x:base.StaysIn s.heap)(y:s.heap.FunFrames base l)(B:s.heap.TracedAtW base e cls a0 fl)
 (h:∀c T,base.get? T=none->(∀b,b≠T->c.get? b=s.heap.get? b)->(∃o m,s.heap.get? T=some o/\o.data=.fields m)->base.StaysIn c->c.FunFrames base l->(∃p,c.TracedAtW base e cls a0 p)->Q Yt { s with heap:=c }):wpAny M A (setFlight (.ref e) f) Q E s:=by
 obtain⟨C,m,T,F,G,t,H,u,v,r,w,i,g,I⟩:=B;have J:=(Ju.mp I).1;have j:∀b,b≠T->(s.heap.update T (Obj.mapFields (·.setIfInBounds 3 (f.elim Value.none λa=>rawInt a)))).get? b=s.heap.get? b:=λb n=>Heap.get?_update_other _ _ n.symm;have K:∀b o,s.heap.get? b=some o->(∀L,o.data ≠ .fields L)->b≠T:=λb o q n z=>by
  subst z;rw[i] at q;cases q;exact n _ g
 unfold setFlight;refine Za (wpAny_field t u v ?_);rw[Zd ()];refine wpAny_setField i g J (h _ T r j ⟨F,G,i,g⟩ (λb o q=>(j b λz=>by rw[z,r] at q;cases q).trans (x b o q)) (y.of_keeps λb o q n=>⟨o,(j b (K b o q n)).trans q,rfl⟩) ⟨f.elim Value.none λa=>rawInt a,C,m,T,_,_,(j e w.symm).trans t,H,u,v,r,w,Heap.get?_update_self _ i (Obj.isFreed_of_fields (Obj.data_mapFields g _)),Obj.data_mapFields g _,?_⟩)
 simp_all
def S9 (f:A.frames=some (env::outer))(g:env.frame=some L)(j:base.StaysIn s.heap)(h:base.get? e=none)(l:s.heap.FunFrames base (env::outer))(i:s.heap.TracedAtW base e cls a0 fl)
 (m:∀a,Heap.FlyingW base outer e cls a0 a->s.heap.UpToSlots a->Q Yt { s with heap:=a }):wpAny M A (leaving env (.ref e)) Q E s:=by
 by_cases c:fl=rawInt L
 .subst c;exact Za (wpAny_noteFrame_againW g i (wpAny_setFlight_noneW j l i λa k1 k2 k3 w=>m a ⟨k1,h,k2.2.2,k3⟩ λb o q n=>⟨o.slots,w b o q n⟩))
 .obtain⟨O,P,T,R,S,x,⟨y,B⟩,p,C,U,X,r,t,u⟩:=i;subst y;have F:=(Ju.mp u).1;have v:∀b,b≠T->(s.heap.update T (Obj.mapFields (·.setIfInBounds 3 Value.none))).get? b=s.heap.get? b:=λb n=>Heap.get?_update_other _ _ n.symm;have G:∀b o,s.heap.get? b=some o->(∀H,o.data ≠ .fields H)->b≠T:=by grind
  unfold leaving noteFrame;simp only[g];refine Za (Za (wpAny_field x p C (Za (wpAny_field r t u ?_))));rw[Ze (λz=>c (Ys.mp z))];exact Za (wpAny_setField r t F (wpAny_newEntryW f (l.of_keeps ()) g () (λb o q=>(v b λz=>()).trans (j b o q)) h p () B λa ⟨I,J,K,N⟩=>(m a ⟨I,h,J.2.2,K⟩ λb o q n=>N b o ((v b (G b o q n)).trans q) n)))
end
structure FlyAny (l:List Env)(h₀:Heap)(H:Hp)(x C:Addr)(B h:Heap):Prop where
 st:B.StaysIn h
 no:B.get? x=none
 fr:h.FunFrames B l
 tr:∃t fl,h.TracedAtW B x (.ref C) (.ref t) fl
 trk:∀b o,h.get? b=some o->(H b≠none\/((∃u,h₀.get? b=some u)/\b∉xa l))->B.get? b=some o
structure ThrownA (X:Cx)(E:XK):Prop where
 on:∀(Y:Yb) (Z: St) (H:Hp) (s:Shared) (x C:Addr) (B:Heap),Inv X Y Z H s->FlyAny X.stack X.s₀.heap H x C B s.heap->E (.ref C) none H->X.xe (.ref x) s
def SA {P:Program}{w:World}{K:W.Frag}{mg:Ye}{g:Heap}{N:Yk}{h:Str}{a:Scope}{f:Addr}{l:Value}{A:Around}{c:List Env}{s:Shared}{H:Hp}{E:XK}:ThrownA (qc (xz P w) P w K mg g N h a f l A c s H E) E:=by
 refine⟨λY Z q s' x C B I i n=>?_⟩;obtain⟨t,m,o⟩:=i.tr;exact S9 I.ok.frames rfl i.st i.no i.fr o λr j p=>Da I (λb u e=>⟨u,e⟩) j p i.trk n
theorem Hu {h a B c:Heap}(k0:∀b,B.get? b=none->c.get? b=none):∀{l:List Env},(∀b∈xa l,a.get? b=h.get? b)->h.FunFrames B l->a.FunFrames c l
 | [],_,_=>trivial
 |env::rest,k,⟨g1,⟨L,o,g2,g3,g4,g5⟩,r⟩=>by
  have e:L∈xa (env::rest):=by
   unfold xa;rw[UT,g2];exact Zqs
  refine⟨g1,⟨L,o,g2,k0 L g3,(k L e).trans g4,g5⟩,Hu k0 (λb f=>k b ?_) r⟩
  simp_all [xa]
def SC {X:Cx}{E:XK}{f:Scope}{N:Yk}{cl:List (Str×Addr)}{C:Addr}{s:Shared}{H:Hp}{L:Yl}(A:X.stack=X.env::X.outer)(hfr:X.env.frame=some X.env.locals)(M:X.ex=[])(T:ThrownA X E)(at_:W4 X C s H L):Thrown (JK X f N cl C s H L) E:=by
 obtain⟨F,Z0,I0,O,hC⟩:=at_;refine⟨λY Z H' s' h₀ x D B I h0 fl hE=>?_⟩;obtain⟨⟨t,fly⟩,trk⟩:=fl;have P:Heap.FlyingW B (X.env::X.outer) x (.ref D) (.ref t) s'.heap:=by rw[<- A];exact fly
 have Q:noteFrame (.ref x) (compEnvC f cl C X.env)=noteFrame (.ref x) X.env:=rfl;show YJ X (noteFrame (.ref x) (compEnvC f cl C X.env)) (λ_ s''=>XE X C (.ref x) s'') (XE X C) s';rw[Q];refine wpAny_looks_onW (I0.ok.frames.trans (by rw[A])) hfr P λh1 R up1=>?_;obtain⟨m,hm,_⟩:=id I.loc;have S:h1.Ns C m:=up1.ns hm;refine⟨m,S,λG i cenv _=>?_⟩;obtain⟨hc1,hc2,hc3,hc4⟩:=R;obtain⟨oC,es,ep,hoC,hdC,_⟩:=id S;have nC:∀b o ws,h1.get? b=some o->o.data=.fields ws->b≠C:=by grind
 have g:∀b o,s.heap.get? b=some o->b≠C:=λb o q=>Zi (Zg (Zk q) hC);have U:∀b∈xa X.stack,b≠C:=λb a=>by
  obtain⟨_,J,j,_⟩:=I.ok.funs.mem a;exact g b J j
 obtain⟨p,hB'⟩:∃p,W.hideAll B [C]=p:=⟨_,rfl⟩;have inB:∀b o,p.get? b=some o->B.get? b=some o:=λb o q=>by rw[<- hB'] at q;exact W.of_hideAll _ q
 have toB:∀b o,B.get? b=some o->b≠C->p.get? b=some o:=λb o q n=>by grind[W.hideAll_get]
 have K:∀b,B.get? b=none->p.get? b=none:=λb q=>by
  cases z:p.get? b with
  |none=>rfl
  |some o=>rw[inB b o z] at q;cases q
 have nBC:∀b o,p.get? b=some o->b≠C:=λb o q z=>by
  grind[W.hideAll_none]
 have st2:p.StaysIn G:=λb o q=>(i.2 b (nBC b o q)).trans (hc1 b o (inB b o q));have fr2:G.FunFrames p X.stack:=Hu K (λb a=>i.2 b (U b a)) (by rw[A];exact hc3);obtain⟨oe,vs,T0,oT,ts,g1,g2,g3,g4,g5,g6,g7,g8,g9⟩:=hc4;have tr2:G.TracedAtW p x (.ref D) (.ref t) (rawInt X.env.locals):=⟨oe,vs,T0,oT,ts,(i.2 x (nC _ _ _ g1 g3)).trans g1,g2,g3,g4,K T0 g5,g6,(i.2 T0 (nC _ _ _ g7 g8)).trans g7,g8,g9⟩;unfold PySem.passOn;refine Za (wpAny_field (s:={ s' with heap:=G }) ((i.2 x (nC _ _ _ g1 g3)).trans g1) g3 g4 ?_);rw[Ze ()];refine Za (S8 (s:={ s' with heap:=G }) st2 fr2 tr2 λh3 T' t1 t2 t3 st3 fr3 tr3=>wpAny_throw ?_);have K1:∀b o,B.get? b=some o->b≠C->h3.get? b=some o:=λb o q n=>st3 b o (toB b o q n);have nex:∀b u,X.s₀.heap.get? b=some u->b∉L:=λb u q a=>by
  rcases(O b a).2.2.2.1 with z|z
  .rw[M] at z;cases z
  .exact Zn (Zk q) (Nat.not_lt.mpr z)
 have w:∀b o,s.heap.get? b=some o->b∈xa X.stack->b∉L->∃sl,h3.get? b=some { o with slots:=sl }:=λb o q a l=>by
  obtain⟨_,J,j,hd⟩:=I.ok.funs.mem a;have j:s.heap.get? b=some J:=j;rw[q] at j;obtain rfl:=Zqi j;obtain⟨sl,e1⟩:=I.base.slot b o q (I.ok.frf b a) a l;obtain⟨sl',e2⟩:=up1 b _ e1 hd;have e3:G.get? b=some { o with slots:=sl' }:=(i.2 b (U b a)).trans e2;refine⟨sl',(t2 b λz=>?_).trans e3⟩;obtain⟨oz,wz,z1,z2⟩:=t3;rw[<- z] at z1;have z1:G.get? b=some oz:=z1;rw[e3] at z1;cases z1;exact hd _ z2
 refine T.on F Z0 H' _ x D p (I0.call' (s':={ s' with heap:=h3 }) (ch:=L) I.os ⟨λb o e n a l=>?_,λb o e n a l=>w b o e a l,λb o e n l=>I.base.free b o e n l,λb o e l=>?_,I.base.tups,I.base.frzs,I.base.tbls⟩ (λb u e=>?_) I.bare λb a=>⟨(O b a).2.2.2.1,(O b a).2.1,(O b a).2.2.2.2.1,(O b a).2.2.2.2.2⟩) ⟨st3,K x hc2,fr3,?_,λb o e c=>?_⟩ hE
 .exact K1 b o (trk b o (I.base.keep b o e n a l) (.inr ⟨h0 b o e l,a⟩)) (g b o e)
 .by_cases a:b∈xa X.stack
  .obtain⟨sl,q⟩:=w b o e a l;exact⟨_,q⟩
  .obtain⟨J,e'⟩:=I.base.there b o e l;exact⟨J,K1 b J (trk b J e' (.inr ⟨h0 b o e l,a⟩)) (g b o e)⟩
 .refine(I.hok b u e).stay (λc v hc q=>K1 c v (trk c v q (.inl ?_)) ?_) (λ_ q=>q) λ_ _ q=>q
  .rcases hc with z|z
   .rw[z,e];simp
   .rw[z];simp
  .intro z;have fC:H' C=none:=I.free;rcases hc with y|y
   .rw[<- y,z,fC] at e;exact J6 e
   .rw[z,fC] at y;exact J6 y
 .obtain⟨fl',q⟩:=tr3;exact⟨t,fl',q⟩
 .have key:∃r,B.get? b=some r/\b≠C:=by
   rcases c with c|⟨⟨u,hu⟩,a⟩
   .cases q:H' b with
    |none=>exact Zn q c
    |some u =>
     obtain⟨r,h2'⟩:=(I.hok b u q).has;exact⟨r,trk b r h2' (.inl c),λz=>by rw[z] at q;rw[show H' C=none from I.free] at q;exact J6 q⟩
   .obtain⟨o1,e1⟩:=I0.base.there b u hu (by rw[M];simp);obtain⟨r,e2⟩:=I.base.there b o1 e1 (nex b u hu);exact⟨r,trk b r e2 (.inr ⟨h0 b o1 e1 (nex b u hu),a⟩),g b o1 e1⟩
  obtain⟨r,k1,k2⟩:=key;have:=K1 b r k1 k2;have e:=e;rw[e] at this;cases this;exact toB b o k1 k2
end L2
namespace L2.DL
def SE (N)(cap)(e:X.calm=true)(b:QH scope X.env N X.N cap=true)(g:QI X E tg iter fi)
 (i:∀c C s H a,QG (JK X scope N c C s H a) tg t) (j:∀c C s H a,W4 X C s H a->QE (JK X scope N c C s H a) E elt f) (hs:∀x,foldedSetIterable iter X.env x=pure x:=by intro _;rfl):
 QN X E (.ListComp elt [⟨tg,iter,[],0⟩] scope pos) (Qy cap fi t f):=PE.weak (E2 N cap e b g i j hs) λ_ _ _ h=>Aq h
abbrev HP:=List (Addr×D)
def j6:HP->Addr->YI
 | [],_=>none
 |p::r,a=>if a=p.1 then some p.2 else j6 r a
def Xs:HP->Addr->D->HP
 | [],_,_=>[]
 |p::r,a,d=>if a=p.1 then(p.1,d)::r else p::Xs r a d
def SF (a):j6 [] a=none:=rfl
def WM (p)(r:HP)(a):j6 (p::r) a=if a=p.1 then some p.2 else j6 r a:=rfl
theorem Dh:∀{hp:HP} {a:Addr} {d:D} b,j6 hp a≠none->j6 (Xs hp a d) b=if b=a then some d else j6 hp b
 | [],a,d,b,h=>Zn rfl h
 |p::r,a,d,b,h=>by
  unfold Xs;by_cases z:a=p.1
  .simp_all [WM]
  .rw[Ze z,WM,WM];rw[WM,Ze z] at h;rw[Dh b h]
   grind
structure RT (K:W.Frag)(B B':Bs)(F H:Hp)(sd:SD)(hp:HP)(Z: St):Prop where
 rs:RS K B' F H sd Z
 f0:B'.F0=B.F0
 pa:B'.pa=B.pa
 out:∀a,j6 hp a=none->B'.H0 a=B.H0 a
 obj:∀a d,j6 hp a=some d->B.F0 a=none/\B.H0 a=none/\yE K F B'.H0 a d
section
variable {K:W.Frag}{B B':Bs}{F F' H H':Hp}{sd sd':SD}{hp:HP}{Z Z':St}{a:Addr}{d:D}
def RT.sub (t:RT K B B' F H sd hp Z):jm B.H0 B'.H0:=λa o e=>by
 cases q:j6 hp a with
 |none=>rwa [t.out a q]
 |some d=>rw[(t.obj a d q).2.1] at e;exact J6 e
def RT.ext0 (t:RT K B B' F H sd hp Z)(e:Ext B'.F0 B'.H0 F2 H2):Ext B.F0 B.H0 F2 H2:=
 ⟨by rw[<- t.f0];exact e.ff,e.fh,t.sub.trans e.hh,λa c b=>e.new a (by rwa [t.f0]) λz=>b (Qj t.sub z)⟩
def RT.go (t:RT K B B' F H sd hp Z)(s:jm F F')(r:RS K B' F' H' sd' Z'):RT K B B' F' H' sd' hp Z':=
 ⟨r,t.f0,t.pa,t.out,λa d h=>let ⟨h1,h2,h3⟩:=t.obj a d h;⟨h1,h2,h3.ext s λ_ q=>q⟩⟩
def RT.free (t:RT K B B' F H sd hp Z)(h:j6 hp a=some d):F a=none:=have ⟨c,e,b⟩:=t.obj a d h;have ⟨o,f⟩:=b.has;t.rs.ext.new a (by rwa [t.f0]) ()
def RT.lies (t:RT K B B' F H sd hp Z)(h:j6 hp a=some d):yE K F H a d:=(t.obj a d h).2.2.ext (.refl _) λo q=>t.rs.ext.hh _ _ q
def RT.no_own (t:RT K B B' F H sd hp Z)(h:j6 hp a=some d)(b:B'.H0 l=none):l≠a:=λz=>by
 have ⟨o,c⟩:=(t.obj a d h).2.2.has
 simp_all
def RT.ret (t:RT K B B' F H sd hp Z)(h:Ao K m B Q d):Ao K m B' Q d:=by
 have g:yq K B.F0 B.H0 Q d->yq K B'.F0 B'.H0 Q d:=λh v c f e i=>h v c f (t.ext0 e) i;have j:xK K B.F0 B.H0 Q d->xK K B'.F0 B'.H0 Q d:=λh l c f e n p o=>h l c f (t.ext0 e) (Qj t.sub n) p o;cases m with
 |none =>
  have h:b6 K B.F0 B.H0 Q d:=h;show b6 K B'.F0 B'.H0 Q d
  grind[b6]
 |some b =>
  cases b with
  |true=>exact j h
  |false=>exact g h
def RT.xw (t:RT K B B' F H sd hp Z)(h:XW K E B.F0 B.H0 c fs):XW K E B'.F0 B'.H0 c fs:=λb a f g e q=>h b a f g (t.ext0 e) q
def RT.chg (t:RT K B B' F H sd hp Z)(f:j6 hp a=some d)(h:yE K F (jB H a o) a d'):RT K B ⟨B'.F0,jB B'.H0 a o,B'.pa⟩ F (jB H a o) sd (Xs hp a d') Z:= by
 have m:=t.free f;have ⟨b1,b2,I⟩:=t.obj a d f;have g:j6 hp a≠none:=by simp_all
 refine⟨⟨⟨t.rs.ext.ff,BL o t.rs.ext.fh m,λb u e=>?_,λb n r=>?_⟩,t.rs.len,t.rs.val,λ{i p e} q=>?_,t.rs.apart⟩,t.f0,t.pa,λb c=>?_,λb e c=>?_⟩
 .have e:jB B'.H0 a o b=some u:=e;by_cases z:b=a
  .simp_all [JM]
  .rw[JJ z] at e ⊢;exact t.rs.ext.hh _ _ e
 .by_cases z:b=a
  .rwa [z]
  .exact t.rs.ext.new b n λy=>r (by show jB B'.H0 a o b=none;rwa [JJ z])
 .obtain⟨l,s,j,v,w,x⟩:=t.rs.own q;have ne:=t.no_own f j;exact⟨l,s,(JJ ne).trans j,v,w.ext (.refl _) (λu A=>by rwa [JJ ne]),λz=>(x z).mono λu A=>by rwa [JJ ne]⟩
 .rw[Dh b g] at c;by_cases z:b=a
  .simp_all
  .rw[Ze z] at c;show jB B'.H0 a o b=B.H0 b;rw[JJ z];exact t.out b c
 .rw[Dh b g] at c;by_cases z:b=a
  .rw[Zd z] at c;obtain rfl:=Zqi c;subst z;exact⟨b1,b2,h.ext (.refl _) λu q=>by simp_all [JM]⟩
  .rw[Ze z] at c;have ⟨C,E,G⟩:=t.obj b e c;exact⟨C,E,G.ext (.refl _) λu q=>by show jB B'.H0 a o b=some u;rwa [JJ z]⟩
def zg (F b:Hp)(hp:HP):Hp:=λa=>match j6 hp a with
 |some _=>b a
 |none=>F a
theorem RT.frz (t:RT K B B' F H sd hp Z):∃h,jm F h/\RS K B h H sd Z /\ ∀a d,j6 hp a=some d->jg K h d (.ref a):=by
 have s:∀b d,j6 hp b=some d->zg F B'.H0 hp b=B'.H0 b:=λb d e=>by grind[zg]
 have g:∀b,j6 hp b=none->zg F B'.H0 hp b=F b:=λb e=>by grind[zg]
 have f:jm F (zg F B'.H0 hp):=λb u e=>by
  cases q:j6 hp b with
  |none=>rwa [g b q]
  |some d=>rw[t.free q] at e;exact J6 e
 refine⟨zg F B'.H0 hp,f,⟨⟨?_,λb u e=>?_,t.sub.trans t.rs.ext.hh,λb E j=>?_⟩,t.rs.len,λq=>let ⟨v,j,h2⟩:=t.rs.val q;⟨v,j,jg.same f _ _ h2⟩,λ{i p e} q=>?_,t.rs.apart⟩,λb e m=>?_⟩
 .rw[<- t.f0];exact t.rs.ext.ff.trans f
 .cases q:j6 hp b with
  |none=>rw[g b q] at e;exact t.rs.ext.fh _ _ e
  |some d=>rw[s b d q] at e;exact t.rs.ext.hh _ _ e
 .cases q:j6 hp b with
  |none=>rw[g b q];exact t.rs.ext.new b (by rwa [t.f0]) (by rwa [t.out b q])
  |some d=>exact Zn (t.obj b d q).2.1 j
 .have ⟨l,w,n,G,x,y⟩:=t.rs.own q;have A:j6 hp l=none:=by
   cases z:j6 hp l with
   |none=>rfl
   |some I=>exact Zn rfl (t.no_own z n)
  exact⟨l,w,Qj t.sub n,by rwa [g l A],x.ext f λ_ q=>q,λz=>by rw[<- t.pa];exact y z⟩
 .have ⟨J,L,r⟩:=t.obj b e m;have ⟨o,C⟩:=r.has;refine jg.same (λc u q=>?_) _ _ (r.frz C (t.free m));by_cases z:c=b
  .simp_all [JM]
  .rw[JJ z] at q;exact f _ _ q
end
mutual
def der (hp:HP):D->D
 | .adr a=>match j6 hp a with
  |some d=>d
  |none=>.adr a
 | .lst ds=>.lst (zG hp ds)
 | .non=>.non
 | .bl b=>.bl b
 | .int i=>.int i
 | .str x=>.str x
 | .ty n=>.ty n
 | .scr ns=>.scr ns
 | .tup ds=>.tup ds
 | .dct ks ds=>.dct ks ds
 | .ins c fs ds=>.ins c fs ds
 | .exc c=>.exc c
 | .ucl c=>.ucl c
 | .dcf ks ds=>.dcf ks ds
 | .pin a d=>.pin a d
def zG (hp:HP):YH->YH
 | []=>[]
 |d::ds=>der hp d::zG hp ds
end
theorem SG (hp)(a):der hp (.adr a)=match j6 hp a with
 |some d=>d
 |none=>.adr a:=by rw[der]
def SH (hp):zG hp []=[]:=by rw[zG]
section
variable {K:W.Frag}{B:Bs}{F H:Hp}{sd:SD}{hp:HP}{Z: St}
mutual
theorem jg.der (f:∀a d,j6 hp a=some d->jg K F d (.ref a)):∀d v,jg K F d v->jg K F (der hp d) v
 | .adr a,v,h=>by
  obtain rfl:=qa.mp h
  grind[SG]
 | .lst ds,v,h=>have ⟨a,e,g,i,j⟩:=jn.mp h;jn.mpr ⟨a,e,g,i,jd.der f ds e j⟩
 | .non,v,h=>by rwa [L2.DL.der]
 | .bl b,v,h=>by rwa [L2.DL.der]
 | .int b,v,h=>h
 | .str b,v,h=>by rwa [L2.DL.der]
 | .ty b,v,h=>h
 | .scr b,v,h=>by rwa [L2.DL.der]
 | .tup b,v,h=>by rwa [L2.DL.der]
 | .dct b c,v,h=>h
 | .ins b c d,v,h=>by rwa [L2.DL.der]
 | .exc b,v,h=>by rwa [L2.DL.der]
 | .ucl b,v,h=>by rwa [L2.DL.der]
 | .dcf b c,v,h=>by rwa [L2.DL.der]
 | .pin b c,v,h=>by rwa [L2.DL.der]
theorem jd.der (c:∀a d,j6 hp a=some d->jg K F d (.ref a)):∀ds b,jd K F ds b->jd K F (zG hp ds) b
 | [],b,h=>by rwa [SH]
 |d::ds,b,h=>have ⟨x,r,e,f,g⟩:=jo.mp h;jo.mpr ⟨x,r,e,jg.der c d x f,jd.der c ds r g⟩
end
def derI (hp:HP):Yj->SD->SD
 | [],sd=>sd
 |i::is,sd=>derI hp is (match sd[i]? with
  |some (some (.val d))=>sd.set i (some (.val (der hp d)))
  |_=>sd)
def Hv {α: Type}{l:List α}{a:α}(h:l[i]? = some a):l.set i a=l:=by
 apply VP;intro j;by_cases z:i=j
 .subst z;rw[UU (Jc.mp h).1,h]
 .rw[Zx z]
def RS.reval (r:RS K B F H sd Z)(a:sd[i]? = some (some (.val d)))(h:∀v,jg K F d v->jg K F d' v):RS K B F H (sd.set i (some (.val d'))) Z:= by
 have ⟨v,b,c⟩:=r.val a;have:=r.setVal (i:=i) (h v c)
 rwa [Hv b] at this
theorem RS.derI (b:∀a d,j6 hp a=some d->jg K F d (.ref a)):∀is {sd:SD},RS K B F H sd Z -> RS K B F H (derI hp is sd) Z
 | [],sd,r=>r
 |i::is,sd,r=>by
  unfold L2.DL.derI
  split
  .rename_i d h;exact RS.derI b is (r.reval h λv q=>jg.der b d v q)
  .exact RS.derI b is r
end
inductive Out2 where
 |next (sd:SD) (hp:HP)|ret (d:D)|brk (sd:SD) (hp:HP)|cont (sd:SD) (hp:HP)
def wN (K:W.Frag)(m:Option Bool)(B:Bs)(F:Hp)(T:Ends):Out2->Prop
 | .next sd hp=>∀Z c a b,jm F a->RT K B c a b sd hp Z -> T.nx Z b
 | .brk sd hp=>∀Z c a b,jm F a->RT K B c a b sd hp Z -> T.bk Z b
 | .cont sd hp=>∀Z c a b,jm F a->RT K B c a b sd hp Z -> T.ct Z b
 | .ret d=>Ao K m B T.rt d
abbrev qP:=SD->HP->Res Out2
def vc (K:W.Frag)(E:XK)(m:Option Bool)(g:qP):TS:=λT Z H=>∃B a F sd hp,RT K B a F H sd hp Z /\ (g sd hp).need (wN K m B F T) (XW K E B.F0 B.H0)
abbrev wX (X:Cx)(E:XK)(m:Option Bool)(st:Stmt)(g:qP):Prop:=PS X st (vc X.K E m g)
abbrev yQ (X:Cx)(E:XK)(m:Option Bool)(st:List Stmt)(g:qP):Prop:=qG X st (vc X.K E m g)
def fI (hp:HP):Out->Out2
 | .next sd=>.next sd hp
 | .ret d=>.ret d
 | .brk sd=>.brk sd hp
 | .cont sd=>.cont sd hp
section
variable {K:W.Frag}{E:XK}{m:Option Bool}{B B':Bs}{F F' H:Hp}{T:Ends}{sd:SD}{hp:HP}{Z: St}
def wN.mono (h:wN K m B F T o)(e:jm F F'):wN K m B F' T o:=by
 cases o with
 |next sd hp=>exact λZ a b c s r=>h Z a b c (e.trans s) r
 |brk sd hp=>exact λZ a b c s r=>h Z a b c (e.trans s) r
 |cont sd hp=>exact λZ a b c s r=>h Z a b c (e.trans s) r
 |ret d=>exact h
def RT.lift (t:RT K B B' F H sd hp Z)(h:wN K m B F T (fI hp o)):zv K m B' F T o:=by
 cases o with
 |next sd'=>exact λa F' b s r=>h a B' F' b s (t.go s r)
 |brk sd'=>exact λa F' b s r=>h a B' F' b s (t.go s r)
 |cont sd'=>exact λa F' b s r=>h a B' F' b s (t.go s r)
 |ret d=>exact t.ret h
end
section
variable {X:Cx}{E:XK}{m:Option Bool}{st:Stmt}{sts:List Stmt}{g:FS}{g1 g2:qP}{pos pos':Pos}{o i e:Expr}{fo fi fv:FE}
def vg (g:FS):qP:=λsd hp=>(g sd).bind λo=>.ok (fI hp o)
def Di (h:QS X E m st g):wX X E m st (vg g):=PS.weak h λT Z H ⟨B,a,F,sd,hp,t,n⟩=>⟨a,F,sd,t.rs,(ja n).mono (λo b=>t.lift b) λ_ _ q=>t.xw q⟩
def Dj:qP:=λsd hp=>.ok (.next sd hp)
def AH (g1 g2:qP):qP:=λsd hp=>(g1 sd hp).bind λo=>match o with
 | .next sd' hp'=>g2 sd' hp'
 |o=>.ok o
def SI:yQ X E m [] Dj:=qG.weak ZL λT Z H ⟨B,a,F,sd,hp,t,n⟩=>n Z a F H (.refl _) t
def Hw (h:wX X E m st g1):yQ X E m [st] g1:=Bw h
def SJ (b:wX X E m st g1)(c:yQ X E m sts g2):yQ X E m (st::sts) (AH g1 g2):=qG.weak (X9 b c) λT Z H f=>by
 obtain⟨B,h,F,sd,hp,t,n⟩:=f;refine⟨B,h,F,sd,hp,t,(ja n).mono (λo a=>?_) λ_ _ q=>q⟩;cases o with
 |next sd' hp'=>exact λr j l u s p=>⟨B,j,l,sd',hp',p,a.mono (λo q=>q.mono s) λ_ _ q=>q⟩
 |ret d=>exact a
 |brk sd' hp'=>exact a
 |cont sd' hp'=>exact a
abbrev vu:=SD->HP->Res Bool
def bU (K:W.Frag)(E:XK)(f:vu):TT:=λZ H Q=>∃B a F sd hp,RT K B a F H sd hp Z /\ (f sd hp).need (vp F H Q) (XW K E F H)
abbrev rP (X:Cx)(E:XK)(e:Expr)(f:vu):Prop:=PT X e (bU X.K E f)
def z9 (c:vu)(g1 g2:qP):qP:=λsd hp=>(c sd hp).bind λb=>if b then g1 sd hp else g2 sd hp
def uA (p:rP X E c fc)(r:yQ X E m a g1)(s:yQ X E m b g2):wX X E m (.If c a b pos) (z9 fc g1 g2):=PS.weak (Bz p r s) λT Z H u=>by
 obtain⟨B,h,F,sd,hp,t,n⟩:=u;refine⟨B,h,F,sd,hp,t,(ja n).mono (λb j l v f=>?_) λ_ _ q=>q.ext (t.ext0 t.rs.ext)⟩;cases b with
 |true=>exact⟨B,h,l,sd,hp,t.go f.ff (t.rs.step f),j.mono (λ_ q=>q.mono f.ff) λ_ _ q=>q⟩
 |false=>exact⟨B,h,l,sd,hp,t.go f.ff (t.rs.step f),j.mono (λ_ q=>q.mono f.ff) λ_ _ q=>q⟩
def xg (b:D->qP):YH->qP
 | [],sd,hp=>.ok (.next sd hp)
 |x::xs,sd,hp=>(b x sd hp).bind λo=>match o with
  | .next sd' hp'=>xg b xs sd' hp'
  | .cont sd' hp'=>xg b xs sd' hp'
  | .brk sd' hp'=>.ok (.next sd' hp')
  | .ret d=>.ok (.ret d)
def KS (tg:Tg)(b:qP)(x:D):qP:=λsd hp=>(JR tg x sd).bind λs=>b s hp
def AI (it:FA)(tg:Tg)(b:qP):qP:=λsd hp=>(it sd).bind λds=>xg (KS tg b) ds sd hp
def SK (wk:wy X.K F1 J ds)(r:RT X.K B B1 F1 H1 sd hp Z)(Y:(xg (KS t g1) ds sd hp).need (wN X.K m B F1 T) (XW X.K E B.F0 B.H0)):
 ∃W:Nat->Nat->St->Hp->Prop,(∃m,W 0 m Z H1)/\∀i S Z H,W i S Z H->(J.stop i H/\T.nx Z H)\/(J.go i H/\∃N:St->Hp->Prop,(∀s h,N s h->∃m2,m2<S/\W (i+1) m2 s h)/\∀x h,J.yld i H x h->gT t X.K x Z h λK C=>vc X.K E m g1 { T with nx:=N,ct:=N,bk:=T.nx } K C):=by
 refine⟨λi k Z H=>k=ds.length-i/\i<=ds.length/\∃F u sd hp,jm F1 u/\RT X.K B F u H sd hp Z /\ (xg (KS t g1) (ds.drop i) sd hp).need (wN X.K m B u T) (XW X.K E B.F0 B.H0),
  ⟨ds.length,rfl,Ua _,B1,F1,sd,hp,.refl _,r,Y⟩,?_⟩
 rintro i k K C ⟨rfl,hi,F,u,sd2,L,M,G,v⟩;obtain⟨w1,w2⟩:=wk i u C M G.rs.ext.fh;by_cases j:i<ds.length
 .have ⟨go,yl⟩:=w1 j;refine .inr ⟨go,λs h=>∃O l a b,jm F1 l/\RT X.K B O l h a b s/\(xg (KS t g1) (ds.drop (i+1)) a b).need (wN X.K m B l T) (XW X.K E B.F0 B.H0),
   λs h ⟨O,l,a,b,q1,q2,q3⟩=>⟨ds.length-(i+1),(),rfl,j,O,l,a,b,q1,q2,q3⟩,λx H3 y=>?_⟩
  obtain⟨d,l,hd,n,i3⟩:=yl x H3 y;rw[Ut j] at v;have P:ds[i]=d:=by simp_all
  rw[P] at v;have U:=G.go n.ff (G.rs.step n);refine XY U.rs i3 (ja (ja v)) λsd' s n4 _ r4=>⟨B,F,l,sd',L,U.go (.refl _) r4,n4.mono (λo I=>?_) λ_ _ q=>q⟩;cases o with
  |next c f=>exact λQ w z R p A=>⟨w,z,c,f,(M.trans n.ff).trans p,A,I.mono (λ_ q=>q.mono (n.ff.trans p)) λ_ _ q=>q⟩
  |cont c f=>exact λQ w z R p A=>⟨w,z,c,f,(M.trans n.ff).trans p,A,I.mono (λ_ q=>q.mono (n.ff.trans p)) λ_ _ q=>q⟩
  |brk c f=>exact λQ w z R p A=>I Q w z R (n.ff.trans p) A
  |ret d=>exact I
 .have he:i=ds.length:=()
  refine .inl ⟨w2 (),?_⟩;subst he;rw[Va] at v;exact v K F u C (.refl _) G
def SL (hp:PassesOwn (model X.prog X.w) X.A X.env X.xe)(c:X.calm=true)(f:QI X E tg iter it)(h:QG X tg t)(j:yQ X E m body g1)
 (a:∀x,foldedSetIterable iter X.env x=pure x:=by intro _;rfl):wX X E m (.For tg iter body [] pos) (AI it t g1):=PS.weak (DS hp c f h j a) λT Z H ⟨B,l,F,sd,hp,r,n⟩=>⟨l,F,sd,r.rs,(ja n).mono (λds p J s u b wk=>(SK wk (r.go b.ff (r.rs.step b)) (p.mono (λ_ q=>q.mono b.ff) λ_ _ q=>q))) λ_ _ q=>q.ext (r.ext0 r.rs.ext)⟩
end
@[simp]def vF (hp:HP)(sd:SD):fI hp (.next sd)=.next sd hp:=rfl
@[simp]def nh (g:FS)(sd:SD)(hp:HP):vg g sd hp=(g sd).bind λo=>.ok (fI hp o):=rfl
def vZ (g:qP):Out2->Res Out2
 | .next sd hp=>g sd hp
 |o=>.ok o
@[simp]def cu (g:qP)(sd:SD)(hp:HP):vZ g (.next sd hp)=g sd hp:=rfl
@[simp]def gD (a b:qP)(sd:SD)(hp:HP):AH a b sd hp=(a sd hp).bind (vZ b):=by
 rfl
@[simp]def dV (sd:SD)(hp:HP):Dj sd hp=.ok (.next sd hp):=rfl
@[simp]def Hx (c:vu)(a e:qP)(sd:SD)(hp:HP):z9 c a e sd hp=(c sd hp).bind λb=>if b then a sd hp else e sd hp:=rfl
@[simp]def SN (it:FA)(tg:Tg)(b:qP)(sd:SD)(hp:HP):AI it tg b sd hp=(it sd).bind λds=>xg (KS tg b) ds sd hp:=rfl
@[simp]def gM (hp:HP)(sd:SD):derI hp [] sd=sd:=rfl
def gO (hp:HP)(i:Nat)(sd:SD):Option (Option SV)->SD
 |some (some (.val d))=>sd.set i (some (.val (der hp d)))
 |_=>sd
@[simp]def gN (hp:HP)(i:Nat)(sd:SD)(d:D):gO hp i sd (some (some (.val d)))=sd.set i (some (.val (der hp d))):=rfl
@[simp]def dU (hp:HP)(i:Nat)(is:Yj)(sd:SD):derI hp (i::is) sd=derI hp is (gO hp i sd sd[i]?):=by
 rfl
@[simp]def gJ (tg:Tg)(b:qP)(x:D)(sd:SD)(hp:HP):KS tg b x sd hp=(JR tg x sd).bind λs=>b s hp:=rfl
def wE (K:W.Frag)(F H:Hp)(hp:HP):Prop:=∀a d,j6 hp a=some d->F a=none/\yE K F H a d
def RT.lent {K:W.Frag}{B a:Bs}{F H:Hp}{sd:SD}{hp:HP}{Z: St}(t:RT K B a F H sd hp Z):wE K F H hp:=λ_ _ h=>⟨t.free h,t.lies h⟩
abbrev qy:=SD->HP->Res (D×HP)
abbrev xH:=SD->HP->Res (YH×HP)
abbrev zo:=SD->HP->Res (Bool×HP)
def wh (K:W.Frag)(E:XK)(f:qy):TE:=λZ H Q=>∃B c F sd hp,RT K B c F H sd hp Z /\ (f sd hp).need (λp=>∀v e a b,jm F a->RT K B e a b sd p.2 Z -> jg K a p.1 v->Q v b) (XW K E B.F0 B.H0)
abbrev zM (X:Cx)(E:XK)(e:Expr)(f:qy):Prop:=PE X e (wh X.K E f)
def vS (K:W.Frag)(E:XK)(f:xH):TA:=λZ H Q=>∃B e F sd hp,RT K B e F H sd hp Z /\ (f sd hp).need (λp=>∀b g a c,jm F a->RT K B g a c sd p.2 Z -> jd K a p.1 b->Q b c) (XW K E B.F0 B.H0)
abbrev wD (X:Cx)(E:XK)(es:Ym)(f:xH):Prop:=PA X es (vS X.K E f)
def vR (K:W.Frag)(E:XK)(f:zo):TT:=λZ H Q=>∃B c F sd hp,RT K B c F H sd hp Z /\ (f sd hp).need (λp=>∀e a b,jm F a->RT K B e a b sd p.2 Z -> Q p.1 b) (XW K E B.F0 B.H0)
abbrev fz (X:Cx)(E:XK)(e:Expr)(f:zo):Prop:=PT X e (vR X.K E f)
section
variable {X:Cx}{E:XK}{m:Option Bool}{a b e o i:Expr}{es:Ym}{fa fb fe fo fi:FE}{f2 g2:qy}{fr:xH}{pos pos':Pos}
def zr (fe:FE):qy:=λsd hp=>(fe sd).bind λd=>.ok (d,hp)
def Xt (h:QE X E e fe):zM X E e (zr fe):=PE.weak h λZ H Q ⟨B,f,F,sd,hp,t,n⟩=>⟨f,F,sd,t.rs,(ja n).mono (λd g v j l c p=>g v f j l c.ff (t.go c.ff (t.rs.step c)) p) λ_ _ q=>q.ext (t.ext0 t.rs.ext)⟩
def zx (g:D->D->YI)(fa fb:qy):qy:=λsd hp=>(fa sd hp).bind λp=>(fb sd p.2).bind λq=>(Res.ofO (g p.1 q.1)).bind λz=>.ok (z,q.2)
def SO {K:W.Frag}{g:D->D->YI}{Z: St}{H:Hp}{Q:VK}(h:wh K E (zx g f2 g2) Z H Q):wP (wQ K g) (wh K E f2) (wh K E g2) Z H Q:=by
 obtain⟨B,l,F,sd,hp,t,n⟩:=h;refine⟨B,l,F,sd,hp,t,(ja n).mono (λp r v s x P y A C=>⟨B,s,x,sd,p.2,A,(ja r).mono (λq G w I J R j c L=>?_) λ_ _ q=>q⟩) λ_ _ q=>q⟩;obtain⟨z,hz,k⟩:=jh (ja G);exact⟨J,p.1,q.1,z,c.rs.ext.fh,jg.same j _ _ C,L,hz,λu M N f O=>k u I M N ((y.trans j).trans f.ff) (c.go f.ff (c.rs.step f)) O⟩
def SQ (c:yH X (wQ X.K g))(f:zM X E a f2)(j:zM X E b g2)(hs:ZQ b):zM X E (.Subscript a b pos) (zx g f2 g2):=PE.weak (B9 c f j hs) λ_ _ _ h=>SO h
def SR (fa:qy):zo:=λsd hp=>(fa sd hp).bind λp=>match p.1 with
 | .bl b=>.ok (b,p.2)
 |_=>.no
def AJ:xH:=λ_ hp=>.ok ([],hp)
def Wu (f:qy)(g:xH):xH:=λsd hp=>(f sd hp).bind λp=>(g sd p.2).bind λq=>.ok (p.1::q.1,q.2)
def SS:wD X E [] AJ:=PA.weak W0 λZ H Q ⟨B,c,F,sd,hp,t,n⟩=>n [] c F H (.refl _) t .nil
def Dk (f:zM X E e f2)(g:wD X E es fr)(hs:starEach (e::es) X.env=(false,eval e X.env)::starEach es X.env:=by rfl):wD X E (e::es) (Wu f2 fr):=PA.weak (Wf f g hs) λZ H Q ⟨B,h,F,sd,hp,t,n⟩=>⟨B,h,F,sd,hp,t,(ja n).mono (λp j v l r J s u w=>⟨B,l,r,sd,p.2,u,(ja j).mono (λq x y z A C c G I=>(x (v::y) z A C (s.trans c) G (.mk (jg.same c _ _ w) I))) λ_ _ q=>q⟩) λ_ _ q=>q⟩
def v6 (fr:xH):qy:=λsd hp=>(fr sd hp).bind λp=>if p.1.length<=1000 then .ok (.tup p.1,p.2) else .no
def SU (i:Nat)(f:qy):qP:=λsd hp=>(f sd hp).bind λp=>.ok (.next (sd.set i (some (.val p.1))) p.2)
def V6 (i:Nat)(f:qy):qP:=λsd hp=>match sd[i]? with
 |some (some (.own false (.lst ds)))=>(f sd hp).bind λp=>if ds.length<sizeLine then .ok (.next (sd.set i (some (.own false (.lst (ds++[p.1]))))) p.2) else .no
 |_=>.no
def SW {i:Nat}{c f:Pos}(y:PE X o (xC i))(z:zM X E e f2)
 (hp:∀{u:TE} {t:TA},PE X o u->PA X [e] t->PE X (.Call (.Attribute o "append" c) [e] [] f) (fM X.K "list" BA u t))
 (hs:swapsWith (.Call (.Attribute o "append" c) [e] [] f) none pos.line X.env=pure false:=by rfl)
 (g:starEach [e] X.env=(false,eval e X.env)::starEach [] X.env:=by rfl):wX X E m (.Expr (.Call (.Attribute o "append" c) [e] [] f) pos) (V6 i f2):=
 PS.weak (Bx (hp y (Wf z W0 g)) hs) λT Z H A=>by
  obtain⟨B,C,F,sd,hp,t,n⟩:=A;unfold V6 at n
  split at n
  .rename_i ds h;obtain⟨l,j,O,P,⟨G,I,Q⟩,_⟩:=t.rs.own h;refine⟨.ref l,j,.inl ⟨rfl,G,xb.of I⟩,B,C,F,sd,hp,t,(ja n).mono (λp r v J K R L s M=>?_) λ_ _ q=>q⟩
   split at r
   .obtain⟨S,w,g2,U,⟨ys,N,x⟩,_⟩:=s.rs.own h;rw[j] at w;cases w;have Y:=x.length;exact⟨l,ys,v,rfl,rfl,N,(),r Z J K _ L (s.go (.refl _) (s.rs.chg h j ⟨ys++[v],JM,x.snoc M⟩))⟩
   .exact r.elim
  .exact n.elim
end
def Hy (K:W.Frag)(E:XK)(g:qy):TS:=λT Z H=>∃B c F sd hp,RT K B c F H sd hp Z /\ (g sd hp).need (λp=>∀v e sd' f a b,jm F a->RT K B f a b sd' p.2 e->jg K a p.1 v->T.rt v b) (XW K E B.F0 B.H0)
abbrev yA (X:Cx)(E:XK)(sts:List Stmt)(g:qy):Prop:=qG X sts (Hy X.K E g)
section
variable {X:Cx}{E:XK}{m:Option Bool}{e:Expr}{f2 g2 ga:qy}{g1:qP}{fc:zo}{pos:Pos}{st:Stmt}{sts a:List Stmt}{c:Expr}
def AK (h:zM X E e f2):yA X E [.Return (some e) pos] f2:=qG.weak (Bw (ZM h)) λT Z H ⟨B,b,F,sd,hp,t,n⟩=>⟨B,b,F,sd,hp,t,n.mono () λ_ _ q=>q⟩
def y8 (g1:qP)(g2:qy):qy:=λsd hp=>(g1 sd hp).bind λo=>match o with
 | .next sd' hp'=>g2 sd' hp'
 |_=>.no
def AL (g:wX X E m st g1)(h:yA X E sts g2):yA X E (st::sts) (y8 g1 g2):=qG.weak (X9 g h) λT Z H i=>by
 obtain⟨B,j,F,sd,hp,t,n⟩:=i;refine⟨B,j,F,sd,hp,t,(ja n).mono (λo b=>?_) λ_ _ q=>q⟩;cases o with
 |next sd' hp'=>exact λI l r J s u=>⟨B,l,r,sd',hp',u,b.mono (λp q v w f x y z A C G=>q v w f x y z (s.trans A) C G) λ_ _ q=>q⟩
 |ret d=>exact b.elim
 |brk sd' hp'=>exact b.elim
 |cont sd' hp'=>exact b.elim
def bt (fc:zo)(ga g2:qy):qy:=λsd hp=>(fc sd hp).bind λp=>if p.1 then ga sd p.2 else g2 sd p.2
def Hz (z:fz X E c fc)(A:yA X E a ga)(C:yA X E sts g2):yA X E (.If c a [] pos::sts) (bt fc ga g2):=qG.weak (X9 (Bz z A ZL) C) λT Z H G=>by
 obtain⟨B,I,F,sd,hp,t,n⟩:=G;refine⟨B,I,F,sd,hp,t,(ja n).mono (λp s u w J x y=>?_) λ_ _ q=>q⟩;obtain⟨k,f⟩:=p;cases k with
 |true=>exact⟨B,u,w,sd,f,y,s.mono (λp q v g b h i j l o r=>q v g b h i j (x.trans l) o r) λ_ _ q=>q⟩
 |false=>exact⟨B,u,w,sd,f,y,s.mono (λp q v g b h i j l o r=>q v g b h i j (x.trans l) o r) λ_ _ q=>q⟩
end
structure ExtW (K:W.Frag)(F H:Hp)(hp:HP)(F' H':Hp)(hp':HP):Prop where
 ff:jm F F'
 fh:jm F' H'
 hh:∀a o,j6 hp a=none->H a=some o->H' a=some o
 new:∀a,F a=none->H a≠none->F' a=none
 len:wE K F' H' hp'
 dom:∀a,j6 hp' a=none↔j6 hp a=none
theorem Dl:∀{hp:HP} {a:Addr},j6 hp a=none↔a∉hp.map (·.1)
 | [],a=>by simp[SF]
 |p::r,a=>by
  rw[WM,Zl,U0,not_or];by_cases z:a=p.1
  .simp_all
  .rw[Ze z,Dl]
   simp_all
def yO (H:Hp)(hp:HP):Hp:=λa=>match j6 hp a with
 |none=>H a
 |some _=>none
def WN (h:j6 hp a=none):yO H hp a=H a:=by grind[yO]
def SX (h:j6 hp a=some d):yO H hp a=none:=by unfold yO;rw[h]
def K5 (n ar:Nat)(g:qy)(ds:YH)(hp:HP):Res (D×HP):=if ds.length=ar then(g (Qz n ds) hp).bind λp=>if p.2.map (·.1)=hp.map (·.1) then .ok p else .no else .no
section
variable {K:W.Frag}{B B':Bs}{F F' H H':Hp}{sd:SD}{hp hp':HP}{Z: St}
def RT.call (t:RT K B B' F H sd hp Z)(w:ExtW K F H hp F' H' hp'):∃j,RT K B j F' H' sd hp' Z:= by
 have m:=λa o h e=>w.hh a o h (t.rs.ext.hh _ _ e);refine⟨⟨B'.F0,λa=>match j6 hp a with
  |none=>B'.H0 a
  |some _=>H' a,B'.pa⟩,⟨⟨t.rs.ext.ff.trans w.ff,w.fh,λa o e=>?_,λa n c=>?_⟩,t.rs.len,λq=>let ⟨v,c,h2⟩:=t.rs.val q;⟨v,c,jg.same w.ff _ _ h2⟩,λ{i p d} q=>?_,t.rs.apart⟩,t.f0,t.pa,λa b=>?_,λa d b=>?_⟩
 .grind
 .cases z:j6 hp a with
  |none =>
   have c:(match j6 hp a with
    |none=>B'.H0 a
    |some _=>H' a)≠none:=c
   rw[z] at c;exact w.new a (t.rs.ext.new a n c) λy=>(c (Qj t.rs.ext.hh y))
  |some d =>
   obtain⟨o,r⟩:=(t.lies z).has;exact w.new a (t.free z) ()
 .obtain⟨l,s,x,A,f,C⟩:=t.rs.own q;have g:j6 hp l=none:=by
   cases z:j6 hp l with
   |none=>rfl
   |some I=>exact Zn rfl (t.no_own z x)
  obtain⟨o,r⟩:=f.has;refine⟨l,s,?_,w.new l A (),f.ext w.ff λu q=>w.hh _ _ g q,λz=>(C z).mono λu q=>w.hh _ _ g q⟩
  simp_all
 .have b:=(w.dom a).mp b;show(match j6 hp a with
   |none=>B'.H0 a
   |some _=>H' a)=B.H0 a
  rw[b];exact t.out a b
 .cases z:j6 hp a with
  |none=>rw[(w.dom a).mpr z] at b;cases b
  |some d0 =>
   obtain⟨E,G,_⟩:=t.obj a d0 z;refine⟨E,G,(w.len a d b).2.ext (.refl _) λo q=>?_⟩
   simp_all
def RT.hidden (t:RT K B B' F H sd hp Z):Ext B.F0 B.H0 F (yO H hp):=by
 have e:=t.ext0 t.rs.ext;refine⟨e.ff,λa o q=>?_,λa o q=>?_,e.new⟩
 .cases z:j6 hp a with
  |none=>rw[WN z];exact e.fh _ _ q
  |some d=>rw[t.free z] at q;exact J6 q
 .cases z:j6 hp a with
  |none=>rw[WN z];exact e.hh _ _ q
  |some d=>rw[(t.obj a d z).2.1] at q;exact J6 q
end
section
variable {X:Cx}{pos:Pos}
def V7 (a:YH->HP->Res (D×HP))(b:FA):qy:=λsd hp=>(b sd).bind λds=>a ds hp
end
abbrev FX:=SD->Res (D×SD)
section
variable {X:Cx}{E:XK}{m:Option Bool}{e o:Expr}{f:FX}{pos pos':Pos}
def uf (i:Nat)(f:FX):FS:=λsd=>(f sd).bind λp=>.ok (.next (p.2.set i (some (.val p.1))))
@[simp]def hV (i)(f)(sd):uf i f sd=(f sd).bind λp=>.ok (.next (p.2.set i (some (.val p.1)))):=rfl
end
def rj:FS:=λ_=>.no
def uy {X:Cx}{E:XK}{m:Option Bool}{st:Stmt}:QS X E m st rj:=λY s Z H T I ⟨B,F,sd,r,n⟩=>n.elim
section
variable {X:Cx}{E:XK}{e:Expr}{g:qy}{fe:FE}{sts:List Stmt}
def wx (i:Nat)(g:qy):qy:=λsd hp=>g (jS [i] sd) hp
def SY (h:yA X E sts g):yA X E sts (wx i g):=qG.weak h λT Z H ⟨B,b,F,sd,hp,t,n⟩=>have ⟨c,s,r⟩:=t.rs.frz [i];⟨B,b,c,_,hp,t.go s r,(n).mono (λp q v f a j l m o u w=>q v f a j l m (s.trans o) u w) λ_ _ q=>q⟩
def wu:D->D->YI:=λd e=>match d with
 | .dct _ _=>none
 | .dcf _ _=>none
 |d=>jt d e
def kl:yH X (wQ X.K wu):=FL
def bF (is:Yj)(f:FE):qy:=λsd hp=>(f (derI hp is sd)).strict.bind λd=>if KB d then .ok (d,hp) else .no
end
section
variable {X:Cx}{E:XK}{m:Option Bool}{e o i:Expr}{es:Ym}{f2 g2:qy}{f3:FX3}{f:FX}{fr2:xH}{pos pos':Pos}
def r0 (z:D)(q:D×HP):Res (D×HP):=match z with
 | .adr a=>match j6 q.2 a with
  |some (.lst es)=>(Res.ofO (jt (.lst es) q.1)).bind λz=>.ok (z,q.2)
  |_=>.no
 |_=>.no
def v7 (a b:qy):qy:=λsd hp=>(a sd hp).bind λp=>(b sd p.2).bind (r0 p.1)
def SZ (a:YH->HP->Res (D×HP))(b:xH):qy:=λsd hp=>(b sd hp).bind λp=>a p.1 p.2
end
open Classical in
def xV (n:Nat)(g:Yl->Res Out):Res Out:=if h:∃o,∀a,a.length=n->g a=.ok o then .ok (Classical.choose h) else .no
def HA (h:∀a,a.length=n->g a=.ok o):xV n g=.ok o:=by
 have b:∃o,∀a,a.length=n->g a=.ok o:=⟨o,h⟩;unfold xV;have c:(List.replicate n (0:Addr)).length=n:=VQ
 grind
def capO (cap:List (Option Nat))(k:Nat)(sd:SD):SD:=match (cap[k]?).join with
 |some j=>match sd[j]? with
  |some (some (.own false d))=>(jW cap sd).set k (some (.own false d))
  |_=>jW cap sd
 |none=>jW cap sd
def Ta {cap:List (Option Nat)}{sd:SD}{i:Nat}{x:SV}(q:(jW cap sd)[i]? = some (some x)):∃d,x=.val d:=by
 unfold jW at q;rw[Zv] at q;cases a:cap[i]? with
 |none=>simp_all
 |some o =>
  rw[a] at q;cases o with
  |none=>cases q
  |some j =>
   grind
theorem RS.capO {K:W.Frag}{B:Bs}{F H:Hp}{sd:SD}{Z: St}(cap)(k)(r:RS K B F H sd Z):RS K B F H (capO cap k sd) (KL cap Z):=by
 unfold L2.DL.capO
 split
 .rename_i j a
  split
  .rename_i d f;obtain⟨l,g,h,m,n,_⟩:=r.own f;have s:(KL cap Z)[k]? = some (some (.ref l)):=by
    unfold KL;rw[Zv];cases b:cap[k]? with
    |none=>rw[b] at a;exact J6 a
    |some o =>
     rw[b] at a;have a:o=some j:=a;subst a;show some (Option.bind (some j) λj=>(Z[j]?).join)=_;rw[Option.bind_some,g];rfl
   have c:=(r.cap cap).setOwn (i:=k) (d:=d) (l:=l) h m n λi p e q=>by
    obtain⟨t,z⟩:=Ta q;cases z
   rw[Hv s] at c;exact c
  .exact r.cap cap
 .exact r.cap cap
def Xu (cap:List (Option Nat))(k:Nat)(it:FA)(tg:Tg)(f:FE):FE:=λsd=>(it sd).bind λds=>if V3 (capO cap k sd) tg=true/\ds.length<sizeLine then(xS (λx=>(JR tg x (capO cap k sd)).bind f) ds).bind λys=>.ok (.lst ys) else .no
def Tb {K:W.Frag}{E:XK}{t:Tg}{z:FA}{f:FE}{cap:List (Option Nat)}{c:Nat}{Z: St}{H:Hp}{Q:VK}(l:vd K E (Xu cap c z t f) Z H Q):WX cap (fL K E z) (gT t K) (tD K E f) Z H Q:=by
 obtain⟨B,F,sd,r,n⟩:=l;refine⟨B,F,sd,r,(ja n).mono (λds m J A G j wk=>?_) λ_ _ q=>q⟩
 split at m
 .rename_i l;obtain⟨I,hz⟩:=l;refine⟨λi k ys Z b=>k=ds.length-i/\i<=ds.length/\∃a es,Ext A G a b/\RS K B a b (capO cap c sd) Z /\ jd K a es ys/\es.length=i /\
   (xS (λx=>(JR t x (capO cap c sd)).bind f) (ds.drop i)).need (λrs=>xK K a b Q (.lst (es++rs))) (XW K E a b),⟨ds.length,rfl,Ua _,A,[],.refl j.fh,(r.step j).capO cap c,.nil,rfl,?_⟩,?_⟩
  .exact(ja m).mono (λrs q=>(q).ext j) λ_ _ q=>q.ext j
  rintro i k ys Z2 b ⟨rfl,hi,a,es,o,p,s,hl,u⟩;have ly:=s.length;refine⟨(),?_⟩;obtain⟨L,M⟩:=wk i a b o.ff o.fh;by_cases g:i<ds.length
  .obtain⟨go,N⟩:=L g;refine .inr ⟨go,λx O y=>?_⟩;obtain⟨d,P,R,e,S⟩:=N x O y;have T:=F6 R u;refine XY (p.step e) S (ja T) λsd' Z' U X C=>?_;obtain⟨b1,b2⟩:=Cm I X;refine⟨B,P,sd',C,U.mono (λy Y v F4 H4 h i4=>⟨ds.length-(i+1),(),rfl,g,F4,es++[y],(o.trans e).trans h,(C.step h).forget b1 b2,(jd.same (e.ff.trans h.ff) _ _ s).snoc i4,(),Y.mono (λrs q=>?_) λ_ _ q=>q.ext (e.trans h)⟩) λ_ _ q=>q.ext e⟩;rw[Uh];exact q.ext (e.trans h)
  .have he:i=ds.length:=()
   subst he;refine .inl ⟨M (Zf _),λD w=>?_⟩;rw[Va] at u;have q:xK K a b Q (.lst (es++[])):=u;rw[ZA] at q;exact q D a _ (.keep p.ext.fh w _) w (Qj p.ext.fh w) ⟨ys,JM,s⟩
 .exact m.elim
section
variable {X:Cx}{E:XK}{m:Option Bool}{tg iter elt c:Expr}{scope:Scope}{pos spos py:Pos}{y:Str}{iy:Nat}{t:Tg}{fi:FA}{f:FE}
def HB (N)(cap)(c)(a:X.N.Nodup)(b:X.N[iy]? = some y)(e:yG X.env.scope y)(o:X.calm=true)(g:QH scope X.env N X.N cap=true)(p:QI X E tg iter fi)
 (r:∀i C s H j,QG (JK X scope N i C s H j) tg t) (u:∀i C s H j,QE (JK X scope N i C s H j) E elt f) (l:swapsWith (.ListComp elt [⟨tg,iter,[],0⟩] scope pos) (some (.Name y py)) spos.line X.env=pure true:=by rfl)
 (n:X.fn y=true\/X.env.scope.names.lookup y=some .local:=by trivial) (hs:∀x,foldedSetIterable iter X.env x=pure x:=by intro _;rfl):
 QS X E m (.Assign [.Name y py] (.ListComp elt [⟨tg,iter,[],0⟩] scope pos) spos) (j3 iy (Xu cap c fi t f)):=
 PS.weak (CA l a b e n N cap o g p r u hs) λT Z H h=>CB (λ_ _ _ q=>Tb q) h
end
@[simp]def gG (cap)(k)(it)(tg)(f)(sd):Xu cap k it tg f sd=(it sd).bind λds=>if V3 (capO cap k sd) tg=true/\ds.length<sizeLine then(qd tg f (capO cap k sd) ds).bind λys=>.ok (.lst ys) else .no:=rfl
def Ks (K:W.Frag)(c:YH->HP->Res (D×HP)):Sp:=λe H Q E=>∃F ds hp,jm F H/\jd K F ds e/\wE K F H hp/\(c ds hp).need (λp=>∀v a b,ExtW K F H hp a b p.2->jg K a p.1 v->Q v b) (XW K E F (yO H hp))
section
variable {P:Program}{w:World}{K:W.Frag}{mg:Ye}{base:Heap}{x qual:Str}{st:Stmt}{f:Addr}{fd:FuncData}{N ps:Yk}{k:Nat}
def HC (F:Fun K x qual st f fd)(S:FnScope N ps (JZ st))
 (B:∀c A b s H E,Room k (A.deeper (envOfC qual (JZ st) s.heap.objs.size f c))->qG (qc (xz P w) P w K mg base N qual (JZ st) f c A b s H E) (QV st) (Hy K E g)):
 FnOk P w K mg base (xz P w) (k+1) f fd ps (Ks K (K5 N.length ps.length g)):=by
 refine F.okX S (λr H Q E ⟨F,ds,hp,_,i,_,n⟩=>?_) λc A b s H r Q E C ⟨F,ds,hp,hs,i,u,n⟩=>⟨_,B c A b s H E C,?_⟩
 .unfold K5 at n
  split at n
  .rw[i.length];lia
  .exact n.elim
 .unfold K5 at n
  split at n
  .have t:RT K ⟨F,yO H hp,λ_=>none⟩ ⟨F,H,λ_=>none⟩ F H (Qz N.length ds) hp (L2.start N r):=⟨RS.start hs i,rfl,rfl,λa h=>(WN h).symm,λa d h=>⟨(u a d h).1,SX h,(u a d h).2⟩⟩;refine⟨_,_,F,_,hp,t,(ja n).mono (λp l v T sd' U G I J j L=>?_) λ_ _ q=>q⟩
   split at l
   .rename_i M;have m:∀a,j6 p.2 a=none↔j6 hp a=none:=λa=>by rw[Dl,Dl,M]
    have e:=j.ext0 j.rs.ext;refine l v G I ⟨J,j.rs.ext.fh,λa o h q=>e.hh a o ((WN h).trans q),λa O R=>?_,j.lent,m⟩ L;cases z:j6 hp a with
    |none=>exact e.new a O λy=>R ((WN z).symm.trans y)
    |some d =>
     cases y:j6 p.2 a with
     |none=>simp_all
     |some X=>exact j.free y
   .exact l.elim
  .exact n.elim
end
section
variable {X:Cx}{E:XK}{m:Option Bool}{e o i c:Expr}{es:Ym}{fe fo fi:FE}{fr:FA}{f2 g2:qy}{fr2:xH}{ft:FT}{pos pos' p:Pos}{name:Str}{k:Nat}{ps:Yk}
def HD (c:yk X.prog X.w X.K X.mg X.base name k ps (Ks X.K Fn))(T:Thrown X E)(h:Room k X.A)(j:Gl X name)(l:QA X E (e::es) fr)
 (b:(name == ("__debug__" : Str))=false:=by decide) (r:starEach (e::es) X.env=(false,eval e X.env)::starEach es X.env:=by rfl) (f:(backTo pos (starEach es X.env)).any (·.1)=false:=by rfl):
 zM X E (.Call (.Name name p) (e::es) [] pos) (V7 Fn fr):=PE.weak (YM c T h j l b r f) λZ H Q s=>by
 obtain⟨B,u,F,sd,hp,t,n⟩:=s;refine⟨u,F,sd,t.rs,(ja n).mono (λds x y z A a C=>?_) λ_ _ q=>q.ext (t.ext0 t.rs.ext)⟩;have g:=t.go a.ff (t.rs.step a);show Ks X.K Fn (y++[]) A Q E;rw[ZA];refine⟨z,ds,hp,a.fh,C,g.lent,x.mono (λp G v I J w i=>?_) λ_ _ q=>q.ext g.hidden⟩;obtain⟨K,L⟩:=g.call w;exact G v K I J (a.ff.trans w.ff) L i
def AM (a:YH->Res D)(fr:xH):qy:=λsd hp=>(fr sd hp).bind λp=>(a p.1).bind λd=>.ok (d,p.2)
def Tc (c:yk X.prog X.w X.K X.mg X.base name k ps (xu X.K Fn))(T:Thrown X E)(h:Room k X.A)(j:Gl X name)(l:wD X E (e::es) fr2)
 (b:(name == ("__debug__" : Str))=false:=by decide) (r:starEach (e::es) X.env=(false,eval e X.env)::starEach es X.env:=by rfl) (f:(backTo pos (starEach es X.env)).any (·.1)=false:=by rfl):
 zM X E (.Call (.Name name p) (e::es) [] pos) (AM Fn fr2):=PE.weak (YM c T h j l b r f) λZ H Q s=>by
 obtain⟨B,u,F,sd,hp,t,n⟩:=s;refine⟨B,u,F,sd,hp,t,(ja n).mono (λp w x y z A C a G=>?_) λ_ _ q=>q⟩;show xu X.K Fn (x++[]) A Q E;rw[ZA];exact⟨z,p.1,a.rs.ext.fh,G,(ja w).mono (λd I v J K g L=>I v y J K (C.trans g.ff) (a.go g.ff (a.rs.step g)) L) λ_ _ q=>q.ext (a.ext0 a.rs.ext)⟩
def zy (f:FT):zo:=λsd hp=>(f sd).bind λb=>.ok (b,hp)
def HE (h:QT X E e ft):fz X E e (zy ft):=PT.weak h λZ H Q ⟨B,f,F,sd,hp,t,n⟩=>⟨f,F,sd,t.rs,(ja n).mono (λb g j l a=>g f j l a.ff (t.go a.ff (t.rs.step a))) λ_ _ q=>q.ext (t.ext0 t.rs.ext)⟩
def wm (is:Yj)(f:FT):vu:=λsd hp=>(f (derI hp is sd)).strict
def Td (is)(h:QT X E e ft):rP X E e (wm is ft):=PT.weak h λZ H Q ⟨B,r,F,sd,hp,t,n⟩=>have ⟨a,s,b,f⟩:=t.frz;⟨B,a,_,b.derI f is,(jN (n)).mono (λd g u j l=>(g F j (.grow t.rs.ext.fh l.hh))) λc fs q=>q⟩
def zz (fo fi:FE):qy:=λsd hp=>(fo sd).bind λo=>match o with
 | .adr a=>match j6 hp a with
  |some (.dct ks ds)=>(fi sd).bind λk=>(Res.ofO ((QF k).bind λq=>jH ks ds q)).bind λz=>.ok (z,hp)
  |_=>.no
 |_=>.no
def Te (r:X.A.units+1<cLine)(s:QE X E o fo)(u:QE X E i fi)(hs:zN i):zM X E (.Subscript o i pos) (zz fo fi):=PE.weak (BF r s u hs) λZ H Q A=>by
 obtain⟨B,g,F,sd,hp,t,n⟩:=A;refine⟨g,F,sd,t.rs,(ja n).mono (λd b v C T h G=>?_) λ_ _ q=>q.ext (t.ext0 t.rs.ext)⟩
 split at b
 .rename_i a;obtain rfl:=qa.mp G
  split at b
  .rename_i ks ds I;have f:=t.go h.ff (t.rs.step h);refine⟨g,C,sd,f.rs,(ja b).mono (λy J w K L j M=>?_) λ_ _ q=>q.ext (t.ext0 f.rs.ext)⟩;have l:=f.go j.ff (f.rs.step j);have ⟨U,N,O,P⟩:=l.lies I;have ⟨z,hz,q⟩:=jh (ja J);have ⟨k,R,hz⟩:=Jg.mp hz;have ⟨x,S,ix⟩:=(Xi k O P).1 z hz;refine⟨a,x,rfl,?_,q x g K L (h.ff.trans j.ff) l ix⟩;rw[WF R M,<- S];exact Cv (.inl N)
  .exact b.elim
 .exact b.elim
def HF (fo b:FE)(sd:SD)(p:D×HP):Res Out2:=(fo sd).bind λo=>match o with
 | .adr a=>match j6 p.2 a with
  |some (.dct ks ds)=>(b sd).bind λk=>match QF k with
   |some q=>if ks.length<sizeLine then .ok (.next sd (Xs p.2 a (.dct (V4 ks q) (Wo ks ds q p.1)))) else .no
   |none=>.no
  |_=>.no
 |_=>.no
def AN (fo a:FE)(b:qy):qP:=λsd hp=>(b sd hp).bind (HF fo a sd)
def Th (x:X.A.units+1<cLine)(y:QE X E o fo)(z:QE X E i fi)(A:zM X E e f2)(hs:swapsWith e (some (.Subscript o i pos')) pos.line X.env=pure false:=by rfl):
 wX X E m (.Assign [.Subscript o i pos'] e pos) (AN fo fi f2):=PS.weak (Es x y z A hs) λT Z H C=>by
 obtain⟨B,G,F,sd,hp,t,n⟩:=C;refine⟨B,G,F,sd,hp,t,(ja n).mono (λp I v r J H1 K b L=>⟨r,J,sd,b.rs,(ja I).mono (λd f v2 M H2 h N=>?_) λ_ _ q=>q.ext (b.ext0 b.rs.ext)⟩) λ_ _ q=>q⟩
 split at f
 .rename_i a;obtain rfl:=qa.mp N;have j:=b.go h.ff (b.rs.step h)
  split at f
  .rename_i ks ds s;refine⟨r,M,sd,j.rs,(ja f).mono (λk g w O H3 l P=>?_) λ_ _ q=>q.ext (b.ext0 j.rs.ext)⟩;have u:=j.go l.ff (j.rs.step l)
   split at g
   .rename_i q Q
    split at g
    .have ⟨xs,R,S,U⟩:=u.lies s;obtain⟨ys,Y,y2,y3⟩:=FJ S U (jg.same (h.ff.trans l.ff) _ _ L);exact⟨a,_,rfl,(by rw[WF Q P];exact zp.k R ()),g Z _ O _ ((K.trans h.ff).trans l.ff) (u.chg s ⟨ys,by rw[JM,Y],y2,y3⟩)⟩
    .exact g.elim
   .exact g.elim
  .exact f.elim
 .exact f.elim
end
def wl (K:W.Frag)(E:XK)(e:FA)(d0:D):TA:=λZ H Q=>∃B F sd,RS K B F H sd Z /\ (e sd).need (λds=>∀c l a b,Ext F H a b->jd K a ds c->H l=none->a l=none->yE K a b l d0->Q (c++[.ref l]) b) (XW K E F H)
open Classical in
def zK (g:Addr->Res D):Res D:=if h:∃r,∀a,g a=r then Classical.choose h else .no
def Ti (h:∀a,g a=r):zK g=r:=by
 have b:∃r,∀a,g a=r:=⟨r,h⟩;unfold zK;rw[dif_pos b];exact(Classical.choose_spec b 0).symm.trans (h 0)
def Tj (h:(zK g).need p q)(a):(g a).need p q:=by
 unfold zK at h
 split at h
 .grind
 .exact h.elim
def Dm (a:YH->HP->Res (D×HP))(d0:D)(b:FA):FE:=λsd=>(b sd).bind λds=>zK λl=>(a (ds++[.adr l]) [(l,d0)]).bind λp=>.ok p.1
section
variable {X:Cx}{E:XK}{e:Expr}{es:Ym}{fe:FE}{fr:FA}{d0:D}{pos p:Pos}{name:Str}{k:Nat}{ps:Yk}
def Tk (h:QN X E e (dC d0))(hs:starEach [e] X.env=(false,eval e X.env)::starEach [] X.env:=by rfl):PA X [e] (wl X.K E jc d0):=PA.weak (Wf h W0 hs) λZ H Q ⟨B,F,sd,r,n⟩=>⟨B,F,sd,r,λl a b e c f g=>(n) [] l a b e rfl c f g⟩
def Dn (c:QE X E e fe)(f:PA X es (wl X.K E fr d0))(hs:starEach (e::es) X.env=(false,eval e X.env)::starEach es X.env:=by rfl):PA X (e::es) (wl X.K E (J0 fe fr) d0):=PA.weak (Wf c f hs) λZ H Q ⟨B,F,sd,r,n⟩=>⟨B,F,sd,r,(ja n).mono (λx g v h z a i=>⟨B,h,sd,r.step a,(ja g).mono (λA j m l o s b t u w y=>(j (v::m) l o s (a.trans b) (.mk (jg.same b.ff _ _ i) t) (Qj a.hh u) w y)) λ_ _ q=>q.ext a⟩) λ_ _ q=>q⟩
def u3 (c:yk X.prog X.w X.K X.mg X.base name k ps (Ks X.K Fn))(T:Thrown X E)(s:Room k X.A)(t:Gl X name)(u:PA X (e::es) (wl X.K E fr d0))
 (f:(name == ("__debug__" : Str))=false:=by decide) (x:starEach (e::es) X.env=(false,eval e X.env)::starEach es X.env:=by rfl) (g:(backTo pos (starEach es X.env)).any (·.1)=false:=by rfl):
 QE X E (.Call (.Name name p) (e::es) [] pos) (Dm Fn d0 fr):=PE.weak (YM c T s t u f x g) λZ H Q A=>by
 obtain⟨B,F,sd,r,n⟩:=A;refine⟨B,F,sd,r,(ja n).mono (λds C G l h j b I O P R=>?_) λ_ _ q=>q⟩;show Ks X.K Fn ((G++[.ref l])++[]) j Q E;rw[ZA];have at_:∀{a:Addr},a≠l->j6 [(l,d0)] a=none:=λz=>by rw[WM,Ze z];rfl
 have ne:∀a o,H a=some o->a≠l:=by grind
 have J:wE X.K h j [(l,d0)]:=λa d q=>by
  simp_all [WM]
 refine⟨h,ds++[.adr l],[(l,d0)],b.fh,I.snoc (qa.mpr rfl),J,(ja (Tj C l)).mono (λp K v L M w i=>?_) λc fs q=>?_⟩
 .refine K v L M ⟨b.ff.trans w.ff,w.fh,λa o q=>w.hh a o (at_ (ne a o q)) (b.hh a o q),λa N m=>(w.new a (b.new a N m) λz=>?_)⟩ i;cases y:H a with
  |none=>exact m y
  |some o=>rw[b.hh a o y] at z;cases z
 .refine q.ext ⟨b.ff,λa o y=>?_,λa o y=>?_,b.new⟩
  .have na:a≠l:=by grind
   rw[WN (at_ na)];exact b.fh a o y
  .rw[WN (at_ (ne a o y))];exact b.hh a o y
end
def Tl {P:Program}{w:World}{K:W.Frag}{mg:Ye}{a:Heap}{f:Addr}{fd:FuncData}{ps:Yk}{k:Nat}:FnOk P w K mg a (xz P w) k f fd ps (Ks K λ_ _=>.no):=⟨λ_ _ _ _ ⟨_,_,_,_,_,_,n⟩=>n.elim,λ_ _ _ _ _ _ _ _ _ _ _ _ _ ⟨_,_,_,_,_,_,n⟩=>n.elim⟩
structure Ev where
 P:Program
 w:World
 K:W.Frag
 mg:Ye
 base:Heap
 C:Nat->Addr
 t:Nat->Tok
abbrev Ca (e:Ev):=zV e.P e.w e.K e.mg e.base
abbrev yR (e:Ev):=yk e.P e.w e.K e.mg e.base
def v4 (K:W.Frag)(T:Nat->Stmt):List (Str×Nat)->Prop
 | []=>True
 |p::r=>wM K p.1 (T p.2)/\v4 K T r
def Nn (K:W.Frag):Yk->Prop
 | []=>True
 |x::r=>W.nsIn K mainGlobals x=some none/\Nn K r
def dfs_cons {K:W.Frag}{T:Nat->Stmt}{x:Str}{i:Nat}{r:List (Str×Nat)}(h:wM K x (T i))(q:v4 K T r):v4 K T ((x,i)::r):=⟨h,q⟩
def nn_cons {K:W.Frag}{x:Str}{r:Yk}(h:W.nsIn K mainGlobals x=some none)(q:Nn K r):Nn K (x::r):=⟨h,q⟩
theorem Dp {K:W.Frag}{T:Nat->Stmt}:∀{l:List (Str×Nat)} {j:Nat} {p:Str×Nat},v4 K T l->l[j]? = some p->wM K p.1 (T p.2)
 | [],j,p,_,h=>by simp at h
 |q::r,0,p,d,h=>by
  obtain rfl:=by simpa using h
  exact d.1
 |q::r,j+1,p,d,h=>Dp d.2 (by simpa using h)
theorem HG {K:W.Frag}{h:Heap}{mg:Ye}(X:K.In h)(G:h.Ns mainGlobals mg):∀{l:Yk},Nn K l->∀x∈l,mg x=none
 | [],_,x,q=>by simp at q
 |y::r,d,x,q=>by
  rcases U0.mp q with z|z
  .rw[z];exact W.mg_none_of X G d.1
  .exact HG X G d.2 x z
abbrev rS (mg:Ye)(bl:Yk):Prop:=∀x∈bl,mg x=none
def JA {mg:Ye}{bl:Yk}{x:Str}(m:rS mg bl)(h:x∈bl:=by decide):mg x=none:=m x h
structure Al (e:Ev)(T:Nat->Stmt)(tbl:List (Str×Nat))(bl:Yk):Prop where
 h:∃h,e.K.In h/\h.Ns mainGlobals e.mg
 d:v4 e.K T tbl
 m:rS e.mg bl
section
variable {e:Ev}{T:Nat->Stmt}{tbl:List (Str×Nat)}{bl:Yk}{x:Str}{k:Nat}{ps:Yk}{sp:Sp}
abbrev HH (x:Str)(st:Stmt)(ps:Yk):Prop:=∀(kV doc pm:Value) (an:Option Addr) (cdv ct:Value) (us:Yf),us.length=ps.length->bindArgs (W.fnOf x x (W3 st) (QV st) (JZ st) .none kV doc pm an cdv ct) ⟨us,[]⟩=pure (ps.zip us)
def qU (a:Al e T tbl bl)(j i:Nat)(ok:∀{f:Addr} {fd:FuncData},Fun e.K x x (T i) f fd->FnOk e.P e.w e.K e.mg e.base yr k f fd ps sp)(h:tbl[j]? = some (x,i):=by rfl)
 (b:HH x (T i) ps:=by intro _ _ _ _ _ _;first|exact bH λ_ _=>rfl|exact nW λ_ _ _=>rfl|exact nX λ_=>rfl|exact bG λ_ _ _ _=>rfl|exact dh λ_ _ _ _ _=>rfl|exact c λ_ _ _ _ _ _=>rfl):Ca e x k ps sp:=by
 obtain⟨_,X,G⟩:=a.h;exact(Dp a.d h).callee X G ok b
def xR (a:Al e T tbl bl)(j i:Nat)(ok:∀{f:Addr} {fd:FuncData},Fun e.K x x (T i) f fd->FnOk e.P e.w e.K e.mg e.base (xz e.P e.w) k f fd ps sp)(h:tbl[j]? = some (x,i):=by rfl)
 (b:autoParam (HH x (T i) ps) qU._auto_2):yR e x k ps sp:=by
 obtain⟨_,X,G⟩:=a.h;exact(Dp a.d h).calleeX X G ok b
end
def j5 {X:Cx}(h:X.N.Nodup:=by dsimp only[JK,qc,Cx.nox];decide +kernel):X.N.Nodup:=h
def qv {X:Cx}{E:XK}(i:Nat){x:Str}{a:Pos}(c:X.N[i]? = some x:=by rfl)(e:autoParam (b4 X.env.scope x) pv._auto_2)(f:(x == ("__debug__" : Str))=false:=by decide)(b:(x == ("__classdict__" : Str))=false:=by decide):QE X E (.Name x a) (jb i):=uz (pv i c e f b)
section
variable {K:W.Frag}{B B':Bs}{F H F' H':Hp}{sd:SD}{hp hp':HP}{Z: St}
def Wv:Nat->D->Bool
 |n+1,.tup ds=>ds.all (Wv n)
 |_,d=>KB d
theorem x5 {g:D->Bool}(h:∀d v,g d=true->jg K F d v->jg K F' d v):∀{ds:YH} {a:YF},ds.all g=true->jd K F ds a->jd K F' ds a
 | [],_,_,i=>i
 |d::ds,a,s,i=>by
  obtain⟨x,r,b,c,e⟩:=jo.mp i;rw[UD,Uc] at s;exact jo.mpr ⟨x,r,b,h d x s.1 c,x5 h s.2 e⟩
theorem yC (c:∀a b,F a=some (.tup b)->F' a=some (.tup b)):∀(n:Nat) (d:D) (v:V),Wv n d=true->jg K F d v->jg K F' d v
 | 0,d,v,s,h=>h.scal (by cases d<;>exact s)
 |n+1,d,v,s,h=>by
  cases d with
  |tup ds =>
   obtain⟨a,b,e,f,g⟩:=j1.mp h;exact j1.mpr ⟨a,b,e,.of (c a b f),x5 (yC c n) s g⟩
  |_=>exact h.scal s
end
@[simp]def HJ (n:Nat)(i:Str):Wv n (.str i)=true:=by cases n<;>rfl
def AO (is:Yj)(f:FE):FE:=λsd=>(f (jS is sd)).bare.bind λd=>if Wv 8 d then .ok d else .no
@[simp]def hU (is:Yj)(f:FE)(sd:SD):AO is f sd=(f (jS is sd)).bare.bind λd=>if Wv 8 d then .ok d else .no:=rfl
section
variable {X:Cx}
def Tn {e:Expr}{i:FE}(is:Yj)(h:QE X E0 e i):QE X E0 e (AO is i):=PE.weak h λZ H Q l=>by
 obtain⟨B,F,sd,r,n⟩:=l;obtain⟨j,m,p,s⟩:=r.frzC is;refine⟨B,j,_,s,(qV r.ext.fh (ja n)).mono (λd f v t w g x=>?_) λc fs q=>q⟩
 split at f
 .rename_i hs;refine f v (Xr F H t) w (S7 r.ext.fh m g) (yC (λa y b=>?_) 8 d v hs x);unfold Xr;cases h:H a with
  |none=>rw[b]
  |some o =>
   show F a=some (.tup y);cases q:j a with
   |none=>rw[g.new a q (by rw[h];simp)] at b;exact J6 b
   |some u =>
    have:=g.ff _ _ q;rw[b] at this;obtain rfl:=Zqi this;exact p _ _ q
 .exact f.elim
end
end L2.DL
set_option maxHeartbeats 4000000
namespace My
open PySem L2 L2.DL
@[simp high] def ph {α: Type}(b a:α)(l):(b::a::l)[1]? = some a:=rfl
@[simp high] def cV {α: Type}(a b v:α)(l):(a::b::l).set 1 v=a::v::l:=rfl
@[simp high] def pf {α: Type}(b c a:α)(l):(b::c::a::l)[2]? = some a:=rfl
@[simp high] def cU {α: Type}(a b c v:α)(l):(a::b::c::l).set 2 v=a::b::v::l:=rfl
@[simp high] def pe {α: Type}(b c e a:α)(l):(b::c::e::a::l)[3]? = some a:=rfl
@[simp high] def cS {α: Type}(a b c e v:α)(l):(a::b::c::e::l).set 3 v=a::b::c::v::l:=rfl
@[simp high] def pc {α: Type}(b c e f a:α)(l):(b::c::e::f::a::l)[4]? = some a:=rfl
@[simp high] def cR {α: Type}(a b c e f v:α)(l):(a::b::c::e::f::l).set 4 v=a::b::c::e::v::l:=rfl
@[simp high] def pb {α: Type}(b c e f g a:α)(l):(b::c::e::f::g::a::l)[5]? = some a:=rfl
@[simp high] def cQ {α: Type}(a b c e f g v:α)(l):(a::b::c::e::f::g::l).set 5 v=a::b::c::e::f::v::l:=rfl
@[simp high] def cZ {α: Type}(b c e f g h a:α)(l):(b::c::e::f::g::h::a::l)[6]? = some a:=rfl
@[simp high] def cP {α: Type}(a b c e f g h v:α)(l):(a::b::c::e::f::g::h::l).set 6 v=a::b::c::e::f::g::v::l:=rfl
@[simp high] def cY {α: Type}(b c e f g h i a:α)(l):(b::c::e::f::g::h::i::a::l)[7]? = some a:=rfl
@[simp high] def cO {α: Type}(a b c e f g h i v:α)(l):(a::b::c::e::f::g::h::i::l).set 7 v=a::b::c::e::f::g::h::v::l:=rfl
@[simp high] def cX {α: Type}(b c e f g h i j a:α)(l):(b::c::e::f::g::h::i::j::a::l)[8]? = some a:=rfl
@[simp high] def cN {α: Type}(a b c e f g h i j v:α)(l):(a::b::c::e::f::g::h::i::j::l).set 8 v=a::b::c::e::f::g::h::i::v::l:=rfl
@[simp high] def cW {α: Type}(b c e f g h i j m a:α)(l):(b::c::e::f::g::h::i::j::m::a::l)[9]? = some a:=rfl
@[simp high] def cM {α: Type}(a b c e f g h i j m v:α)(l):(a::b::c::e::f::g::h::i::j::m::l).set 9 v=a::b::c::e::f::g::h::i::j::v::l:=rfl
@[simp high] def d9 {α: Type}(b c e f g h i j m n a:α)(l):(b::c::e::f::g::h::i::j::m::n::a::l)[10]? = some a:=rfl
@[simp high] def dr {α: Type}(b c e f g h i j m n a v:α)(l):(b::c::e::f::g::h::i::j::m::n::a::l).set 10 v=b::c::e::f::g::h::i::j::m::n::v::l:=rfl
@[simp high] def d8 {α: Type}(c e f g h i j m n o b a:α)(l):(c::e::f::g::h::i::j::m::n::o::b::a::l)[11]? = some a:=rfl
@[simp high] def dq {α: Type}(c e f g h i j m n o a b v:α)(l):(c::e::f::g::h::i::j::m::n::o::a::b::l).set 11 v=c::e::f::g::h::i::j::m::n::o::a::v::l:=rfl
def jA (hs:Yh)(t:Int):Int:=hs.getD t.toNat 0
def Qd (r:Jy)(hs:Yh):Int:=q0 (r.map λp=>jA hs p.1+p.2)
theorem KU {α: Type}{l:List α}{k:Nat}(h:k<l.length):jX l (k:Int)=l[k]?:= by
 simp_all [jX,xJ]
def AQ {hs:Yh}{t:Int}(a:0<=t)(b:t<(hs.length:Int)):jX (hs.map D.int) t=some (.int (jA hs t)):=by
 simp_all [xJ,jX,jA]
def QK {α: Type}{f:α -> D}{l:List α}{i:Nat}{x:D}(h:(l.map f)[i]? = some x):∃p,l[i]? = some p/\x=f p:=()
structure RowOk (n:Int)(r:Jy):Prop where
 ne:r ≠ []
 once:j8 r
 mem:∀p∈r,0<=p.1/\p.1<n
 len:r.length<=12
def Tp {a:Jz}(h:∀r∈a,r ≠ [])(b:a.length<1000):Xn [.lst (a.map jz)]=some (.lst ((JV j9 a).map jz)):=by
 show(Q9 K0 (a.map jz)).bind _=_
 simp_all [Co]
def jj (f:Jz):D:=.lst (f.map jz)
def qg (all:Jz)(row:Jy):Bool:=(all.filter λone => !decide (one=row)&&JH one row).isEmpty
def Xv (all a:Jz)(row:Jy):Jz:=if qg all row=true/\row∉a then a++[row] else a
def HK (all rs:Jz):Jz:=rs.foldl (Xv all) []
def JY (rs:Jz):Jz:=JV j9 (HK rs rs)
theorem AR (all:Jz):∀(rs a:Jz),(rs.foldl (Xv all) a).length<=a.length+rs.length/\(∀r,r∈rs.foldl (Xv all) a↔r∈a\/(r∈rs/\qg all r=true))/\(a.Nodup->(rs.foldl (Xv all) a).Nodup)
 | [],a=>by simp
 |row::rs,a=>by
  have ⟨b,c,e⟩:=AR all rs (Xv all a row);unfold Xv at b c e ⊢
  grind
theorem x8 {rs:Jz}{r:Jy}:r∈JY rs↔r∈rs/\qg rs r=true:=by
 grind[JY,HK,Q4,AR]
def J9 (f:Jz)(hs:Yh):Int:=qX (f.map λr=>Qd r hs)
@[simp]def kI (f):Qr [jj f]=some (jj f):=rfl
@[simp]def vC (f):K2 (jj f)=some (f.map jz):=rfl
@[simp]def vA (r):K2 (jz r)=some (r.map qm):=rfl
@[simp]def fU (f):jO [jj f]=some (.int f.length):=by show some (D.int (f.map jz).length)=_;rw[Zql]
@[simp]def c9 (f):jQ [jj f,.ty "list"]=some (.bl true):=rfl
@[simp]def cE (f):jQ [jz f,.ty "tuple"]=some (.bl true):=rfl
@[simp]def cD (p):jQ [qm p,.ty "tuple"]=some (.bl true):=rfl
@[simp]def fT (p):jO [qm p]=some (.int 2):=rfl
@[simp]def fX (p):jt (qm p) (.int 0)=some (.int p.1):=rfl
@[simp]def fW (p):jt (qm p) (.int 1)=some (.int p.2):=rfl
structure FormOk (n:Int)(f:Jz):Prop where
 ne:f ≠ []
 rows:∀r∈f,RowOk n r
 len:f.length<=100
def Tq {l:Yh}(h:l ≠ [])(w:Int):qX (l.map (· + w))=qX l+w:=by
 obtain⟨a,b⟩:=ZT h;refine(BK () λy c=>?_).symm
 grind
def Tr {l:Yh}(h:l ≠ [])(w:Int):q0 (l.map (· + w))=q0 l+w:=by
 obtain⟨a,b⟩:=W5 h;refine(E6 () λy c=>?_).symm
 grind
def qF (r:Jy):Prop:=(r.map (·.1)).Pairwise (· < ·)
def HM {r:Jy}(h:qF r):r.Pairwise λx y=>jV x y=true:=by
 unfold qF at h;rw[U4] at h;refine h.imp λ{a b} z=>?_
 simp_all [jV]
def yJ {r o:Jy}:JH r o=true↔∀p∈r,∃w,JC o p.1=some w/\p.2<=w:=by
 grind[JH,xP,List.all_eq_true]
theorem Kt {a b c:Jy}(e:JH a b=true)(f:JH b c=true):JH a c=true:=by
 rw[yJ] at *;intro p hp;obtain⟨w,g,h⟩:=e p hp;obtain⟨v,i,j⟩:=f _ (Qi g);exact⟨v,i,Int.le_trans h j⟩
def HN {a b:Jy}(c:j8 a)(e:JH a b=true)(f:JH b a=true):∀p∈a,p∈b:=by
 rw[yJ] at *;intro p hp;obtain⟨w,g,j⟩:=e p hp;have h:=Qi g;obtain⟨v,i,l⟩:=f _ h;rw[c.look hp] at i
 grind
theorem HQ {a b:Jy}(f:j8 a)(g:j8 b)(h:qF a)(i:qF b)(c:JH a b=true)(e:JH b a=true):a=b:=
 W9 wb (HM h) (HM i) λp=>⟨HN f c e p,HN g e c p⟩
theorem Dq:∀{rs:Jz},rs ≠ []->(∀r∈rs,j8 r/\qF r)->∃m∈rs,∀o∈rs,JH o m=true->o=m
 | [],h,_=>Zn rfl h
 |x::rs,_,ok=>by
  by_cases q:rs=[]
  .simp_all
  .have ⟨m,a,b⟩:=Dq q ()
   grind[Zqm,Zqs,Kt,HQ]
def wc {rs:Jz}{m:Jy}:qg rs m=true↔∀o∈rs,JH o m=true->o=m:=by
 grind[qg,List.isEmpty_iff,List.filter_eq_nil_iff]
structure Good (n:Int)(f:Jz):Prop where
 ne:f ≠ []
 rows:∀r∈f,RowOk n r
 rise:∀r∈f,qF r
 len:f.length<=40
 anti:∀r∈f,∀s∈f,JH r s=true->r=s
 srt:f.Pairwise λa b=>j9 a b=true
def Ts (j n:Nat):min (j:Int) (n:Int)=((min j n:Nat):Int):=by
 lia
def HR {α: Type}(l:List α){k:Int}(a:0<=k):Qs l (some k) none none=l.drop k.toNat:=by
 have e:sliceBounds (some k) none none l.length=(((min k.toNat l.length:Nat):Int),(l.length:Int),1):=by
  obtain⟨j,rfl⟩:=Int.eq_ofNat_of_zero_le a;unfold sliceBounds;simp only;rw[Ze (Int.not_lt.mpr a),Ts];exact rfl
 unfold Qs;rw[e,sliceRange_one];have ep:(λx:Nat=>l[x]?)=λx:Nat=>l.toArray[x]?:= by simp
 rw[ep,(pick_run l.toArray (min k.toNat l.length) (l.length-min k.toNat l.length))];by_cases c:k.toNat<=l.length
 .rw[Vi c,UV ()]
 .rw[Nat.min_eq_right (),Vg (Zf _),Vg ()];exact List.take_nil
def HS {α: Type}{f:α -> Bool}{l:List α}{i:Nat}{p:α}(h:∀q∈l.take i,f q=false)(hp:l[i]? = some p)(a:f p=true):l.find? f=some p:=by
 grind[List.take_append_drop,List.drop_eq_getElem_cons]
structure ThingsOk (ts:Yh):Prop where
 ne:ts ≠ []
 len:ts.length<=4
 rng:∀t∈ts,0<=t/\t<12
 up:ts.Pairwise (· < ·)
def AS {r:Jy}(h:qF r):j8 r:=by
 grind[qF,j8,List.Nodup]
def Dr {r:Jy}(h:j8 r){p q:Int×Int}(hp:p∈r)(b:q∈r)(e:p.1=q.1):p=q:=by
 induction r with
 |nil=>cases hp
 |cons a r c =>
  grind[j8,List.map_cons,List.nodup_cons]
def HU {r:Jy}{hs:Yh}{p:Int×Int}(hp:p∈r):jA hs p.1+p.2<=Qd r hs:=
 (W5 (λz=>())).2 _ ()
def Tt {r:Jy}{hs:Yh}(a:r ≠ []):∃p∈r,Qd r hs=jA hs p.1+p.2:=have ⟨p,hp,e⟩:=Ja.mp (W5 (λz=>a (Je.mp z))).1;⟨p,hp,e.symm⟩
def YR {r:Jy}{hs:Yh}{x:Int}(a:r ≠ []):Qd r hs<=x↔∀p∈r,jA hs p.1+p.2<=x:=by
 constructor
 .intro h p hp;exact Int.le_trans (HU hp) h
 .intro h;obtain⟨p,hp,e⟩:=Tt a;rw[e];exact h p hp
def KW {f:Jz}{hs:Yh}{r:Jy}(a:r∈f):J9 f hs<=Qd r hs:=
 (ZT (λz=>())).2 _ ()
def V8 {f:Jz}{hs:Yh}(a:f ≠ []):∃r∈f,J9 f hs=Qd r hs:=have ⟨p,hp,e⟩:=Ja.mp (ZT (λz=>a (Je.mp z))).1;⟨p,hp,e.symm⟩
structure Over (f:Jz)(hs:Yh):Prop where
 ne:f ≠ []
 rne:∀r∈f,r ≠ []
 once:∀r∈f,j8 r
 bnd:∀r∈f,∀p∈r,0<=p.1/\p.1<(hs.length:Int)
structure RoundOk (n:Int)(fs:List Jz):Prop where
 len:(fs.length:Int)=n
 low:1<=n
 most:n<=12
 forms:∀f∈fs,FormOk n f
def w6 {n:Int}{fs:List Jz}(R:RoundOk n fs){hs:Yh}(h:hs.length=fs.length):∀f∈fs,Over f hs:=λf b=>⟨(R.forms f b).ne,λr a=>((R.forms f b).rows r a).ne,λr a=>((R.forms f b).rows r a).once,λr a p hp=>by
 have:=((R.forms f b).rows r a).mem p hp;have:=R.len;lia⟩
def dt (fs:List Jz):D:=.lst (fs.map jj)
@[simp]def vB (fs):K2 (dt fs)=some (fs.map jj):=rfl
open L2.ST
theorem Ds:∀{ys a:Yh},a.Pairwise (· < ·)->ys.Pairwise (· < ·)->(∀x∈a,x∈ys)->a.length<=ys.length/\(a.length=ys.length->a=ys)
 | [],a,_,_,h=>by
  cases a with
  |nil=>simp
  |cons x a=>cases h x Zqs
 |y::ys,[],_,_,_=>by simp
 |y::ys,x::a,hx,hy,h=>by
  rw[List.pairwise_cons] at hx hy;rcases U0.mp (h x Zqs) with q|q
  .have ⟨b,c⟩:=Ds hx.2 hy.2 λz hz=>by
    grind
   simp_all
  .obtain⟨b,_⟩:=Ds (Jh.mpr hx) hy.2 λz hz=>by
    grind
   grind
theorem HV:∀{a b:Jy},a.map (·.1)=b.map (·.1)->(∀(i:Nat) p q,a[i]? = some p->b[i]? = some q->p.2<=q.2)->a≠b->j9 a b=true
 | [],[],_,_,h=>Zn rfl h
 | [],_::_,e,_,_=>by simp at e
 |_::_,[],e,_,_=>by simp at e
 |p::a,q::b,e,hw,hn=>by
  have f:=hw 0 p q rfl rfl;rw[Ux];by_cases z:p=q
  .rw[Zd z];refine HV ((List.cons.inj e).2) (λi p q hp c=>hw (i+1) p q hp c) ()
  grind[W6]
def Tu {a b:Jy}(j:qF a)(e:qF b)(h:JH a b=true)(l:a≠b):za a b=true:=by
 have u:=yJ.mp h;obtain⟨f,g⟩:=Ds j e λx m=>by
  obtain⟨p,hp,rfl⟩:=Ja.mp m;obtain⟨w,c,_⟩:=u p hp;exact Ja.mpr ⟨(p.1,w),Qi c,rfl⟩
 rw[Zql,Zql] at f g;rw[Xp];rcases Nat.lt_or_eq_of_le f with q|q
 .exact .inl q
 .refine .inr ⟨q,HV (g q) (λi p r hp n=>?_) l⟩;obtain⟨w,c,o⟩:=u p ();have s:p.1=r.1:=by
   have t:(a.map (·.1))[i]? = some p.1:=by grind
   simp_all
  have:=Dr (AS e) (Uf n) (Qi c) s.symm
  rwa [this]
def YS {α: Type}{ltb:α -> α -> Bool}(T:Tot ltb){l:List α}(e:l.Nodup):(JV ltb l).Pairwise λa b=>ltb a b=true:=by
 have c:(JV ltb l).Nodup:=(Q4 l).nodup_iff.mpr e;refine List.Pairwise.imp ?_ ((W7 T l).and c);rintro a b ⟨f,g⟩;cases q:ltb a b with
 |true=>rfl
 |false=>exact Zn (T.tot _ _ q f) g
def qR (rs:Jz):Jz:=JV za (JV j9 (qL rs))
theorem fH {rs:Jz}{r:Jy}:r∈qR rs↔r∈rs:=by
 grind[qR,bC,Q4]
def HW (rs:Jz):(qR rs).Pairwise λa b=>za a b=true:=YS vv ((Q4 _).nodup_iff.mpr (Hf rs))
def HX (rs:Jz):(qR rs).length<=rs.length:=by
 unfold qR;rw[(Q4 _).length_eq,(Q4 _).length_eq];exact Hg rs
def yZ (kept:Jz)(r:Jy):Jz:=if kept.any (λo=>JH o r)=true then kept else kept++[r]
def x9 (rs:Jz):Jz:=(qR rs).filter (qg rs)
theorem HY {rs:Jz}(n:∀r∈rs,qF r):∀i,i<=(qR rs).length->((qR rs).take i).foldl yZ []=((qR rs).take i).filter (qg rs)
 | 0,_=>by simp
 |i+1,hi=>by
  have E:=HY n i ();have st:=HW rs;have p:∀r,r∈qR rs↔r∈rs:=λr=>fH;generalize qR rs=L at hi E st p;have a:i<L.length:=()
  rw[Wg (Zqg a),Vp,List.filter_append,E];have s:∀o∈L.take i,za o L[i]=true:=λo c=>by
   obtain⟨j,t,rfl⟩:=UG c;rw[Uv] at t;rw[List.getElem_take];exact Ji.mp st j i () a ()
  have u:=(p L[i]).mp (Uu a);show yZ ((L.take i).filter (qg rs)) L[i]=_;unfold yZ;cases q:qg rs L[i] with
  |true =>
   have low:=wc.mp q;rw[Ze,List.filter_cons_of_pos q,List.filter_nil];intro z;have ⟨o,c,v⟩:=VM.mp z;have c:=(Jf.mp c).1;have b:=s o c;rw[(low o ((p o).mp (List.mem_of_mem_take c)) v)] at b;have:=vv.asy _ _ b
   simp_all
  |false =>
   have H:¬ ∀o∈rs,JH o L[i]=true->o=L[i]:=λz=>by rw[wc.mpr z] at q;cases q
   obtain⟨o,c,v,hne⟩:∃o∈rs,JH o L[i]=true/\o≠L[i]:=by
    exact by grind
   obtain⟨f,y,A⟩:=Dq (λz=>by
    have:o∈rs.filter λo=>JH o L[i]:=Jf.mpr ⟨c,v⟩;rw[z] at this;cases this) λr h=>⟨AS (n r (Jf.mp h).1),()⟩
   obtain⟨F,B⟩:=Jf.mp y;have g:=wc.mpr λx G l=>A x (Jf.mpr ⟨G,Kt l B⟩) l;have m:f≠L[i]:=by grind
   have e:f∈L.take i:=by
    obtain⟨j,t,C⟩:=UG ((p f).mpr F);rcases Vc j i with w|w|w
    .rw[<- C,List.mem_take_iff_getElem];exact by grind
    .subst w;exact Zn C.symm m
    .have b:=Ji.mp st i j a t w;rw[C] at b;have:=vv.asy _ _ b;rw[(Tu (n f F) (n _ u) B m)] at this;cases this
   rw[Zd (VM.mpr ⟨f,Jf.mpr ⟨e,g⟩,B⟩),List.filter_cons_of_neg (by rw[q];simp),List.filter_nil,ZA]
def HZ (rs:Jz):JV j9 (x9 rs)=JY rs:=by
 have c:(x9 rs).Nodup:=by
  have:(qR rs).Nodup:=by
   refine(HW rs).imp λ{a b} h e=>?_;have:=vv.asy _ _ h
   simp_all
  exact List.Pairwise.sublist (List.filter_sublist) this
 refine W9 xM (YS xM c) (YS xM ((AR rs rs []).2.2 VB)) λr=>?_
 grind[x9,x8,fH,Q4]
structure PairsOk (ts:Yh)(r:Jy):Prop where
 ne:r ≠ []
 len:r.length<=4
 mem:∀p∈r,p.1∈ts
 up:r.Pairwise λp q=>p.1<q.1
def Tv {r:Jy}(h:r.Pairwise λp q=>p.1<q.1):j8 r:=by
 grind[j8,List.Nodup,List.pairwise_map]
def PairsOk.row {a:Yh}{r:Jy}(T:ThingsOk a)(P:PairsOk a r):RowOk 12 r:=⟨P.ne,Tv P.up,λp hp=>T.rng _ (P.mem p hp),Zh P.len ()⟩
def Tw {s r:Jy}{hs:Yh}(a:s ≠ [])(e:j8 r)(h:JH s r=true):Qd s hs<=Qd r hs:=by
 rw[YR a];intro p hp;obtain⟨w,b,c⟩:=yJ.mp h p hp;have:=HU (hs:=hs) (Qi b)
 grind
def Xw {rs:Jz}(ok:∀r∈rs,j8 r/\qF r){r:Jy}(e:r∈rs):∃s∈JY rs,JH s r=true:=by
 have i:=yJ.mpr λp hp=>⟨p.2,(ok r e).1.look hp,U5 _⟩;have ne:rs.filter (λo=>JH o r) ≠ []:=λz=>by
  simp_all
 obtain⟨m,f,h⟩:=Dq ne ();obtain⟨b,a⟩:=Jf.mp f;exact⟨m,x8.mpr ⟨b,wc.mpr λo g c=>h o (Jf.mpr ⟨g,Kt c a⟩) c⟩,a⟩
def Tx {rs:Jz}{hs:Yh}(j:rs ≠ [])(ok:∀r∈rs,r ≠ []/\j8 r/\qF r):J9 (JY rs) hs=J9 rs hs:=by
 obtain⟨r,i,e⟩:=V8 (hs:=hs) j;obtain⟨s,f,l⟩:=Xw (λr h=>(ok r h).2) i;have a:=KW (hs:=hs) f;have b:=Tw (hs:=hs) (ok s (x8.mp f).1).1 (ok r i).2.1 l;have ne:JY rs ≠ []:=by grind
 obtain⟨m,g,n⟩:=V8 (hs:=hs) ne;have c:=KW (hs:=hs) (x8.mp g).1;lia
def Tz {f g:Jz}(h:f.length+g.length<=1000):js (jj f) (jj g)=some (jj (f++g)):=by
 show(if(f.map jz).length+(g.map jz).length<=sizeLine then _ else _)=_;rw[Zql,Zql,Zd (QY h)];unfold jj;simp
def Ww (rs):(JY rs).Pairwise λa b=>j9 a b=true:=YS xM ((AR rs rs []).2.2 VB)
structure JRow (r:Jy):Prop where
 ne:r ≠ []
 rise:qF r
 bnd:∀p∈r,0<=p.1/\p.1<12
def JRow.once {r:Jy}(h:JRow r):j8 r:=AS h.rise
def JRow.len {r:Jy}(h:JRow r):r.length<=12:=by
 have b:∀(l:Yh) (a:Int),l.Pairwise (· < ·)->(∀x∈l,a<=x/\x<12)->(l.length:Int)<=max 0 (12-a):=by
  intro l
  induction l with
  |nil=>simp;lia
  |cons x l c =>
   intro a hp e;rw[List.pairwise_cons] at hp;have g:=e x Zqs;have:=c (x+1) hp.2 ()
   grind
 have:=b _ 0 h.rise λx f=>by
  obtain⟨p,hp,rfl⟩:=Ja.mp f;exact h.bnd p hp
 grind
def asc (x:Str):Prop:=x.cps.all (· < 128)=true
def vw {x:Str}:asc x↔∀c∈x.cps.toList,c<128:=by
 unfold asc;rw[<- Array.all_toList,Ve];simp
def T1 (a b:Str):(a++b).length=a.length+b.length:=Array.size_append
def YT (a b:Str):(a++b).cps.toList=a.cps.toList++b.cps.toList:=Array.toList_append
def T2 {a b:Str}(f:asc a)(g:asc b):asc (a++b):=vw.mpr λc e=>by
 rw[YT] at e;rcases Jb.mp e with h|h
 .exact vw.mp f c h
 .exact vw.mp g c h
structure TxtOk (n:Nat)(x:Str):Prop where
 len:x.length<=n
 asc:asc x
def TxtOk.app {m n:Nat}{a b:Str}(c:TxtOk m a)(e:TxtOk n b):TxtOk (m+n) (a++b):=⟨by rw[T1];have:=c.len;have:=e.len;lia,T2 c.asc e.asc⟩
def TxtOk.mono {m n:Nat}{a:Str}(b:TxtOk m a)(h:m<=n):TxtOk n a:=⟨Zh b.len h,b.asc⟩
def T3 {c:Nat}(h:c<128):TxtOk 1 ⟨#[c]⟩:=⟨Zf _,vw.mpr λd a=>()⟩
def Ia {n:Nat}{x:Str}(h:(decide (x.length<=n)&&x.cps.all (· < 128))=true):TxtOk n x:=by
 rw[Uc] at h;exact⟨of_decide_eq_true h.1,h.2⟩
def AT {m n:Nat}{a b:Str}(c:TxtOk m a)(e:TxtOk n b)(h:m+n<=1000):js (.str a) (.str b)=some (.str (a++b)):=Zd (QY (by have:=c.len;have:=e.len;lia))
def T4 {n:Nat}{a:Str}{k:Int}(b:TxtOk n a)(h:n<=1000)(k0:0<=k)(k1:k<(a.length:Int)):∃c,jt (.str a) (.int k)=some (.str ⟨#[c]⟩)/\a.cps.toList[k.toNat]? = some c/\c<128:=by
 have f:k.toNat<a.cps.toList.length:=by
  rw[Ui];have:a.length=a.cps.size:=rfl;lia
 refine⟨a.cps.toList[k.toNat],?_,(),vw.mp b.asc _ (Uu f)⟩;show(if a.length<=sizeLine then(jX a.cps.toList k).map λc=>D.str ⟨#[c]⟩ else none)=_;rw[Zd (QY (by have:=b.len;lia))];have e:jX a.cps.toList k=some a.cps.toList[k.toNat]:=by
  unfold jX xJ;rw[Zd k0,Zd (by rwa [Ui])];exact()
 rw[e];rfl
def T5:TxtOk 26 "abcdefghijklmnopqrstuvwxyz" := Ia (by decide +kernel)
def T6:(("abcdefghijklmnopqrstuvwxyz" : Str).length:Int)=26:=by rfl
def T7:∀k:Fin 64,(UP (k.val:Int).natAbs.log2 1900=true)/\(decide ((toString (k.val:Int):Str).length<=2)&&(toString (k.val:Int):Str).cps.all (· < 128))=true:=by decide +kernel
def xf (k:Nat):Str:=⟨#[97+k]⟩
def yh (k:Nat):Str:=(toString (k:Int):Str)
def T8:∀k:Fin 26,(("abcdefghijklmnopqrstuvwxyz" : Str).cps.toList)[k.val]? = some (97+k.val):=by decide +kernel
def Ib {k:Int}(k0:0<=k)(k1:k<26):jt (.str "abcdefghijklmnopqrstuvwxyz") (.int k)=some (.str (xf k.toNat)):=by
 obtain⟨c,b,e,_⟩:=T4 T5 () k0 (by rwa [T6]);have a:=T8 ⟨k.toNat,()⟩;rw[e] at a;rw[b,Zqi a];rfl
def T9 {k:Nat}(h:k<64):zc [.int (k:Int)]=some (.str (yh k))/\TxtOk 2 (yh k):=by
 obtain⟨a,b⟩:=T7 ⟨k,h⟩;exact⟨Zd a,Ia b⟩
def Ic {k:Nat}(h:k<26):TxtOk 1 (xf k):=T3 ()
def low (x:Str):Prop:=∀c∈x.cps.toList,97<=c/\c<123
@[simp]def mf (n:Nat)(g:FS)(a b c d e:D):jE n 5 g [a,b,c,d,e]=(g (some (.val a)::some (.val b)::some (.val c)::some (.val d)::some (.val e)::List.replicate (n-5) none)).bind xc:=rfl
structure Pl where
 name:Str
 givens:Yk
 rows:List (Str×Str×Jy)
def jF (r:Str×Str×Jy):D:=.tup [.str r.1,.str r.2.1,jz r.2.2]
def Dt (p:Pl):D:=.tup [.str p.name,.lst (p.givens.map .str),.lst (p.rows.map jF)]
def Qt (p:Pl):D:=.ins "Plan" ["name", "givens", "rows"] [.str p.name,.lst (p.givens.map .str),.lst (p.rows.map jF)]
def JE (ps:List Pl):D:=.ins "Book" ["plans"] [.lst (ps.map Qt)]
def uC (p:Str×Int):D:=.tup [.str p.1,.int p.2]
@[simp]def kM (r):jt (jF r) (.int 0)=some (.str r.1):=rfl
@[simp]def kL (r):jt (jF r) (.int 1)=some (.str r.2.1):=rfl
@[simp]def kK (r):jt (jF r) (.int 2)=some (jz r.2.2):=rfl
@[simp]def cw (p):jt (Dt p) (.int 0)=some (.str p.name):=rfl
@[simp]def cc (p):jt (Dt p) (.int 1)=some (.lst (p.givens.map .str)):=rfl
@[simp]def dJ (p):jt (Dt p) (.int 2)=some (.lst (p.rows.map jF)):=rfl
@[simp]def kO (p):jt (uC p) (.int 0)=some (.str p.1):=rfl
@[simp]def kN (p):jt (uC p) (.int 1)=some (.int p.2):=rfl
@[simp]def cv (ps):qY "Book" "plans" (JE ps)=some (.lst (ps.map Qt)):=rfl
@[simp]def gb (p):qY "Plan" "name" (Qt p)=some (.str p.name):=rfl
@[simp]def cq (p):qY "Plan" "givens" (Qt p)=some (.lst (p.givens.map .str)):=rfl
@[simp]def kZ (p):qY "Plan" "rows" (Qt p)=some (.lst (p.rows.map jF)):=rfl
def Ie {n:Nat}{x:Str}(h:asc x):qK (n+1) (.str x)=true:=by
 show PyData.strOk x=true;unfold PyData.strOk;rw[<- Array.all_toList,Ve];exact λc a=>Zp (Ug (vw.mp h c a) ())
def TB {α: Type}{f:Nat -> α}{n:Nat}(h:((List.range n).map f).Nodup){a b:Nat}(c:a<n)(g:b<n)(e:f a=f b):a=b:=by
 have h:=Ji.mp (U4.mp h)
 grind
def ri (l:Yj):Bool:=l[0]? == some 120||l[0]? == some 121||l[0]? == some 113||l[2]? == some 113
structure WB (ps:List Pl):Prop where
 l1:1<=ps.length
 l2:ps.length<=20
 nd:(ps.map (·.name)).Nodup
 ok:∀p∈ps,TxtOk 12 p.name/\1<=p.name.length/\p.name ≠ "all" /\ p.name ≠ "first"
 how:∀(i:Nat) (p:Pl),ps[i]? = some p->∀r∈p.rows,r.2.1 = "all" \/ r.2.1 = "first" \/ r.2.1∈(ps.take i).map (·.name)
 sz:∀p∈ps,p.rows.length<=40/\p.givens.length<=12
@[simp]def hQ (is)(f)(sd):gQ is f sd=(f (jS is sd)).bare.bind λd=>if Ht d then .ok d else .no:=rfl
@[simp]def ba (c)(names)(Fn)(fa)(sd):YQ c names Fn fa sd=(fa sd).bind λds=>(Fn ds).bind λes=>.ok (.ins c names es):=rfl
@[simp]def TC (i j k)(r)(sd):JR (.tup [i,j,k]) (jF r) sd=.ok (((sd.set i (some (.val (.str r.1)))).set j (some (.val (.str r.2.1)))).set k (some (.val (jz r.2.2)))):=rfl
@[simp]def dY (x):QF (.str x)=some (.inr x):=rfl
def dT (t:List (Str×Int)):D:=.dct (t.map λp=>.inr p.1) (t.map λp=>.int p.2)
def ym (t:List (Str×Int))(x:Str):Option Int:=(t.find? λp=>decide (p.1=x)).map (·.2)
def sQ {a b:Str}:((UN a:j7)=.inr b)↔a=b:=()
theorem Du:∀(t:List (Str×Int)) (x:Str),jH (t.map λp=>.inr p.1) (t.map λp=>.int p.2) (.inr x)=(ym t x).map .int
 | [],_=>rfl
 |p::t,x=>by
  rw[Zl,Zl];unfold jH ym;rw[List.find?_cons];by_cases h:p.1=x
  .simp_all
  .rw[Ze (λz=>h (sQ.mp z)),Zo h];exact Du t x
@[simp]def rE (t)(x):jt (dT t) (.str x)=(ym t x).map .int:=Du t x
@[simp]def rF (neg)(t)(x):wv neg (.str x) (dT t)=some (.bl (if neg then !(ym t x).isSome else(ym t x).isSome)):=by
 show some (D.bl (if neg then !(jH (t.map λp=>.inr p.1) (t.map λp=>.int p.2) (.inr x)).isSome else(jH (t.map λp=>.inr p.1) (t.map λp=>.int p.2) (.inr x)).isSome))=_;rw[Du,Option.isSome_map]
def bA {t:List (Str×Int)}{x:Str}:ym t x=none↔x∉t.map (·.1):=by
 grind[ym,Option.map_eq_none_iff,List.find?_eq_none]
def TF {a b:List (Str×Int)}{x:Str}(h:x∉a.map (·.1)):ym (a++b) x=ym b x:=by
 unfold ym;rw[List.find?_append,Option.map_eq_none_iff.mp (bA.mpr h)];rfl
def ki (x:Str)(v:Int)(b:List (Str×Int)):ym ((x,v)::b) x=some v:=by
 simp_all [ym]
def m9 (how:Str):Bool:=!(decide (how = "all")||decide (how = "first"))
def v8 (t:List (Str×Int))(p:Pl):Int:=p.rows.length+((p.rows.filter λr=>m9 r.2.1).map λr=>(ym t r.2.1).getD 0).sum
def wZ (t:List (Str×Int))(p:Pl):List (Str×Int):=t++[(p.name,v8 t p)]
def yc (ps:List Pl):List (Str×Int):=ps.foldl wZ []
def TH (ps)(p):yc (ps++[p])=yc ps++[(p.name,v8 (yc ps) p)]:=by
 unfold yc;rw[Vp];rfl
theorem Ig:∀(l:List Pl) (t:List (Str×Int)),∃u,l.foldl wZ t=t++u
 | [],t=>⟨[],()⟩
 |p::l,t=>by
  obtain⟨u,e⟩:=Ig l (wZ t p)
  simp_all [wZ]
theorem Ih:∀(l:List Pl) t,(l.foldl wZ t).map (·.1)=t.map (·.1)++l.map (·.name)
 | [],t=>by simp
 |p::l,t=>by
  rw[Vh,Ih l];unfold wZ;simp
theorem Dv (l):(yc l).map (·.1)=l.map (·.name):=by
 grind[yc,Ih]
def WB.fresh {ps:List Pl}(W:WB ps){i:Nat}{p:Pl}(f:ps[i]? = some p):p.name∉(yc (ps.take i)).map (·.1):=by
 rw[Dv];intro z;have a:i<ps.length:=();obtain⟨y,b,e⟩:=Ja.mp z;obtain⟨j,c,g⟩:=UG b;rw[Uv] at c;have h:=Ji.mp (U4.mp W.nd) j i () a ()
 simp_all
def WB.at {ps:List Pl}(W:WB ps){i:Nat}{p:Pl}(a:ps[i]? = some p):ym (yc ps) p.name=some (v8 (yc (ps.take i)) p):=by
 have e:yc ps=(ps.drop (i+1)).foldl wZ (yc (ps.take i)++[(p.name,v8 (yc (ps.take i)) p)]):=by
  rw[<- TH];unfold yc;rw[<- Vp];have tk:ps.take (i+1)=ps.take i++[p]:=by rw[Vv,a];rfl
  rw[<- tk,UK]
 obtain⟨u,b⟩:=Ig (ps.drop (i+1)) (yc (ps.take i)++[(p.name,v8 (yc (ps.take i)) p)]);rw[e,b,Uh,TF (W.fresh a)];exact ki _ _ _
def WB.part {ps:List Pl}(W:WB ps){i:Nat}{p:Pl}(c:ps[i]? = some p){r:Str×Str×Jy}(f:r∈p.rows):(ym (yc (ps.take i)) r.2.1).isSome=m9 r.2.1:=by
 have a:∀w:Str,(∀y∈ps,y.name≠w)->ym (yc (ps.take i)) w=none:=λw g=>bA.mpr (by
  grind[Dv])
 rcases W.how i p c r f with z|z|z
 .rw[z,a "all" λy b=>(W.ok y b).2.2.1];rfl
 .rw[z,a "first" λy b=>(W.ok y b).2.2.2];rfl
 .have j:(ym (yc (ps.take i)) r.2.1).isSome=true:=by
   cases h:ym (yc (ps.take i)) r.2.1 with
   |some v=>rfl
   |none=>exact Zn (by rwa [Dv]) (bA.mp h)
  have ⟨y,b,e⟩:=Ja.mp z;have ok:=W.ok y ()
  simp_all [m9]
@[simp]def mV (fe)(sd)(hp):zr fe sd hp=(fe sd).bind λd=>.ok (d,hp):=rfl
@[simp]def hO (g)(fa fb)(sd)(hp):zx g fa fb sd hp=(fa sd hp).bind λp=>(fb sd p.2).bind λq=>(Res.ofO (g p.1 q.1)).bind λz=>.ok (z,q.2):=rfl
@[simp]def dQ (Fn)(fr)(sd)(hp):V7 Fn fr sd hp=(fr sd).bind λds=>Fn ds hp:=rfl
@[simp]def gB (sd)(hp):AJ sd hp=.ok ([],hp):=rfl
@[simp]def TJ (f)(g)(sd)(hp):Wu f g sd hp=(f sd hp).bind λp=>(g sd p.2).bind λq=>.ok (p.1::q.1,q.2):=rfl
@[simp]def gA (fr)(sd)(hp):v6 fr sd hp=(fr sd hp).bind λp=>if p.1.length<=1000 then .ok (.tup p.1,p.2) else .no:=rfl
@[simp]def dW (i)(f)(sd)(hp):SU i f sd hp=(f sd hp).bind λp=>.ok (.next (sd.set i (some (.val p.1))) p.2):=rfl
@[simp]def bg (i)(g)(sd)(hp):wx i g sd hp=g (jS [i] sd) hp:=rfl
@[simp]def hJ (is)(f)(sd)(hp):bF is f sd hp=(f (derI hp is sd)).strict.bind λd=>if KB d then .ok (d,hp) else .no:=rfl
def eK (g:qy):Out2->Res (D×HP)
 | .next sd hp=>g sd hp
 |_=>.no
@[simp]def br (g)(sd)(hp):eK g (.next sd hp)=g sd hp:=rfl
@[simp]def Ii (a:qP)(g:qy)(sd:SD)(hp:HP):y8 a g sd hp=(a sd hp).bind (eK g):=by
 rfl
@[simp]def V9 (fc)(ga g)(sd)(hp):bt fc ga g sd hp=(fc sd hp).bind λp=>if p.1 then ga sd p.2 else g sd p.2:=rfl
def tK (p:D×HP):Res (Bool×HP):=match p.1 with
 | .bl b=>.ok (b,p.2)
 |_=>.no
@[simp]def ra (b)(hp):tK (.bl b,hp)=.ok (b,hp):=rfl
@[simp]def dZ (f)(sd)(hp):SR f sd hp=(f sd hp).bind tK:=rfl
def Dw (a)(d):j6 [(a,d)] a=some d:=Zd rfl
def TK (a)(d e):Xs [(a,d)] a e=[(a,e)]:=Zd rfl
def TL {n ar:Nat}{g:qy}{ds:YH}{a:Addr}{d b v:D}(h:ds.length=ar)(c:g (Qz n ds) [(a,d)]=.ok (v,[(a,b)])):K5 n ar g ds [(a,d)]=.ok (v,[(a,b)]):=by
 simp_all [K5]
def yF {a b:FS}{sd sd':SD}{r:Res Out}(h:a sd=.ok (.next sd'))(c:b sd'=r):ji a b sd=r:=()
def fO {a:qP}{b:qy}{sd sd':SD}{hp hp':HP}{r:Res (D×HP)}(h:a sd hp=.ok (.next sd' hp'))(c:b sd' hp'=r):y8 a b sd hp=r:=()
def Ij {g:FS}{sd sd':SD}{hp:HP}(h:g sd=.ok (.next sd')):vg g sd hp=.ok (.next sd' hp):=()
def Kb {x y:Str}(a:asc x)(b:asc y):xm (.str x) (.str y)=some (.bl (decide (x=y))):=by
 rw[FF (Ie a) (Ie b)]
 simp_all [Q0]
def Wx:asc "all" := by unfold asc;decide +kernel
def Wy:asc "first" := by unfold asc;decide +kernel
def Dx:xm (.str "all") (.str "all")=some (.bl true):=by rw[Kb Wx Wx];congr 2
def Dy:xm (.str "first") (.str "all")=some (.bl false):=by rw[Kb Wy Wx];congr 2
def Dz:xm (.str "first") (.str "first")=some (.bl true):=by rw[Kb Wy Wy];congr 2
def qI (found:Yh)(its:Jy):Yh:=its.map λp=>jA found p.1+p.2
def vE (found:Yh)(r:Str×Str×Jy):Int:=if r.2.1 = "all" then q0 (qI found r.2.2) else qX (qI found r.2.2)
def zB (a:List (Str×Str×Jy))(hs:Yh):Yh:=a.foldl (λf r=>f++[vE f r]) hs
structure RowsOk (n:Nat)(rows:List (Str×Str×Jy)):Prop where
 len:rows.length<=60
 pos:1<=rows.length
 how:∀r∈rows,r.2.1 = "all" \/ r.2.1 = "first"
 ne:∀r∈rows,r.2.2 ≠ []
 sh:∀r∈rows,r.2.2.length<=60
 rng:∀(k:Nat) r,rows[k]? = some r->∀p∈r.2.2,0<=p.1/\p.1<(n:Int)+k
theorem A8:∀a hs,(zB a hs).length=hs.length+a.length
 | [],hs=>rfl
 |r::a,hs=>by
  show(zB a (hs++[vE hs r])).length=_;rw[A8 a,Ub,Ur,Zu];lia
def Ik {found:Yh}{its:Jy}(h:its ≠ []):qI found its ≠ []:=λz=>h (Je.mp z)
def Il (found)(its):(qI found its).length=its.length:=by unfold qI;simp
def TM {found:Yh}{its:Jy}(h:∀p∈its,0<=p.1/\p.1<(found.length:Int)):qd (.tup [0,1]) (jf js (jf jt (jb 2) (jb 0)) (jb 1)) [none,none,some (.val (.lst (found.map .int)))] (its.map qm)=.ok ((qI found its).map .int):=by
 unfold qI;rw[Zw];exact K4 λp hp=>by
  have:=AQ (h p hp).1 (h p hp).2;simp[this]
def RowsOk.at {n:Nat}{a:List (Str×Str×Jy)}(ok:RowsOk n a){hs:Yh}(c:hs.length=n){i:Nat}{r:Str×Str×Jy}(h:a[i]? = some r):(∀p∈r.2.2,0<=p.1/\p.1<((zB (a.take i) hs).length:Int))/\(zB (a.take i) hs).length=n+i/\i<a.length/\r∈a:=by
 have b:=(Jc.mp h).1;have e:(zB (a.take i) hs).length=n+i:=by rw[A8,Uv];lia
 refine⟨λp hp=>?_,e,b,Uf h⟩;have:=ok.rng i r h p hp;lia
def Xx {α: Type}{f:α -> D}(ys:List α)(x:α):jt (.lst ((ys++[x]).map f)) (.int (-1))=some (f x):=by
 show jX ((ys++[x]).map f) (-1)=_;unfold jX xJ;rw[Ze (),Zd (by rw[Zql,Ub,Ur];lia)];have e:((-1:Int)+(((ys++[x]).map f).length:Int)).toNat=ys.length:=by
  rw[Zql,Ub,Ur];lia
 simp_all
def D0 {α: Type}{l:List α}(h:l ≠ []):∃ys x,l=ys++[x]:=⟨l.dropLast,l.getLast h,(List.dropLast_concat_getLast h).symm⟩
def km {c:vu}{a b:qP}{sd:SD}{hp:HP}{r:Res Out2}(h:c sd hp=.ok true)(e:a sd hp=r):z9 c a b sd hp=r:=by
 rwa [Hx,h]
def kn {c:vu}{b a:qP}{sd:SD}{hp:HP}{r:Res Out2}(h:c sd hp=.ok false)(e:a sd hp=r):z9 c b a sd hp=r:=by
 rwa [Hx,h]
@[simp]def gC (fo fi)(sd)(hp):v7 fo fi sd hp=(fo sd hp).bind λp=>(fi sd p.2).bind (r0 p.1):=rfl
@[simp]def cm (Fn)(fr)(sd)(hp):SZ Fn fr sd hp=(fr sd hp).bind λp=>Fn p.1 p.2:=rfl
def uF:Pl:=⟨"",[],[]⟩
abbrev Rw:=Str×Str×Jy
structure RwP (ps:List Pl)(n:Int)(r:Rw):Prop where
 nm:asc r.1
 how:r.2.1 = "all" \/ r.2.1 = "first" \/ ∃q∈ps,r.2.1=q.name/\r.2.2.length=q.givens.length
 ne:r.2.2 ≠ []
 sh:r.2.2.length<=10
 rng:∀p∈r.2.2,0<=p.1/\p.1<n
 wt:∀p∈r.2.2,-1000000000000000000000000000000<=p.2/\p.2<=1000000000000000000000000000000
structure PlP (ps:List Pl)(p:Pl):Prop where
 g1:1<=p.givens.length
 g2:p.givens.length<=4
 r1:1<=p.rows.length
 r2:p.rows.length<=8
 row:∀(k:Nat) r,p.rows[k]? = some r->RwP ps ((p.givens.length:Int)+k) r
structure BkP (ps:List Pl):Prop where
 len:ps.length<=4
 nm:∀(i:Nat) p,ps[i]? = some p->asc p.name/\p.name ≠ "all" /\ p.name ≠ "first"
 inj:∀(i j:Nat) p q,ps[i]? = some p->ps[j]? = some q->p.name=q.name->i=j
 ok:∀(i:Nat) p,ps[i]? = some p->PlP (ps.take i) p
def BkP.at {ps:List Pl}(B:BkP ps){i:Nat}{p:Pl}(h:ps[i]? = some p):i<ps.length/\i<4/\asc p.name/\p.name ≠ "all" /\ p.name ≠ "first" := by
 have a:=(Jc.mp h).1;have l:=B.len;exact⟨a,(),B.nm i p h⟩
theorem BkP.find {ps:List Pl}(B:BkP ps){i:Nat}{p:Pl}(h:ps[i]? = some p):ps.find? (λq=>decide (q.name=p.name))=some p:=by
 refine HS (i:=i) (λq c=>?_) h (Zp rfl);obtain⟨j,a⟩:=Jl.mp c;have b:=(Jc.mp a).1;rw[Uv] at b;rw[VR ()] at a;refine Zo λe=>?_;have:=B.inj j i q p a h e;lia
def xo (rc:Str->List Int->Int)(found:Yh)(r:Rw):Int:=if r.2.1 = "all" then q0 (qI found r.2.2) else if r.2.1 = "first" then qX (qI found r.2.2) else rc r.2.1 (qI found r.2.2)
def jP (rc:Str->List Int->Int)(a:List Rw)(hs:Yh):Yh:=a.foldl (λf r=>f++[xo rc f r]) hs
def qr (ps:List Pl):Nat->Pl->List Int->List Int
 | 0,_,_=>[]
 |n+1,p,hs=>jP (λx a=>(qr ps n ((ps.find? λq=>decide (q.name=x)).getD uF) a).getLastD 0) p.rows hs
def D1 {rc:Str->List Int->Int}{a:List Rw}{hs:Yh}{i:Nat}{r:Rw}(h:a[i]? = some r):jP rc (a.take (i+1)) hs=jP rc (a.take i) hs++[xo rc (jP rc (a.take i) hs) r]:=by
 simp_all [jP,Vv]
theorem D2 (rc):∀a hs,(jP rc a hs).length=hs.length+a.length
 | [],hs=>rfl
 |r::a,hs=>by
  show(jP rc a (hs++[xo rc hs r])).length=_;rw[D2 rc a,Ub,Ur,Zu];lia
def D3 {ps:List Pl}{n:Nat}{p:Pl}{hs:Yh}:(qr ps (n+1) p hs).length=hs.length+p.rows.length:=D2 _ _ _
def TN {ps a:List Pl}{n:Nat}{p:Pl}{hs:Yh}(P:PlP a p):∃ys,qr ps (n+1) p hs=ys++[(qr ps (n+1) p hs).getLastD 0]:=by
 have ne:qr ps (n+1) p hs ≠ []:=λz=>by
  have b:=D3 (ps:=ps) (n:=n) (p:=p) (hs:=hs);have c:=P.r1
  grind
 obtain⟨ys,x,e⟩:=D0 ne
 simp_all
def PlP.at {a:List Pl}{p:Pl}(P:PlP a p){rc:Str->List Int->Int}{hs:Yh}(f:hs.length=p.givens.length){i:Nat}{r:Rw}(h:p.rows[i]? = some r):(∀y∈r.2.2,0<=y.1/\y.1<((jP rc (p.rows.take i) hs).length:Int))/\(jP rc (p.rows.take i) hs).length=p.givens.length+i/\i<p.rows.length:=by
 have b:=(Jc.mp h).1;have e:(jP rc (p.rows.take i) hs).length=p.givens.length+i:=by rw[D2,Uv];lia
 refine⟨λy c=>?_,e,b⟩;have:=(P.row i r h).rng y c;lia
def BkP.snoc {ps:List Pl}{p:Pl}(B:BkP ps)(l:ps.length<4)(P:PlP ps p)(b:asc p.name/\p.name ≠ "all" /\ p.name ≠ "first")(a:∀q∈ps,q.name≠p.name):BkP (ps++[p]):=by
 have at_:∀(i:Nat) q,(ps++[p])[i]? = some q->(i<ps.length/\ps[i]? = some q)\/(i=ps.length/\q=p):=λi q h=>by
  rcases Vd i ps.length with z|z
  .rw[UX z] at h;exact .inl ⟨z,h⟩
  .rw[UY z] at h;rcases Vm (i-ps.length) with y|y
   .rw[y] at h;cases h;exact .inr ⟨(),rfl⟩
   .rw[Vq (by rw[Ur];lia)] at h;cases h
 refine⟨by rw[Ub,Ur];lia,λi q h=>?_,λi j q r h c e=>?_,λi q h=>?_⟩
 .rcases at_ i q h with ⟨_,z⟩|⟨rfl,rfl⟩
  .exact B.nm i q z
  .exact b
 .rcases at_ i q h with ⟨_,z⟩|⟨rfl,rfl⟩<;>rcases at_ j r c with ⟨_,y⟩|⟨rfl,rfl⟩
  .exact B.inj i j q r z y e
  .exact Zn e (a q (Uf z))
  .exact Zn e.symm (a r (Uf y))
  .rfl
 .rcases at_ i q h with ⟨y,z⟩|⟨rfl,rfl⟩
  .rw[List.take_append_of_le_length ()];exact B.ok i q z
  .rw[List.take_append_of_le_length (Zf _),US];exact P
def TQ:BkP []:=⟨Ua _,(by intro i p h;cases h),(by intro i j p q h;cases h),(by intro i p h;cases h)⟩
def BkP.giv {ps:List Pl}(B:BkP ps):∀q∈ps,1<=q.givens.length/\q.givens.length<=4:=λq b=>by
 obtain⟨i,a⟩:=Jl.mp b;exact⟨(B.ok i q a).g1,(B.ok i q a).g2⟩
def BkP.ascs {ps:List Pl}(B:BkP ps):∀q∈ps,asc q.name:=λq a=>have ⟨i,b⟩:=Jl.mp a;(B.at b).2.2.1
def qC (ps:List Pl)(n:Nat)(x:Str)(a:Yh):Int:=(qr ps n ((ps.find? λq=>decide (q.name=x)).getD uF) a).getLastD 0
def AU (ps)(n)(p)(hs):qr ps (n+1) p hs=jP (qC ps n) p.rows hs:=rfl
theorem BkP.how {ps:List Pl}(B:BkP ps){i:Nat}{p:Pl}(hp:ps[i]? = some p){k:Nat}{r:Rw}(c:p.rows[k]? = some r):r.2.1 = "all" \/ r.2.1 = "first" \/ (asc r.2.1/\r.2.1 ≠ "all" /\ r.2.1 ≠ "first" /\ ∃j q,j<i/\ps[j]? = some q/\r.2.1=q.name/\r.2.2.length=q.givens.length):=by
 rcases((B.ok i p hp).row k r c).how with z|z|⟨q,z1,z2,z3⟩
 .exact .inl z
 .exact .inr (.inl z)
 .obtain⟨j,a⟩:=Jl.mp z1;have b:=(Jc.mp a).1;rw[Uv] at b;rw[VR ()] at a;obtain⟨_,_,e,f,g⟩:=B.at a;exact .inr (.inr ⟨by rwa [z2],by rwa [z2],by rwa [z2],j,q,(),a,z2,z3⟩)
def BkP.part {ps:List Pl}(B:BkP ps){j n:Nat}{q:Pl}(a:ps[j]? = some q)(b:Yh):∃ys,qr ps (n+1) q b=ys++[qC ps (n+1) q.name b]:=by
 obtain⟨ys,e⟩:=TN (B.ok j q a);refine⟨ys,?_⟩;unfold qC
 rwa [B.find a]
theorem Im {α: Type}:∀{l m:List α},l.Nodup->(∀x∈l,x∈m)->l.length<=m.length
 | [],m,_,_=>Ua _
 |x::l,m,h,s=>by
  obtain⟨a,b,rfl⟩:=List.append_of_mem (s x Zqs);have ⟨e,c⟩:=Jm.mp h;have f:=Im (m:=a++b) c λy g=>by
   grind
  grind
def xl (t g:Jz):Jz:=JY (t++g)
structure Fm (n:Int)(U:Jz)(f:Jz):Prop where
 good:Good n f
 sub:∀r∈f,r∈U
def TR {n:Int}{f:Jz}(G:Good n f):f.Nodup:=G.srt.imp λ{a b} h e=>by
 have:=xM.asy _ _ h
 simp_all
def Fm.len {n:Int}{U f:Jz}(F:Fm n U f)(h:U.length<=28):f.length<=28:=Zh (Im (TR F.good) F.sub) h
def md:Jz->List Jz->List Jz
 |t,[]=>[t]
 |t,g::gs=>t::md (xl t g) gs
def TU {a b:Jz}{hs:Yh}(g:a ≠ [])(h:b ≠ []):J9 (a++b) hs<=J9 a hs/\J9 (a++b) hs<=J9 b hs/\(J9 (a++b) hs=J9 a hs\/J9 (a++b) hs=J9 b hs):=by
 obtain⟨r,i,e⟩:=V8 (hs:=hs) g;obtain⟨s,c,l⟩:=V8 (hs:=hs) h;have m:=KW (hs:=hs) (VF b i);have n:=KW (hs:=hs) (Uq a c);obtain⟨q,j,o⟩:=V8 (f:=a++b) (hs:=hs) (λz=>g (Jx.mp z).1);refine⟨(),(),?_⟩;rcases Jb.mp j with z|z
 .have:=KW (hs:=hs) z;exact .inl ()
 .have:=KW (hs:=hs) z;lia
def AV {tg:Tg}{b:FS}{ds:YH}{sd:SD}(P:SD->Prop)(a:P sd)(h:∀(i:Nat) x sd,ds[i]? = some x->P sd->∃sd',(JR tg x sd).bind b=.ok (.next sd')/\P sd'):∃sd',q9 tg b ds sd=.ok (.next sd')/\P sd':=have ⟨sd',e,q⟩:=Ka (P:=λ_ sd=>P sd) a ();⟨sd',e,q⟩
def jk (p:Pl):D:=.tup [.str p.name,.int (p.givens.length:Nat),.lst (p.rows.map jF)]
def yK (p:Pl):jt (jk p) (.int 0)=some (.str p.name):=rfl
def we (p:Pl):jt (jk p) (.int 1)=some (.int (p.givens.length:Nat)):=rfl
def vG (p:Pl):jt (jk p) (.int 2)=some (.lst (p.rows.map jF)):=rfl
def WO {ps:List Pl}{i:Nat}{p:Pl}(h:ps[i]? = some p):jX (ps.map jk) (i:Int)=some (jk p):=by
 rw[KU (by rw[Zql];exact(Jc.mp h).1),Zv,h];rfl
def D4:YH->Res YH:=zA 2 2 (J0 (jq Qr (J0 (jb 1) jc)) jc)
def AW:YH->Res YH:=zA 4 4 (J0 (jb 1) (J0 (jq Qr (J0 (jb 2) jc)) (J0 (jq Qr (J0 (jb 3) jc)) jc)))
def AX:FS:=(j0 (jq WG (J0 (Qy [none,some 1] (iS (jb 0)) (.one 0) (jf js (jf jt (jb 1) (jf jt (jb 0) (dC (.int 0)))) (jf jt (jb 0) (dC (.int 1))))) jc)))
def YU:YH->Res D:=jE 2 2 AX
def gr {r:Jy}{hs:Yh}(a:r ≠ [])(f:r.length<=1000)(b:∀p∈r,0<=p.1/\p.1<(hs.length:Int)):YU [jz r,.lst (hs.map .int)]=.ok (.int (Qd r hs)):=by
 have k2:qd (.one 0) (jf js (jf jt (jb 1) (jf jt (jb 0) (dC (.int 0)))) (jf jt (jb 0) (dC (.int 1)))) [none,some (.val (.lst (hs.map .int)))] (r.map qm)=.ok (r.map λp=>.int (jA hs p.1+p.2)):=K4 λp hp=>by
  simp[AQ (b p hp).1 (b p hp).2]
 have e:r.map (λp=>D.int (jA hs p.1+p.2))=(r.map λp=>jA hs p.1+p.2).map .int:=by rw[Zw];rfl
 have c:=CF (ns:=r.map λp=>jA hs p.1+p.2) (λz=>a (Je.mp z));rw[<- e] at c;simp[YU,AX,k2,Qc f,c,Qd]
def AY:FS:=(j0 (jq WH (J0 (Qy [none,some 1] (iS (jb 0)) (.one 0) (J5 YU (J0 (jb 0) (J0 (jb 1) jc)))) jc)))
def YV:YH->Res D:=jE 2 2 AY
def gq {f:Jz}{hs:Yh}(g:f ≠ [])(i:f.length<=1000)(a:∀r∈f,r ≠ [])(j:∀r∈f,r.length<=1000)(l:∀r∈f,∀p∈r,0<=p.1/\p.1<(hs.length:Int)):YV [jj f,.lst (hs.map .int)]=.ok (.int (J9 f hs)):=by
 have b:qd (.one 0) (J5 YU (J0 (jb 0) (J0 (jb 1) jc))) [none,some (.val (.lst (hs.map .int)))] (f.map jz)=.ok (f.map λr=>.int (Qd r hs)):=K4 λr h=>by
  simp[gr (a r h) (j r h) (l r h)]
 have e:f.map (λr=>D.int (Qd r hs))=(f.map λr=>Qd r hs).map .int:=by rw[Zw];rfl
 have c:=CG (ns:=f.map λr=>Qd r hs) (λz=>g (Je.mp z));rw[<- e] at c;simp[YV,AY,b,Qc i,c,J9]
def YW (a:YH->Res D):FS:=(ji (qb 3 (jq Qr (J0 (jb 2) jc))) (ji (jL (iS (jf jt (jf jt (jb 0) (jb 1)) (dC (.int 2)))) (.one 4) (ji (j3 5 (Xu [none,some 3] 1 (iS (jf jt (jb 4) (dC (.int 2)))) (.one 0) (jf js (K3 1 (jf jt (jb 0) (dC (.int 0)))) (jf jt (jb 0) (dC (.int 1)))))) (qi (JD (jf xm (jf jt (jb 4) (dC (.int 1))) (dC (.str "all")))) (Q6 3 (jq WG (J0 (jb 5) jc))) (qi (JD (jf xm (jf jt (jb 4) (dC (.int 1))) (dC (.str "first")))) (Q6 3 (jq WH (J0 (jb 5) jc))) (ji (j3 6 (jf jt (Wq [none,some 0,some 4] (yx (J0 (jb 1) jc)) (.one 0) (JD (jf xm (jf jt (jf jt (jb 1) (jb 0)) (dC (.int 0))) (jf jt (jb 2) (dC (.int 1))))) (jb 0)) (dC (.int 0)))) (Q6 3 (jf jt (J5 a (J0 (jb 0) (J0 (jb 6) (J0 (jb 5) jc)))) (qM qT (dC (.int 1)))))))))) (λsd=>(j0 (jb 3)) (jS [3] sd))))
def VZ:Nat->YH->Res D
 | 0=>λ_=>.no
 |n+1=>jE 7 3 (YW (VZ n))
def TV {found:Yh}{its:Jy}(h:∀p∈its,0<=p.1/\p.1<(found.length:Int)):qd (.one 0) (jf js (K3 1 (jf jt (jb 0) (dC (.int 0)))) (jf jt (jb 0) (dC (.int 1)))) [none,some (.own false (.lst (found.map .int)))] (its.map qm)=.ok ((qI found its).map .int):=by
 have e:(qI found its).map D.int=its.map λp=>D.int (jA found p.1+p.2):=by unfold qI;rw[Zw];rfl
 rw[e];exact K4 λp hp=>by
  have a:=AQ (h p hp).1 (h p hp).2;simp[a]
def TW {l:Yj}{j:Nat}(h:j∈l)(b:∀k∈l,k=j):∃r,l=j::r:=by
 cases l with
 |nil=>cases h
 |cons a r=>exact⟨r,by rw[b a Zqs]⟩
theorem Io {ps:List Pl}(B:BkP ps):∀(n i:Nat) (p:Pl) (hs:Yh),ps[i]? = some p->i<n->hs.length=p.givens.length->VZ n [.lst (ps.map jk),.int i,.lst (hs.map .int)]=.ok (.lst ((qr ps n p hs).map .int))
 | 0,i,p,hs,_,h,_=>Zn h (UJ _)
 |n+1,i,p,hs,hp,hi,hl=>by
  have P:=B.ok i p hp;have g2:=P.g2;have r2:=P.r2;have Z:=B.len;have il:=(List.getElem?_eq_some_iff.mp hp).1;have ta:=WO hp;have t2:=vG p;show jE 7 3 (YW (VZ n)) _=_;rw[AU,Y2 7 3 _ [.lst (ps.map jk),.int i,.lst (hs.map .int)] rfl];unfold YW;generalize hB:ji (j3 5 _) _=b;obtain⟨sd',e,u,v,w,E⟩:=Ka (tg:=.one 4) (b:=b) (ds:=p.rows.map jF) (sd:=[some (.val (.lst (ps.map jk))),some (.val (.int i)),some (.val (.lst (hs.map .int))),some (.own false (.lst (hs.map .int))),none,none,none])
   (P:=λk sd=>∃u v w,sd=[some (.val (.lst (ps.map jk))),some (.val (.int i)),some (.val (.lst (hs.map .int))),some (.own false (.lst ((jP (qC ps n) (p.rows.take k) hs).map .int))),u,v,w]) ⟨none,none,none,rfl⟩ (by
    rintro k x sd y ⟨u,v,w,rfl⟩;obtain⟨r,m,rfl⟩:=QK y;obtain⟨bd,ln,hk⟩:=P.at (rc:=qC ps n) hl m;have R:=P.row k r m;have K:=TV bd;have l10:=R.sh;have F:=Ik (found:=jP (qC ps n) (p.rows.take k) hs) R.ne;have tl:=Il (jP (qC ps n) (p.rows.take k) hs) r.2.2;have hw:=B.how hp m;have L:=Qc (show r.2.2.length<=1000 from ());have M:=Qc (show(jP (qC ps n) (p.rows.take k) hs).length<=1000 by lia);rw[D1 m];unfold xo;obtain⟨nm,how,its⟩:=r;simp only at *;generalize qI (jP (qC ps n) (p.rows.take k) hs) its=ts at *;have g1:=CF F;have N:=CG F;generalize jP (qC ps n) (p.rows.take k) hs=fo at *;have O:∀a b c d e f,capO [none,some 3] 1 [a,b,c,some (.own false (.lst (fo.map .int))),d,e,f]=[none,some (.own false (.lst (fo.map .int)))]:=λ_ _ _ _ _ _=>rfl;subst hB;have o:jt (jF (nm,how,its)) (.int 1)=some (.str how):=rfl;have A:jt (jF (nm,how,its)) (.int 2)=some (.tup (its.map qm)):=rfl;rcases hw with z|z|⟨z0,z1',z2',j,q,z3,z4,z5,z6⟩
    .subst z;generalize jF (nm, "all",its)=rr at o A;refine⟨[some (.val (.lst (ps.map jk))),some (.val (.int i)),some (.val (.lst (hs.map .int))),some (.own false (.lst ((fo++[q0 ts]).map .int))),some (.val rr),some (.val (.lst (ts.map .int))),w],?_,_,_,_,rfl⟩;simp[o,A,O,K,g1,L,M,Dx]
    .subst z;have Q:¬("first" : Str) = "all" := by decide +kernel
     generalize jF (nm, "first",its)=rr at o A;refine⟨[some (.val (.lst (ps.map jk))),some (.val (.int i)),some (.val (.lst (hs.map .int))),some (.own false (.lst ((fo++[qX ts]).map .int))),some (.val rr),some (.val (.lst (ts.map .int))),w],?_,_,_,_,rfl⟩;simp[o,A,O,K,N,L,M,Dy,Dz,Q]
    .rw[Ze z1',Ze z2'];obtain⟨t,rfl⟩:∃t,n=t+1:=⟨n-1,()⟩;obtain⟨ys,ey⟩:=B.part (n:=t) z4 ts;have S:=Io B (t+1) j q ts z4 () (tl.trans z6);rw[ey,<- z5] at S;have e1:=Kb z0 Wx;have e2:=Kb z0 Wy;have r1:Ko [.int (i:Nat)]=.ok (JQ 0 i):=by rw[KF () ()];rfl
     have G:∀x∈List.range i,∃q,ps[x]? = some q:=λx y=>by
      have:=List.mem_range.mp y;exact⟨ps[x],Zqg ()⟩
     have I:KE (.one 0) (JD (jf xm (jf jt (jf jt (jb 1) (jb 0)) (dC (.int 0))) (jf jt (jb 2) (dC (.int 1))))) (jb 0) [none,some (.val (.lst (ps.map jk))),some (.val (jF (nm,how,its)))] (JQ 0 i)=.ok (((List.range i).filter λk=>decide ((ps.getD k uF).name=how)).map λk:Nat=>.int (k:Int)):=by
      refine A5 (k:=λk:Nat=>D.int (0+k)) (s:=λk:Nat=>[some (.val (.int (0+k))),some (.val (.lst (ps.map jk))),some (.val (jF (nm,how,its)))]) (λq _=>rfl) (λx y=>?_) λx _ _=>by simp
      obtain⟨q,C⟩:=G x y;have ge:=Kb (B.nm x q C).1 z0;have a:=WO C;have U:=yK q;have eg:ps.getD x uF=q:=by rw[Us,C];rfl
      rw[eg];generalize jF (nm,how,its)=rr at o;generalize ps.map jk=TD at a;generalize jk q=tq at a U;simp[a,U,o,ge]
     obtain⟨rs,er⟩:=TW (l:=(List.range i).filter λk=>decide ((ps.getD k uF).name=how)) (j:=j) (List.mem_filter.mpr ⟨List.mem_range.mpr z3,Zp (by rw[Us,z4];exact z5.symm)⟩) λx y=>by
      obtain⟨h1,J⟩:=List.mem_filter.mp y;obtain⟨q2,C⟩:=G x h1;have J:=of_decide_eq_true J;rw[Us,C] at J;exact B.inj x j q2 q C z4 (J.trans z5)
     rw[er] at I;have X:jX ((j::rs).map λk:Nat=>D.int (k:Int)) 0=some (.int j):=KU (l:=(j::rs).map λk:Nat=>D.int (k:Int)) (k:=0) ();generalize (j::rs).map (λk:Nat=>D.int (k:Int))=FD at I X;have lz:=Qc (show i<=1000 from ());have H:=Xx (f:=D.int) ys (qC ps (t+1) how ts);generalize (ys++[qC ps (t+1) how ts]).map D.int=YD at S H;have H:jX YD (-1)=some (.int (qC ps (t+1) how ts)):=H;generalize qC ps (t+1) how ts=val at H;generalize jF (nm,how,its)=rr at o A I;generalize ps.map jk=PD at *;refine⟨[some (.val (.lst PD)),some (.val (.int i)),some (.val (.lst (hs.map .int))),some (.own false (.lst ((fo++[val]).map .int))),some (.val rr),some (.val (.lst (ts.map .int))),some (.val (.int j))],?_,_,_,_,rfl⟩;simp[o,A,O,K,L,M,e1,e2,z1',z2',r1,I,X,lz,Wr,S,H])
  rw[Zql,US] at E;subst E;have T:∀{r:Res Out} {Y:D},r=.ok (.ret Y)->r.bind xc=.ok Y:=λe=>by rw[e];rfl
  refine T ?_;refine yF (sd':=[some (.val (.lst (ps.map jk))),some (.val (.int i)),some (.val (.lst (hs.map .int))),some (.own false (.lst (hs.map .int))),none,none,none]) (by simp[Qz]) ?_;refine yF (sd':=_) (Eq.trans ?_ e) ?_
  .generalize ps.map jk=PD at *;generalize jk p=tp at *;generalize p.rows.map jF=rd at *;simp[ta,t2]
  .simp
def YX (a:YH->Res D):FS:=(ji (qi (JD (jq jQ (J0 (jb 1) (J0 (dC (.ty "str")) jc)))) (j0 (XU (jq jQ (J0 (jb 0) (J0 (dC (.ty "str")) jc))) (jf xm (jb 0) (jb 1)))) JN) (ji (qi (JD (jq jQ (J0 (jb 1) (J0 (dC (.ty "int")) jc)))) (j0 (XU (jq jQ (J0 (jb 0) (J0 (dC (.ty "int")) jc))) (XU (Ci (jq jQ (J0 (jb 0) (J0 (dC (.ty "bool")) jc)))) (jf xm (jb 0) (jb 1))))) JN) (ji (qi (zH (JD (jf zd (jq jQ (J0 (jb 1) (J0 (dC (.ty "list")) jc))) (jq jQ (J0 (jb 0) (J0 (dC (.ty "list")) jc))))) (JD (jf zd (jq jQ (J0 (jb 1) (J0 (dC (.ty "tuple")) jc))) (jq jQ (J0 (jb 0) (J0 (dC (.ty "tuple")) jc)))))) (j0 (dC (.bl false))) JN) (ji (qi (JD (jf zd (jq jO (J0 (jb 0) jc)) (jq jO (J0 (jb 1) jc)))) (j0 (dC (.bl false))) JN) (ji (jL (yx (J0 (jq jO (J0 (jb 1) jc)) jc)) (.one 2) (qi (Qo (JD (J5 a (J0 (jf jt (jb 0) (jb 2)) (J0 (jf jt (jb 1) (jb 2)) jc))))) (j0 (dC (.bl false))) JN)) (j0 (dC (.bl true))))))))
def Q1:Nat->YH->Res D
 | 0=>λ_=>.no
 |n+1=>jE 3 2 (YX (Q1 n))
def AZ (n:Nat)(i j:Int):Q1 (n+1) [.int i,.int j]=.ok (.bl (decide (i=j))):=by
 simp[Q1,YX]
def yS:Nat->D->Bool
 | 0,_=>false
 |_+1,.int _=>true
 |n+1,.tup ds=>ds.all (yS n)&&UP ds.length 1000
 |n+1,.lst ds=>ds.all (yS n)&&UP ds.length 1000
 |_+1,_=>false
theorem D5:∀(n:Nat) (d:D),yS n d=true->Q1 n [d,d]=.ok (.bl true)
 | 0,d,h=>by unfold yS at h;cases h
 |n+1,d,h=>by
  have seq:∀(mk:YH->D) (ds:YH),(mk=D.tup\/mk=D.lst)->ds.all (yS n)=true->ds.length<=1000->Q1 (n+1) [mk ds,mk ds]=.ok (.bl true):=by
   intro mk ds hk c m;have f:Ko [.int ds.length]=.ok (JQ 0 ds.length):=by rw[KF () (),Int.toNat_natCast]
   have a:∃sd',q9 (.one 2) (qi (Qo (JD (J5 (Q1 n) (J0 (jf jt (jb 0) (jb 2)) (J0 (jf jt (jb 1) (jb 2)) jc))))) (j0 (dC (.bl false))) JN) (JQ 0 ds.length) [some (.val (mk ds)),some (.val (mk ds)),none]=.ok (.next sd')/\∃u,sd'=[some (.val (mk ds)),some (.val (mk ds)),u]:=
    Ka (P:=λ_ sd=>∃u,sd=[some (.val (mk ds)),some (.val (mk ds)),u]) ⟨none,rfl⟩ (by
     rintro i x sd g ⟨u,rfl⟩;obtain⟨rfl,b⟩:=WK g;have j:jX ds (i:Int)=some ds[i]:=by rw[KU b,Zqg b]
     have l:=D5 n ds[i] (Ve.mp c _ (Uu b));rcases hk with hk|hk<;>subst hk<;>simp[j,l])
   obtain⟨sd',e,u,rfl⟩:=a;rcases hk with hk|hk<;>subst hk<;>simp[Q1,YX,f,e]
  cases d with
  |int i=>rw[AZ];simp
  |tup ds =>
   unfold yS at h;rw[Uc,UQ] at h;exact seq D.tup ds (.inl rfl) h.1 h.2
  |lst ds =>
   unfold yS at h;rw[Uc,UQ] at h;exact seq D.lst ds (.inr rfl) h.1 h.2
  |_=>unfold yS at h;cases h
def TX (n:Nat){hs:Yh}(h:hs.length<=1000):yS (n+2) (.lst (hs.map .int))=true:=by
 unfold yS;rw[Uc,UQ,Ve,Zql];refine⟨λx a=>?_,h⟩;obtain⟨i,_,rfl⟩:=Ja.mp a;rfl
def TY (n:Nat){r:Jy}(h:r.length<=1000):yS (n+3) (jz r)=true:=by
 unfold jz yS;rw[Uc,UQ,Ve,Zql];refine⟨λx a=>?_,h⟩;obtain⟨p,_,rfl⟩:=Ja.mp a;rfl
def TZ (n:Nat){f:Jz}(h:f.length<=1000)(a:∀r∈f,r.length<=1000):yS (n+4) (jj f)=true:=by
 unfold jj yS;rw[Uc,UQ,Ve,Zql];refine⟨λx b=>?_,h⟩;obtain⟨r,c,rfl⟩:=Ja.mp b;exact TY n (a r c)
def YY (a:YH->Res D):FS:=(j0 (jf jt (J5 a (J0 (jb 0) (J0 (jb 1) (J0 (jb 2) jc)))) (qM qT (dC (.int 1)))))
def WP (a:YH->Res D):FS:=(ji (qi (JD (jf xm (jb 1) (dC (.str "all")))) (j0 (jq WG (J0 (jb 2) jc))) JN) (ji (qi (JD (jf xm (jb 1) (dC (.str "first")))) (j0 (jq WH (J0 (jb 2) jc))) JN) (j0 (J5 a (J0 (jb 0) (J0 (jb 1) (J0 (jb 2) jc)))))))
def Ba:FS:=(ji (jL (iS (qM (qY "Book" "plans") (jb 0))) (.one 2) (qi (JD (jf xm (qM (qY "Plan" "name") (jb 2)) (jb 1))) (j0 (jb 2)) JN)) rj)
def YZ:YH->Res D:=jE 3 2 Ba
def Ip {ps:List Pl}{x:Str}{p:Pl}(j:asc x)(hp:∀p∈ps,asc p.name)(g:ps.find? (λp=>decide (p.name=x))=some p):YZ [JE ps,.str x]=.ok (Qt p):=by
 have l:q9 (.one 2) (qi (JD (jf xm (qM (qY "Plan" "name") (jb 2)) (jb 1))) (j0 (jb 2)) JN) (ps.map Qt) [some (.val (JE ps)),some (.val (.str x)),none]=.ok (.ret (Qt p)):=by
  refine A4 (R:=λr=>r=.ok (.ret (Qt p))) (P:=λi sd=>(∀q∈ps.take i,decide (q.name=x)=false)/\∃u,sd=[some (.val (JE ps)),some (.val (.str x)),u]) () (λsd ⟨e,f⟩=>?_) λi d sd m ⟨e,u,f⟩=>?_
  .grind
  .obtain⟨q,a,rfl⟩:=QK m;have n:q∈ps:=by grind
   have b:=(λp o=>Kb (hp p o) j) q n;have tk:ps.take (i+1)=ps.take i++[q]:=by rw[Vv,a];rfl
   cases c:decide (q.name=x) with
   |true =>
    rw[c] at b;refine .inr (.inr ⟨Qt q,?_,?_⟩)
    .subst f;simp[b]
    .rw[HS e a c] at g;cases g;rfl
   |false =>
    rw[c] at b;refine .inl ⟨[some (.val (JE ps)),some (.val (.str x)),some (.val (Qt q))],.inl ?_,λy h=>?_,_,rfl⟩
    .subst f;simp[b]
    .rw[tk] at h;rcases Jb.mp h with z|z
     .exact e y z
     .rwa [Jd.mp z]
 simp[YZ,Ba,l]
def Z1 (a:YH->Res D):FS:=(ji (qb 3 (jq Qr (J0 (jb 2) jc))) (ji (jL (iS (qM (qY "Plan" "rows") (J5 YZ (J0 (jb 0) (J0 (jb 1) jc))))) (.tup [4,5,6]) (Q6 3 (xU [3] (J5 a (J0 (jb 0) (J0 (jb 5) (J0 (Qy [none,none,some 3] (iS (jb 6)) (.tup [0,1]) (jf js (jf jt (jb 2) (jb 0)) (jb 1))) jc))))))) (λsd=>(j0 (jb 3)) (jS [3] sd))))
def KY:Nat->YH->Res D
 | 0=>λ_=>.no
 |n+1=>jE 7 3 (Z1 (jE 3 3 (WP (jE 3 3 (YY (KY n))))))
def QR (n:Nat):YH->Res D:=jE 3 3 (YY (KY n))
def Ku (n:Nat):YH->Res D:=jE 3 3 (WP (QR n))
def D6 {n:Nat}{bk nm hs:D}{ys:Yh}{x:Int}(h:KY n [bk,nm,hs]=.ok (.lst ((ys++[x]).map .int))):QR n [bk,nm,hs]=.ok (.int x):=by
 have l:=Xx (f:=D.int) ys x
 simp_all [QR,YY]
def tS (n:Nat)(b:D){hs:Yh}(a:hs ≠ []):Ku n [b,.str "all",.lst (hs.map .int)]=.ok (.int (q0 hs)):=by
 simp[Ku,WP,Dx,(CF a)]
def tZ (n:Nat)(b:D){hs:Yh}(a:hs ≠ []):Ku n [b,.str "first",.lst (hs.map .int)]=.ok (.int (qX hs)):=by
 simp[Ku,WP,Dy,Dz,(CG a)]
def tX {n:Nat}{b d:D}{how:Str}{z:D}(a:asc how)(c:how ≠ "all")(e:how ≠ "first")(h:QR n [b,.str how,d]=.ok z):Ku n [b,.str how,d]=.ok z:=by
 have f:=Kb a Wx;have g:=Kb a Wy
 simp_all [Ku,WP]
theorem D7 {ps:List Pl}(B:BkP ps):∀(n i:Nat) (p:Pl) (hs:Yh),ps[i]? = some p->i<n->hs.length=p.givens.length->KY n [JE ps,.str p.name,.lst (hs.map .int)]=.ok (.lst ((qr ps n p hs).map .int))
 | 0,i,p,hs,_,h,_=>()
 |n+1,i,p,hs,hp,hi,hl=>by
  have P:=B.ok i p hp;have G:=P.g2;have H:=P.r2;have I:=Ip (B.at hp).2.2.1 B.ascs (B.find hp);show jE 7 3 (Z1 (Ku n)) _=_;rw[AU];obtain⟨sd',e,u,v,w,o⟩:=Ka (tg:=.tup [4,5,6]) (b:=Q6 3 (xU [3] (J5 (Ku n) (J0 (jb 0) (J0 (jb 5) (J0 (Qy [none,none,some 3] (iS (jb 6)) (.tup [0,1]) (jf js (jf jt (jb 2) (jb 0)) (jb 1))) jc)))))) (ds:=p.rows.map jF) (sd:=[some (.val (JE ps)),some (.val (.str p.name)),some (.val (.lst (hs.map .int))),some (.own false (.lst (hs.map .int))),none,none,none])
   (P:=λi sd=>∃u v w,sd=[some (.val (JE ps)),some (.val (.str p.name)),some (.val (.lst (hs.map .int))),some (.own false (.lst ((jP (qC ps n) (p.rows.take i) hs).map .int))),u,v,w]) ⟨none,none,none,rfl⟩ (by
    rintro k x sd s ⟨u,v,w,rfl⟩;obtain⟨r,a,rfl⟩:=QK s;obtain⟨t,J,K⟩:=P.at (rc:=qC ps n) hl a;have R:=P.row k r a;have y:=TM t;have A:=R.sh;have c:=Ik (found:=jP (qC ps n) (p.rows.take k) hs) R.ne;have C:=Il (jP (qC ps n) (p.rows.take k) hs) r.2.2;have E:Ku n [JE ps,.str r.2.1,.lst ((qI (jP (qC ps n) (p.rows.take k) hs) r.2.2).map .int)]=.ok (.int (xo (qC ps n) (jP (qC ps n) (p.rows.take k) hs) r)):=by
     unfold xo;rcases B.how hp a with z|z|⟨z0,g,l,j,q,z3,z4,z5,z6⟩
     .rw[z,Zd rfl];exact tS n _ c
     .rw[z,Ze (by decide +kernel),Zd rfl];exact tZ n _ c
     .rw[Ze g,Ze l];refine tX z0 g l ?_;obtain⟨f,rfl⟩:∃f,n=f+1:=⟨n-1,()⟩;obtain⟨ys,F⟩:=B.part (n:=f) z4 (qI (jP (qC ps (f+1)) (p.rows.take k) hs) r.2.2);have m:=D7 B (f+1) j q _ z4 () (C.trans z6);rw[F,<- z5] at m;exact D6 m
    have g:=Qc (show r.2.2.length<=1000 from ());have l:=Qc (show(jP (qC ps n) (p.rows.take k) hs).length<=1000 by lia);rw[D1 a,TC,jy];simp[y,E,g,l])
  simp_all [Z1]
def Z3:FS:=(ji (j3 5 (J5 (KY 4) (J0 (jb 2) (J0 (jf jt (jf jt (jb 0) (jb 1)) (dC (.int 0))) (J0 (jq Qr (J0 (jb 4) jc)) jc))))) (ji (qi (Qo (JD (J5 (Q1 6) (J0 (jb 5) (J0 (J5 (VZ 4) (J0 (jb 0) (J0 (jb 1) (J0 (jb 4) jc)))) jc))))) (j0 (dC (.bl false))) JN) (ji (qi (Qo (JD (J5 (Q1 6) (J0 (J5 (QR 4) (J0 (jb 2) (J0 (jf jt (jf jt (jb 0) (jb 1)) (dC (.int 0))) (J0 (jq Qr (J0 (jb 4) jc)) jc)))) (J0 (jf jt (jb 5) (qM qT (dC (.int 1)))) jc))))) (j0 (dC (.bl false))) JN) (ji (qi (JD (qM (xE false) (jb 3))) (j0 (dC (.bl true))) JN) (ji (qi (zH (Qo (JD (jq jQ (J0 (jb 3) (J0 (dC (.ty "list")) jc))))) (JD (jf zd (jq jO (J0 (jb 3) jc)) (jq jO (J0 (jb 5) jc))))) (j0 (dC (.bl false))) JN) (ji (jL (yx (J0 (jq jO (J0 (jb 5) jc)) jc)) (.one 6) (qi (JD (jf zd (J5 YV (J0 (jf jt (jb 3) (jb 6)) (J0 (jb 4) jc))) (jf jt (jb 5) (jb 6)))) (j0 (dC (.bl false))) JN)) (j0 (dC (.bl true)))))))))
def Xy:YH->Res D:=jE 7 5 Z3
structure FsO (ps:List Pl)(p:Pl)(T:List Jz):Prop where
 ne:T ≠ []
 len:T.length<=1000
 fm:∀g∈T,g ≠ []/\g.length<=1000/\∀r∈g,r ≠ []/\r.length<=1000/\∀x∈r,0<=x.1/\x.1<(p.givens.length:Int)
 hour:∀hs:Yh,hs.length=p.givens.length->(T.map λg=>J9 g hs)=qr ps 4 p hs
def gj {ps:List Pl}(B:BkP ps){i:Nat}{p:Pl}(hp:ps[i]? = some p){hs:Yh}(j:hs.length=p.givens.length){fd:D}(H:fd=.non\/∃T,fd=.lst (T.map jj)/\FsO ps p T):Xy [.lst (ps.map jk),.int i,JE ps,fd,.lst (hs.map .int)]=.ok (.bl true):=by
 have t:=(B.at hp).2.1;have P:=B.ok i p hp;have Z:=P.g2;have r2:=P.r2;have m:=D7 B 4 i p hs hp t j;have v:=Io B 4 i p hs hp t j;have rl:=D3 (ps:=ps) (n:=3) (p:=p) (hs:=hs);obtain⟨ys,w⟩:=B.part (n:=3) hp hs;have a:=m;rw[w] at a;have a:=D6 a;have c:=Xx (f:=D.int) ys (qC ps 4 p.name hs);rw[<- w] at c;generalize qC ps 4 p.name hs=val at *;have I:∀T,FsO ps p T->(T.map λg=>J9 g hs)=qr ps 4 p hs:=λT h=>h.hour hs j;generalize qr ps 4 p hs=rn at *;have y:=D5 6 (.lst (rn.map .int)) (TX 4 ());have z:=AZ 5 val val;have A:=WO hp;have C:=yK p;have c:jX (rn.map D.int) (-1)=some (.int val):=c;have J:jO [.lst (rn.map D.int)]=some (.int (rn.length:Nat)):=by rw[Y5,Zql]
 have K:Ko [.int (rn.length:Nat)]=.ok (JQ 0 rn.length):=by rw[KF () ()];rfl
 rcases H with rfl|⟨T,rfl,F⟩
 .generalize rn.map D.int=RD at *;generalize ps.map jk=PD at *;generalize jk p=tp at *;generalize JE ps=bk at *;generalize hs.map D.int=hd at *;simp[Xy,Z3,A,C,m,v,y,a,c,z,xE,C8]
 .have E:=I T F;have L:T.length=rn.length:=by rw[<- E,Zql]
  obtain⟨sd',e,u,o⟩:=AV (tg:=.one 6) (b:=qi (JD (jf zd (J5 YV (J0 (jf jt (jb 3) (jb 6)) (J0 (jb 4) jc))) (jf jt (jb 5) (jb 6)))) (j0 (dC (.bl false))) JN) (ds:=JQ 0 rn.length)
   (sd:=[some (.val (.lst (ps.map jk))),some (.val (.int i)),some (.val (JE ps)),some (.val (.lst (T.map jj))),some (.val (.lst (hs.map .int))),some (.val (.lst (rn.map .int))),none])
   (λsd=>∃u,sd=[some (.val (.lst (ps.map jk))),some (.val (.int i)),some (.val (JE ps)),some (.val (.lst (T.map jj))),some (.val (.lst (hs.map .int))),some (.val (.lst (rn.map .int))),u]) ⟨none,rfl⟩ (by
    rintro k x sd q ⟨u,rfl⟩;obtain⟨rfl,hk⟩:=WK q;rw[Vr];have G:T[k]? = some T[k]:=Zqg ();have M:=Uu (l:=T) (show k<T.length from ());generalize T[k]=g at *;obtain⟨N,O,s⟩:=F.fm g M;have Q:=gq (hs:=hs) N O (λr h=>(s r h).1) (λr h=>(s r h).2.1) (λr h x q=>by have:=(s r h).2.2 x q;lia);have R:jX (T.map jj) (k:Int)=some (jj g):=by rw[KU (by rw[Zql];lia),Zv,G];rfl
    have S:jX (rn.map D.int) (k:Int)=some (.int (J9 g hs)):=by
     rw[KU (by rw[Zql];lia),Zv,<- E,Zv,G];rfl
    generalize T.map jj=TD at *;generalize rn.map D.int=RD at *;generalize jj g=gd at *;refine⟨_,?_,some (.val (.int k)),rfl⟩;simp[R,S,Q])
  subst o;have U:jO [.lst (T.map jj)]=some (.int (rn.length:Nat)):=by rw[Y5,Zql,L]
  have X:jQ [.lst (T.map jj),.ty "list"]=some (.bl true):=rfl;have Y:xE false (.lst (T.map jj))=some (.bl false):=rfl;generalize T.map jj=TD at *;generalize rn.map D.int=RD at *;generalize ps.map jk=PD at *;generalize jk p=tp at *;generalize JE ps=bk at *;generalize hs.map D.int=hd at *;simp[Xy,Z3,A,C,m,v,y,a,c,z,Y,X,U,J,K,e]
def Z5:FS:=(ji (qi (JD (jf xm (jq jO (J0 (jb 0) jc)) (dC (.int 0)))) (j0 (jb 1)) JN) (ji (j3 2 (jf Qp (jb 1) (jq jO (J0 (jb 0) jc)))) (j0 (jf js (jf Qp (jf jK (jf jt (jb 0) (jf jK (jb 1) (jq jO (J0 (jb 0) jc)))) (jf qS (dC (.int 10)) (dC (.int 62)))) (jf js (dC (.int 1)) (jb 2))) (jf qE (jb 2) (jb 1))))))
def QL:YH->Res D:=jE 3 2 Z5
def sX {ns:Yh}{t:Int}(b:0<=t)(c:t<(ns.length:Int)):jX ns t=some (jA ns t):=by
 have e:xJ ns.length t=some t.toNat:=by unfold xJ;rw[Zd b,Zd c]
 have a:t.toNat<ns.length:=()
 unfold jX jA;rw[e];show ns[t.toNat]? = _;rw[Zqg a,Us,Zqg a];rfl
def Qf (ns:Yh)(k:Int):Int:=if ns=[] then k else jA ns (k % ns.length) % (10:Int) ^ (62:Nat) / (1+k / ns.length)+k / ns.length*k
def de {b:D}{ns:Yh}(a:jO [b]=some (.int ns.length))(c:∀t:Int,0<=t->t<(ns.length:Int)->jt b (.int t)=some (.int (jA ns t))){k:Int}(e:0<=k)(o:k<=100000)(q:ns.length<=1000):QL [b,.int k]=.ok (.int (Qf ns k)):=by
 unfold Qf;by_cases h:ns=[]
 .subst h;simp[QL,Z5,a]
 .have hp:0<ns.length:=Jv.mpr h;have hp':(0:Int)<(ns.length:Int):=()
  have r:=Int.ediv_nonneg e (show(0:Int)<=ns.length by lia);have s:k / (ns.length:Int)<=k:=Int.ediv_le_self _ e;have f:=Y4 (i:=k) hp' ();have g:=Y3 (i:=k) hp';have l:=c _ (Vs k (show(ns.length:Int)≠0 by lia)) (Vt k hp');have p:qS (.int 10) (.int 62)=some (.int (10 ^ 62)):=rfl;have m:=λi=>Y4 (i:=i) (j:=1+k / (ns.length:Int)) () ();have n:=WJ (CC (i:=k / (ns.length:Int)) (j:=k) () ());simp[QL,Z5,a,h,f,g,l,p,m,n]
def Xz (ns:Yh){k:Int}(a:0<=k)(b:k<=100000)(c:ns.length<=1000):QL [.scr ns,.int k]=.ok (.int (Qf ns k)):=
 de rfl (λt e f=>by rw[Ps,sX e f];rfl) a b c
def X0:FS:=(ji (j3 2 (J5 QL (J0 (jb 0) (J0 (dC (.int 60)) jc)))) (ji (j3 3 (dC (.str "abcdefghijklmnopqrstuvwxyz"))) (ji (j3 4 (jf jt (jb 3) (jf jK (jf Qp (jb 2) (dC (.int 3))) (dC (.int 26))))) (ji (j3 5 (jf jt (jb 3) (jf jK (jf Qp (jb 2) (dC (.int 78))) (dC (.int 26))))) (j0 (jf jt (qN (J0 (jf js (jb 4) (jq zc (J0 (jb 1) jc))) (J0 (jf js (jf js (jb 4) (jq zc (J0 (jb 1) jc))) (jb 5)) (J0 (jf js (jf js (jb 4) (jb 5)) (jq zc (J0 (jb 1) jc))) jc)))) (jf jK (jb 2) (dC (.int 3)))))))))
def Kv:YH->Res D:=jE 6 2 X0
def Qh (c:Int)(k:Nat):Str:=if c % 3=0 then xf (c / 3 % 26).toNat++yh k else if c % 3=1 then xf (c / 3 % 26).toNat++yh k++xf (c / 78 % 26).toNat else xf (c / 3 % 26).toNat++xf (c / 78 % 26).toNat++yh k
def D8 (x y z:D):jX [x,y,z] 0=some x/\jX [x,y,z] 1=some y/\jX [x,y,z] 2=some z:=⟨rfl,rfl,rfl⟩
def Bb {ns:Yh}(r:ns.length<=1000){k:Nat}{x:Int}(s:x=(k:Int))(h:k<64):Kv [.scr ns,.int x]=.ok (.str (Qh (Qf ns 60) k))/\asc (Qh (Qf ns 60) k):=by
 subst s;have i:=Xz ns (k:=60) () () r;obtain⟨j,f⟩:=T9 h;generalize Qf ns 60=c at *;have l:=Ib (k:=c / 3 % 26) () ();have m:=Ib (k:=c / 78 % 26) () ();have a:=Ic (k:=(c / 3 % 26).toNat) ();have g:=Ic (k:=(c / 78 % 26).toNat) ();have n:=AT a f ();have o:=AT (a.app f) g ();have p:=AT a g ();have q:=AT (a.app g) f ();have t:=(a.app f).asc;have u:=((a.app f).app g).asc;have v:=((a.app g).app f).asc;have fd:Qp (.int c) (.int 78)=some (.int (c / 78)):=Y4 () ();unfold Qh;generalize xf (c / 3 % 26).toNat=x1 at *;generalize xf (c / 78 % 26).toNat=x2 at *;generalize yh k=dg at *;have b:c % 3=0\/c % 3=1\/c % 3=2:=()
 rcases b with e|e|e
 .rw[Zd e];refine⟨?_,t⟩;simp[Kv,X0,i,fd,l,m,j,n,o,p,q,e,D8]
 .rw[Ze (),Zd e];refine⟨?_,u⟩;simp[Kv,X0,i,fd,l,m,j,n,o,p,q,e,D8]
 .rw[Ze (),Ze ()];refine⟨?_,v⟩;simp[Kv,X0,i,fd,l,m,j,n,o,p,q,e,D8]
def nA:((List.range 4).map λk=>(yh k).cps.toList).Nodup:=by decide +kernel
def sv:∀k:Fin 4,(yh k.1).cps.toList.any (λc=>decide (c<97))=true:=by decide +kernel
def Iq (c:Int)(k:Nat):∃a b:Yj,∀i,(Qh c i).cps.toList=a++(yh i).cps.toList++b:=by
 unfold Qh;by_cases h:c % 3=0
 .exact⟨(xf (c / 3 % 26).toNat).cps.toList,[],λi=>by rw[Zd h,YT,ZA]⟩
 .by_cases e:c % 3=1
  .exact⟨(xf (c / 3 % 26).toNat).cps.toList,(xf (c / 78 % 26).toNat).cps.toList,λi=>by rw[Ze h,Zd e,YT,YT]⟩
  .exact⟨(xf (c / 3 % 26).toNat++xf (c / 78 % 26).toNat).cps.toList,[],λi=>by rw[Ze h,Ze e,YT,ZA]⟩
def tu {c:Int}{i j:Nat}(f:i<4)(g:j<4)(e:Qh c i=Qh c j):i=j:=by
 obtain⟨a,b,h⟩:=Iq c 0;refine TB nA f g ?_;have e:(Qh c i).cps.toList=(Qh c j).cps.toList:=by rw[e]
 rw[h,h] at e;exact List.append_cancel_left (List.append_cancel_right e)
def Ir {c:Int}{i:Nat}(f:i<4){w:Str}(g:w.cps.toList.all (λc=>decide (97<=c))=true):Qh c i≠w:=λe=>by
 obtain⟨a,b,h⟩:=Iq c 0;obtain⟨d,j,l⟩:=VM.mp (sv ⟨i,f⟩);have m:d∈w.cps.toList:=by rw[<- e,h];exact VF _ (Uq _ j)
 have:=of_decide_eq_true (Ve.mp g d m);have:=of_decide_eq_true l;lia
def nL (c:Int)(ps:List Pl):Prop:=∀(k:Nat) q,ps[k]? = some q->q.name=Qh c k/\q.givens=(List.range q.givens.length).map λk=>Qh c (10+k)
def Bc:FS:=(ji (qb 2 (qN jc)) (ji (jL (iS (jb 1)) (.one 3) (ji (j3 4 (Qy [none,some 0] (yx (J0 (jf jt (jb 3) (dC (.int 1))) jc)) (.one 0) (J5 Kv (J0 (jb 1) (J0 (jf js (dC (.int 10)) (jb 0)) jc))))) (Q6 2 (YQ "Plan" ["name", "givens", "rows"] AW (J0 (jf jt (jb 3) (dC (.int 0))) (J0 (jb 4) (J0 (jq Qr (J0 (jf jt (jb 3) (dC (.int 2))) jc)) jc))))))) (λsd=>(j0 (YQ "Book" ["plans"] D4 (J0 (jb 2) jc))) (jS [2] sd))))
def Bd:YH->Res D:=qf 5 2 Bc
def gt {ns:Yh}(q:ns.length<=1000){ps:List Pl}(B:BkP ps)(N:nL (Qf ns 60) ps):Bd [.scr ns,.lst (ps.map jk)]=.ok (JE ps):=by
 obtain⟨sd',e,h,j,a⟩:=Ka (tg:=.one 3) (b:=ji (j3 4 (Qy [none,some 0] (yx (J0 (jf jt (jb 3) (dC (.int 1))) jc)) (.one 0) (J5 Kv (J0 (jb 1) (J0 (jf js (dC (.int 10)) (jb 0)) jc))))) (Q6 2 (YQ "Plan" ["name", "givens", "rows"] AW (J0 (jf jt (jb 3) (dC (.int 0))) (J0 (jb 4) (J0 (jq Qr (J0 (jf jt (jb 3) (dC (.int 2))) jc)) jc))))))
  (ds:=ps.map jk) (sd:=[some (.val (.scr ns)),some (.val (.lst (ps.map jk))),some (.own false (.lst [])),none,none])
  (P:=λi sd=>∃(h j:Option SV),sd=[some (.val (.scr ns)),some (.val (.lst (ps.map jk))),some (.own false (.lst ((ps.take i).map Qt))),h,j]) ⟨none,none,rfl⟩ (by
   rintro i x sd r ⟨h,j,rfl⟩;obtain⟨p,hp,rfl⟩:=QK r;have P:=B.ok i p hp;have H:=P.g2;have I:=P.r2;have J:=B.len;have K:=(Jc.mp hp).1;obtain⟨_,s⟩:=N i p hp;have t:Ko [.int (p.givens.length:Nat)]=.ok (JQ 0 p.givens.length):=by rw[KF () ()];rfl
   have o:qd (.one 0) (J5 Kv (J0 (jb 1) (J0 (jf js (dC (.int 10)) (jb 0)) jc))) [none,some (.val (.scr ns))] (JQ 0 p.givens.length)=.ok (p.givens.map .str):=by
    have m:=CI (tg:=.one 0) (f:=J5 Kv (J0 (jb 1) (J0 (jf js (dC (.int 10)) (jb 0)) jc))) (c:=[none,some (.val (.scr ns))]) (lo:=0) (n:=p.givens.length) (g:=λk=>.str (Qh (Qf ns 60) (10+k))) λk L=>by
     have u:=(Bb q (k:=10+k) (x:=10+(k:Int)) () ()).1;simp[u]
    rw[m]
    conv=>rhs;rw[s]
    rw[Zw];rfl
   have tk:ps.take (i+1)=ps.take i++[p]:=by rw[VC,hp];rfl
   have v:=yK p;have w:=we p;have y:=vG p;have z:=Qc (show p.givens.length<=1000 from ());have A:min i ps.length<sizeLine:=Qc ();have C:Qt p=.ins "Plan" ["name", "givens", "rows"] [.str p.name,.lst (p.givens.map .str),.lst (p.rows.map jF)]:=rfl;have E:AW [.str p.name,.lst (p.givens.map .str),.lst (p.rows.map jF)]=.ok [.str p.name,.lst (p.givens.map .str),.lst (p.rows.map jF)]:=rfl;refine⟨[some (.val (.scr ns)),some (.val (.lst (ps.map jk))),some (.own false (.lst ((ps.take (i+1)).map Qt))),some (.val (jk p)),some (.val (.lst (p.givens.map .str)))],?_,_,_,rfl⟩;rw[tk,Ud,List.map_singleton,C];generalize jk p=tp at *;generalize p.givens.map D.str=gd at *;generalize p.rows.map jF=rd at *;simp[v,w,y,t,o,Wr,z,A,E])
 rw[Zql,US] at a;subst a;have F:JE ps=.ins "Book" ["plans"] [.lst (ps.map Qt)]:=rfl;have G:∀l:YH,D4 [.lst l]=.ok [.lst l]:=λ_=>rfl;rw[F];generalize ps.map Qt=pd at *;generalize ps.map jk=td at *;simp[Bd,Bc,e,G]
def vr:FS:=(ji (jL (iS (jb 0)) (.tup [2,3]) (qi (zH (JD (jf (wv true) (jb 2) (jb 1))) (JD (jf v3 (jb 3) (jf jt (jb 1) (jb 2))))) (j0 (dC (.bl false))) JN)) (j0 (dC (.bl true))))
def vt:YH->Res D:=jE 4 2 vr
def mU {r o:Jy}(b:j8 o):vt [jz r,yp o]=.ok (.bl (JH r o)):=by
 refine A4 (R:=λz=>(z.bind (xD (j0 (dC (.bl true))))).bind xc=.ok (.bl (JH r o))) (P:=λi sd=>(∃u v,sd=[some (.val (jz r)),some (.val (yp o)),u,v])/\JH (r.take i) o=true) ⟨⟨none,none,rfl⟩,rfl⟩ ?_ ?_
 .simp
 .rintro i x sd e ⟨⟨u,v,rfl⟩,hu⟩;obtain⟨p,hp,rfl⟩:=QK e;have a:=CH b p.1;cases q:JC o p.1 with
  |none =>
   rw[q] at a;have z:xP o p=false:=by unfold xP;rw[q]
   rw[ED hp z];exact .inr (.inr ⟨.bl false,by simp[yp,a],()⟩)
  |some w =>
   rw[q] at a;by_cases c:w<p.2
   .have z:xP o p=false:=by unfold xP;exact by grind
    rw[ED hp z];exact .inr (.inr ⟨.bl false,by simp[yp,a,c],()⟩)
   .have z:xP o p=true:=by unfold xP;exact by grind
    exact .inl ⟨[some (.val (jz r)),some (.val (yp o)),some (.val (.int p.1)),some (.val (.int p.2))],.inl (by simp[yp,a,c]),⟨_,_,rfl⟩,NH hp hu z⟩
def wG:FS:=(ji (j3 2 (jq Xk (J0 (jb 0) jc))) (ji (jL (iS (jb 1)) (.one 3) (qi (JD (J5 vt (J0 (jb 3) (J0 (jb 2) jc)))) (j0 (dC (.bl true))) JN)) (j0 (dC (.bl false)))))
def xj:YH->Res D:=jE 4 2 wG
def gh {r:Jy}{ks:Jz}(a:j8 r)(c:r.length<=100):xj [jz r,jj ks]=.ok (.bl (ks.any λo=>JH o r)):=by
 simp[xj,wG,(Gh c a)];refine A4 (R:=λz=>(z.bind (xD (j0 (dC (.bl false))))).bind xc=.ok (.bl (ks.any λo=>JH o r))) (P:=λi sd=>(∃u,sd=[some (.val (jz r)),some (.val (jj ks)),some (.val (yp r)),u])/\∀o∈ks.take i,JH o r=false) () ?_ ?_
 .simp
 .rintro i x sd f ⟨⟨u,rfl⟩,hu⟩;obtain⟨o,hp,rfl⟩:=QK f;have b:=mU (r:=o) a;cases q:JH o r with
  |true =>
   have e:ks.any (λo=>JH o r)=true:=by grind
   simp_all
  |false =>
   rw[q] at b;refine .inl ⟨[some (.val (jz r)),some (.val (jj ks)),some (.val (yp r)),some (.val (jz o))],.inl (by simp[b]),⟨_,rfl⟩,λy g=>?_⟩;rw[Wg hp] at g
   grind
def wJ:FS:=(ji (qb 2 (jq Xk (J0 (jb 0) jc))) (ji (jL (iS (jb 1)) (.tup [3,4]) (Y0 2 (jb 3) (jq Az (J0 (jb 4) (J0 (xU [2] (A3 (jb 2) (jb 3) (jb 4))) jc))))) (λsd=>(j0 (jq WI (J0 (C6 (jb 2)) jc))) (jS [2] sd))))
def zn:YH->Res D:=jE 5 2 wJ
def Q7 (r o:Jy):Jy:=JV jV (Qn r o)
def mS {r o:Jy}(c:r ≠ [])(or:j8 r)(f:j8 o)(q:r.length<=20)(lo:o.length<=20):zn [jz r,jz o]=.ok (jz (Q7 r o)):=by
 have g:Xk [.tup (r.map qm)]=some (yp r):=Gh () or;simp[zn,wJ,g,jz];generalize h:Y0 2 _ _=b;obtain⟨sd',e,u,v,a⟩:=Ka (tg:=.tup [3,4]) (b:=b) (ds:=o.map qm) (sd:=[some (.val (.tup (r.map qm))),some (.val (.tup (o.map qm))),some (.own false (yp r)),none,none])
  (P:=λi sd=>∃u v,sd=[some (.val (.tup (r.map qm))),some (.val (.tup (o.map qm))),some (.own false (yp (Qn r (o.take i)))),u,v]) ⟨none,none,rfl⟩ (by
   rintro i x sd j ⟨u,v,rfl⟩;obtain⟨p,hp,rfl⟩:=QK j;have l:Qn r (o.take (i+1))=V0 (Qn r (o.take i)) p:=by
    rw[Wg hp];unfold Qn;rw[Vp];rfl
   have m:=Cd (o.take i) r;have s:(o.take i).length<=o.length:=by rw[Uv];lia
   have hz:=Qc (show(Qn r (o.take i)).length<=1000 by lia);have n:=CH (Aj (o.take i) r or) p.1;subst h;have es:V0 (Qn r (o.take i)) p=qD (Qn r (o.take i)) p.1 (if(JC (Qn r (o.take i)) p.1).getD p.2 > p.2 then(JC (Qn r (o.take i)) p.1).getD p.2 else p.2):=rfl;rw[l,es,<- (Pu (Qn r (o.take i)) p.1 (if(JC (Qn r (o.take i)) p.1).getD p.2 > p.2 then(JC (Qn r (o.take i)) p.1).getD p.2 else p.2))];simp[yp,n,hz])
 rw[e];subst a;have m:=Cd o r;simp[(Pv (Ft c f) ()),Q7]
def Be:FS:=(ji (qb 2 (jf De (Wq [none,some 1] (iS (jb 0)) (.one 0) (JD (J5 xj (J0 (jb 0) (J0 (jb 1) jc)))) (jb 0)) (Wq [none,some 0] (iS (jb 1)) (.one 0) (JD (J5 xj (J0 (jb 0) (J0 (jb 1) jc)))) (jb 0)))) (ji (j3 3 (Wq [none,some 0] (iS (jb 1)) (.one 0) (Qo (JD (J5 xj (J0 (jb 0) (J0 (jb 1) jc))))) (jb 0))) (ji (jL (iS (jb 0)) (.one 4) (qi (Qo (JD (J5 xj (J0 (jb 4) (J0 (jb 1) jc))))) (Xg 2 (Qy [none,some 4] (iS (jb 3)) (.one 0) (J5 zn (J0 (jb 1) (J0 (jb 0) jc))))) JN)) (Kg 2))))
def Z7:YH->Res D:=qf 5 2 Be
def Wa (f g:Jz):Jz:=f.flatMap λr=>g.map (Q7 r)
def wd {f g:Jz}{q:Jy}:q∈Wa f g↔∃r∈f,∃o∈g,Q7 r o=q:=by
 simp_all [Wa]
def tQ (f g:Jz):(Wa f g).length=f.length*g.length:=by
 unfold Wa
 induction f with
 |nil=>simp
 |cons r f a=>grind
def tJ {a b:Jy}(c:j8 a)(p:b.Perm a)(t:Int):JC b t=JC a t:=by
 cases h:JC a t with
 |some w=>exact(Fu (((p.map λz:Int×Int=>z.1).nodup_iff).mpr c)).mp (p.mem_iff.mpr (Qi h))
 |none =>
  cases e:JC b t with
  |none=>rfl
  |some w =>
   have:=(Fu c).mp (p.mem_iff.mp (Qi e))
   simp_all
def Bf {r o:Jy}(or:j8 r)(a:j8 o)(t:Int):JC (Q7 r o) t=jw (JC r t) (JC o t):=by
 rw[<- Ai t o r a];exact tJ (Aj o r or) (Q4 _) t
theorem X1 {r o:Jy}(a:JRow r)(b:JRow o):JRow (Q7 r o):=by
 have e:=Aj o r a.once;refine⟨λz=>(Ft a.ne b.once) ?_,?_,λp hp=>?_⟩
 .have:=(Q4 (ltb:=jV) (Qn r o)).length_eq
  grind[Q7,List.length_nil]
 .unfold qF Q7;have i:(JV jV (Qn r o)).Pairwise λx y=>x.1≠y.1:=by
   grind[j8,List.Nodup,List.pairwise_map,Q4]
  rw[U4];refine(List.Pairwise.and (O1 e) i).imp λ{x y} h=>?_
  grind[W6]
 .have c:=e.look ((Q4 (Qn r o)).mem_iff.mp hp);rw[Ai p.1 o r b.once] at c;cases f:JC r p.1 with
  |some w=>exact a.bnd (p.1,w) (Qi f)
  |none =>
   cases g:JC o p.1 with
   |some w=>exact b.bnd (p.1,w) (Qi g)
   |none=>rw[f,g] at c;cases c
def Iu {r o:Jy}(a:JRow r)(b:JRow o):JH r (Q7 r o)=true:=by
 rw[yJ];intro p hp;rw[Bf a.once b.once,(a.once.look hp)];cases JC o p.1 with
 |none=>exact⟨p.2,rfl,U5 _⟩
 |some y=>exact⟨_,rfl,by split<;>lia⟩
def Iv {r o:Jy}(b:JRow r)(a:JRow o):JH o (Q7 r o)=true:=by
 rw[yJ];intro p hp;rw[Bf b.once a.once,(a.once.look hp)];cases JC r p.1 with
 |none=>exact⟨p.2,rfl,U5 _⟩
 |some y=>exact⟨_,rfl,by split<;>lia⟩
def D9 {r o q:Jy}(j:JRow r)(l:JRow o)(g:JH r q=true)(h:JH o q=true):JH (Q7 r o) q=true:=by
 rw[yJ] at g h ⊢;intro p hp;have c:=(X1 j l).once.look hp;rw[Bf j.once l.once] at c;cases f:JC r p.1 with
 |none =>
  rw[f] at c;exact h p (Qi c)
 |some x =>
  cases i:JC o p.1 with
  |none =>
   rw[f,i] at c;cases c;exact g (p.1,p.2) (Qi f)
  |some y =>
   rw[f,i] at c;obtain⟨w,n,a⟩:=g (p.1,x) (Qi f);obtain⟨s,m,b⟩:=h (p.1,y) (Qi i);have e:=Zqi c
   grind
def jM (g:Jz)(r:Jy):Bool:=g.any λo=>JH o r
def nV {g:Jz}{r:Jy}:jM g r=true↔∃o∈g,JH o r=true:=VM
def Kc (f g:Jz)(l:Jz):Jz:=(l.filter λr => !jM g r).flatMap λr=>(g.filter λo => !jM f o).map (Q7 r)
def K6 (f g:Jz):Jz:=(f.filter (jM g)++g.filter (jM f))++Kc f g f
def Iw (f g l:Jz):(Kc f g l).length=(l.filter λr => !jM g r).length*(g.filter λo => !jM f o).length:=by
 unfold Kc;generalize l.filter (λr => !jM g r)=a
 induction a with
 |nil=>simp
 |cons r a b=>grind
theorem Bg {α: Type}(p:α -> Bool):∀l:List α,(l.filter p).length+(l.filter λx => !p x).length=l.length
 | []=>rfl
 |x::l=>by
  have:=Bg p l
  grind
def Ix {f g:Jz}(a:∀r∈f,JRow r)(b:∀r∈g,JRow r):∀q∈K6 f g,JRow q:=λq hq=>by
 rcases Jb.mp hq with hq|hq
 .grind
 .obtain⟨r,c,hq⟩:=List.mem_flatMap.mp hq
  grind[X1]
def t6 {f g:Jz}(e:∀r∈f,JRow r)(h:∀r∈g,JRow r)(q:Jy):(∃x∈K6 f g,JH x q=true)↔(∃x∈Wa f g,JH x q=true):=by
 constructor
 .rintro⟨x,hx,a⟩;rcases Jb.mp hx with hx|hx
  .rcases Jb.mp hx with hx|hx
   .obtain⟨hx,i⟩:=Jf.mp hx;obtain⟨o,b,c⟩:=nV.mp i;exact⟨Q7 x o,wd.mpr (),D9 (e x hx) (h o b) a (Kt c a)⟩
   .obtain⟨hx,i⟩:=Jf.mp hx;obtain⟨o,b,c⟩:=nV.mp i;exact⟨Q7 o x,wd.mpr ⟨o,b,x,hx,rfl⟩,D9 (e o b) (h x hx) (Kt c a) a⟩
  .obtain⟨r,j,hx⟩:=List.mem_flatMap.mp hx;exact⟨_,wd.mpr (),a⟩
 .rintro⟨x,hx,a⟩;obtain⟨r,j,o,b,rfl⟩:=wd.mp hx;have l:=Kt (Iu (e r j) (h o b)) a;have m:=Kt (Iv (e r j) (h o b)) a
  grind[K6,Kc]
def g0 {f g:Jz}(l:∀r∈f,JRow r)(t:∀r∈g,JRow r)(F:f.length+g.length+f.length*g.length<=1000):Z7 [jj f,jj g]=.ok (jj (K6 f g)):=by
 have m:∀(ks:Jz) (r:Jy),JRow r->xj [jz r,jj ks]=.ok (.bl (jM ks r)):=λks r h=>gh h.once (by have:=h.len;lia);have z:KE (.one 0) (JD (J5 xj (J0 (jb 0) (J0 (jb 1) jc)))) (jb 0) [none,some (.val (jj g))] (f.map jz)=.ok ((f.filter (jM g)).map jz):=
  A5 (s:=λr=>[some (.val (jz r)),some (.val (jj g))]) (λr _=>rfl) (λr j=>by simp[m g r (l r j)]) ()
 have m2:KE (.one 0) (JD (J5 xj (J0 (jb 0) (J0 (jb 1) jc)))) (jb 0) [none,some (.val (jj f))] (g.map jz)=.ok ((g.filter (jM f)).map jz):=
  A5 (s:=λr=>[some (.val (jz r)),some (.val (jj f))]) (λr _=>rfl) (λr j=>by simp[m f r (t r j)]) ()
 have u:KE (.one 0) (Qo (JD (J5 xj (J0 (jb 0) (J0 (jb 1) jc))))) (jb 0) [none,some (.val (jj f))] (g.map jz)=.ok ((g.filter λo => !jM f o).map jz):=
  A5 (s:=λr=>[some (.val (jz r)),some (.val (jj f))]) (λr _=>rfl) (λr j=>by simp[m f r (t r j)]) ()
 have O:=Bg (jM g) f;have G:=Bg (jM f) g;have a:∀o∈g.filter (λo => !jM f o),JRow o:=λo n=>t o (Jf.mp n).1;have B:K6 f g=(f.filter (jM g)++g.filter (jM f))++Kc f g f:=rfl;have bl:∀i,(Kc f g (f.take i)).length<=min i f.length*g.length:=λi=>by
  rw[Iw];refine Nat.mul_le_mul ?_ (VD _ _);have:=VD (λr => !jM g r) (f.take i);rw[Uv] at this;exact this
 have C:∀(i:Nat) (r:Jy),f[i]? = some r->Kc f g (f.take (i+1))=Kc f g (f.take i)++(if jM g r=true then[] else(g.filter λo => !jM f o).map (Q7 r)):=λi r j=>by
  unfold Kc;rw[Wg j,List.filter_append,List.flatMap_append];cases c:jM g r with
  |true=>rw[List.filter_cons_of_neg (by rw[c];simp),Zd rfl];rfl
  |false=>rw[List.filter_cons_of_pos (by rw[c];rfl),Ze Zj];simp
 generalize Q:(g.filter λo => !jM f o)=rest at u a C G;have R:rest.length<=g.length:=()
 generalize E:f.filter (jM g)++g.filter (jM f)=A at B;have S:A.length<=f.length+g.length:=by rw[<- E,Ub];lia
 have H:(f.filter (jM g)).length+(g.filter (jM f)).length<=sizeLine:=QY ();have I:(f.filter (jM g)).map jz++(g.filter (jM f)).map jz=A.map jz:=by rw[<- E,Ud]
 obtain⟨sd',e,v,w⟩:=Ka (tg:=.one 4) (b:=(qi (Qo (JD (J5 xj (J0 (jb 4) (J0 (jb 1) jc))))) (Xg 2 (Qy [none,some 4] (iS (jb 3)) (.one 0) (J5 zn (J0 (jb 1) (J0 (jb 0) jc))))) JN)) (ds:=f.map jz) (sd:=[some (.val (jj f)),some (.val (jj g)),some (.own false (.lst (A.map jz))),some (.val (.lst (rest.map jz))),none])
  (P:=λi sd=>∃(v:Option SV),sd=[some (.val (jj f)),some (.val (jj g)),some (.own false (.lst ((A++Kc f g (f.take i)).map jz))),some (.val (.lst (rest.map jz))),v]) ⟨none,by rw[List.take_zero];simp[Kc]⟩ (by
   rintro i x sd J ⟨v,rfl⟩;obtain⟨r,j,rfl⟩:=QK J;have T:=(Jc.mp j).1;have p:=Uf j;have q:=m g r (l r p);have U:=bl i;have b1:(min i f.length+1)*g.length<=f.length*g.length:=Nat.mul_le_mul () (Zf _);rw[Nat.succ_mul] at b1;rw[C i r j];cases c:jM g r with
   |true =>
    rw[c] at q;rw[Zd rfl,ZA];exact⟨[some (.val (jj f)),some (.val (jj g)),some (.own false (.lst ((A++Kc f g (f.take i)).map jz))),some (.val (.lst (rest.map jz))),some (.val (jz r))],by simp[q],_,rfl⟩
   |false =>
    rw[c] at q;rw[Ze Zj];have y:qd (.one 0) (J5 zn (J0 (jb 1) (J0 (jb 0) jc))) [none,some (.val (jz r))] (rest.map jz)=.ok (rest.map λo=>jz (Q7 r o)):=K4 λo n=>by
     have F:=(l r p).len;have X:=(a o n).len;simp[mS (l r p).ne (l r p).once (a o n).once () ()]
    have K:(rest.map (Q7 r)).map jz=rest.map λo=>jz (Q7 r o):=by rw[Zw];rfl
    have sz:(A++Kc f g (f.take i)).length+rest.length<=sizeLine:=QY (by rw[Ub];lia);have L:=Qc (show rest.length<=1000 from ());refine⟨[some (.val (jj f)),some (.val (jj g)),some (.own false (.lst ((A++(Kc f g (f.take i)++rest.map (Q7 r))).map jz))),some (.val (.lst (rest.map jz))),some (.val (jz r))],?_,_,rfl⟩;rw[<- Uh];generalize A++Kc f g (f.take i)=acc at sz ⊢;rw[Ud,K];simp[q,y,L,sz])
 subst w;rw[Zql,US] at e;have M:=Qc (show f.length<=1000 from ());have N:=Qc (show g.length<=1000 from ());rw[B];simp[jj] at z m2 u e ⊢;simp[Z7,Be,z,m2,u,M,N,H,I,e]
def wH:FS:=(ji (qb 2 (qN jc)) (ji (jL (iS (jq Y9 (J0 (jq Y8 (J0 (jb 0) jc)) jc))) (.one 3) (ji (qi (JD (jf xm (xU [2] (jq jO (J0 (jb 2) jc))) (jb 1))) vf JN) (qi (Qo (JD (xU [2] (J5 xj (J0 (jb 3) (J0 (jb 2) jc)))))) (Q6 2 (jb 3)) JN))) (Kg 2)))
def wL:YH->Res D:=qf 4 2 wH
def df (rs):(JV j9 (qL rs)).Pairwise λa b=>j9 a b=true:=YS xM (Hf rs)
def da {rs:Jz}{en:Int}(ne:∀r∈rs,r ≠ [])(l:∀r∈rs,qF r)(m:∀r∈rs,r.length<=100)(t:rs.length<1000)(H:0<=en):wL [jj rs,.int en]=.ok (jj ((x9 rs).take en.toNat)):=by
 have dl:=Hg rs;have v:Y8 [jj rs]=some (.lst ((JV j9 (qL rs)).map jz)):=RX ne () ();have I:(JV j9 (qL rs)).length=(qL rs).length:=(Q4 (ltb:=j9) _).length_eq;have w:Y9 [.lst ((JV j9 (qL rs)).map jz)]=some (.lst ((qR rs).map jz)):=Si (df rs) () λr y=>by
  have:=m r (bC.mp ((Q4 (ltb:=j9) _).mem_iff.mp y));lia
 have c:=HY l;have n:∀r,r∈qR rs->r∈rs:=λr h=>fH.mp h;have A:=HX rs;have B:x9 rs=(qR rs).filter (qg rs):=rfl;rw[B];simp[wL,wH,v,w];generalize qR rs=L at c n A;refine A4 (R:=λz=>(z.bind (xD (Kg 2))).bind yd=.ok (jj ((L.filter (qg rs)).take en.toNat))) (P:=λi sd=>i<=L.length/\(((L.take i).filter (qg rs)).length:Int)<=en/\∃u,sd=[some (.val (jj rs)),some (.val (.int en)),some (.own false (.lst (((L.take i).filter (qg rs)).map jz))),u]) ⟨Ua _,(),none,rfl⟩ ?_ ?_
 .rintro sd ⟨_,le,u,rfl⟩;rw[Zql,US] at le ⊢;rw[UV ()];rfl
 .rintro i x sd C ⟨_,le,u,rfl⟩;obtain⟨r,hp,rfl⟩:=QK C;have J:=(Jc.mp hp).1;have j:=c (i+1) ();rw[Wg hp,Vp,c i (),<- Wg hp] at j;have j:yZ ((L.take i).filter (qg rs)) r=(L.take (i+1)).filter (qg rs):=j;have E:((L.take i).filter (qg rs)).length<=i:=by
   have a:=VD (qg rs) (L.take i);rw[Uv] at a;lia
  rw[<- j];have p:=n r (Uf hp);have f:=gh (r:=r) (ks:=(L.take i).filter (qg rs)) (AS (l r p)) (m r p);have e:L.filter (qg rs)=(L.take i).filter (qg rs)++(L.drop i).filter (qg rs):=by rw[<- List.filter_append,UK]
  generalize (L.take i).filter (qg rs)=ks at E f le e;have f:xj [jz r,.lst (ks.map jz)]=.ok (.bl (ks.any λo=>JH o r)):=f;have hz:=Qc (show ks.length<=1000 from ());by_cases g:(ks.length:Int)=en
  .have F:(L.filter (qg rs)).take en.toNat=ks:=by
    rw[e,List.take_left' ()]
   refine .inr (.inl ⟨[some (.val (jj rs)),some (.val (.int en)),some (.own false (.lst (ks.map jz))),some (.val (jz r))],by simp[g],?_⟩);rw[F];simp[jj]
  .have s:∀b,(ks.any λo=>JH o r)=b->yZ ks r=if b=true then ks else ks++[r]:=λb G=>by unfold yZ;rw[G]
   cases q:ks.any λo=>JH o r with
   |true =>
    rw[q] at f;rw[s true q,Zd rfl];exact .inl ⟨[some (.val (jj rs)),some (.val (.int en)),some (.own false (.lst (ks.map jz))),some (.val (jz r))],.inl (by simp[g,f]),(),le,_,rfl⟩
   |false =>
    rw[q] at f;rw[s false q,Ze Zj];exact .inl ⟨[some (.val (jj rs)),some (.val (.int en)),some (.own false (.lst ((ks++[r]).map jz))),some (.val (jz r))],.inl (by simp[g,f,hz]),(),(by rw[Ub,Ur];lia),_,rfl⟩
def Z8:FS:=(ji (j3 2 (Ki wL (J0 (jb 0) (J0 (jf js (jb 1) (dC (.int 1))) jc)))) (ji (qi (JD (jf v3 (jq jO (J0 (jb 2) jc)) (jb 1))) (AF "TooMany" (qM (ww "more than ") (jb 1))) JN) (j0 (jq Xn (J0 (jb 2) jc)))))
def QC:YH->Res D:=qf 3 2 Z8
def t5 (rs:Jz):(x9 rs).length=(JY rs).length:=by
 rw[<- HZ,(Q4 _).length_eq]
def jR (most:Int)(t:Jz):Option Jz:=if(t.length:Int)<=most then some t else none
def xp:Option Jz->Res D
 |some t=>.ok (jj t)
 |none=>.ex "TooMany" []
def DA {rs:Jz}{most:Int}(ne:∀r∈rs,r ≠ [])(h:∀r∈rs,qF r)(i:∀r∈rs,r.length<=100)(e:rs.length<1000)(m:0<=most)(j:most<=1000):QC [jj rs,.int most]=xp (jR most (JY rs)):=by
 have f:=da (en:=most+1) ne h i e ();have n:(x9 rs).length<=rs.length:=Zh (VD _ _) (HX rs);have o:=t5 rs;unfold jR;by_cases c:((JY rs).length:Int)<=most
 .rw[Zd c];rw[UV ()] at f;have b:Xn [jj (x9 rs)]=some (.lst ((JV j9 (x9 rs)).map jz)):=Tp (λr l=>ne r (fH.mp (Jf.mp l).1)) ();rw[HZ] at b;have b:Xn [jj (x9 rs)]=some (jj (JY rs)):=b;have g:¬most<((x9 rs).length:Int):=()
  show _=Res.ok (jj (JY rs));simp[QC,Z8,f,g,b]
 .rw[Ze c];have g:most<(((x9 rs).take (most+1).toNat).length:Int):=by
   grind
  have ⟨z,hz⟩:=Sr (x:= "more than ") (a:=most) () ();show _=Res.ex "TooMany" []
  simp_all [QC,Z8]
def zR:FS:=(ji (j3 2 (J5 QC (J0 (jf jt (jb 0) (dC (.int 0))) (J0 (jb 1) jc)))) (ji (jL (iS (bu (jb 0) (A6 (dC (.int 1))) Xm Xm)) (.one 3) (j3 2 (J5 QC (J0 (Ki Z7 (J0 (jb 2) (J0 (jb 3) jc))) (J0 (jb 1) jc))))) (j0 (jb 2))))
def xG:YH->Res D:=jE 4 2 zR
def K7 (t f:Jz):Jz:=JY (Wa t f)
structure AllOk (fs:List Jz)(t:Jz):Prop where
 row:∀r∈t,JRow r
 abv:∀r∈t,∀f∈fs,∃s∈f,JH s r=true
 least:∀q:Jy,(∀f∈fs,∃s∈f,JH s q=true)->∃r∈t,JH r q=true
 anti:∀r∈t,∀s∈t,JH r s=true->r=s
 strict:t.Pairwise λa b=>j9 a b=true
def DB {r:Jy}(o:j8 r):JH r r=true:=yJ.mpr λp hp=>⟨p.2,o.look hp,U5 _⟩
def DC {rs:Jz}:∀r∈JY rs,∀s∈JY rs,JH r s=true->r=s:=λr a s hs b=>wc.mp (x8.mp hs).2 r (x8.mp a).1 b
def Iy {f:Jz}(h:∀r∈f,JRow r):AllOk [f] (JY f):=by
 refine⟨λr a=>h r (x8.mp a).1,λr a g c=>?_,λq e=>?_,DC,Ww f⟩
 .rw[Jd.mp c];exact⟨r,(x8.mp a).1,DB (h r (x8.mp a).1).once⟩
 .obtain⟨s,hs,i⟩:=e f ();obtain⟨r,a,b⟩:=Xw (λr a=>⟨(h r a).once,(h r a).rise⟩) hs;exact⟨r,a,Kt b i⟩
def Iz {fs:List Jz}{t f:Jz}(A:AllOk fs t)(h:∀r∈f,JRow r):AllOk (fs++[f]) (K7 t f):=by
 have b:∀q∈Wa t f,JRow q:=λq e=>by
  obtain⟨r,a,o,c,rfl⟩:=wd.mp e;exact X1 (A.row r a) (h o c)
 refine⟨λr a=>b r (x8.mp a).1,λq e g m=>?_,λq e=>?_,DC,Ww _⟩
 .obtain⟨r,a,o,c,rfl⟩:=wd.mp (x8.mp e).1;rcases Jb.mp m with z|z
  .obtain⟨s,hs,i⟩:=A.abv r a g z;exact⟨s,hs,Kt i (Iu (A.row r a) (h o c))⟩
  .rw[Jd.mp z];exact⟨o,c,Iv (A.row r a) (h o c)⟩
 .obtain⟨r,a,i⟩:=A.least q λg m=>e g ();obtain⟨o,c,j⟩:=e f ();obtain⟨s,hs,l⟩:=Xw (λr a=>⟨(b r a).once,(b r a).rise⟩) (wd.mpr ⟨r,a,o,c,rfl⟩);exact⟨s,hs,Kt l (D9 (A.row r a) (h o c) i j)⟩
def DE {rs:Jz}(h:∀r∈rs,JRow r)(b:rs ≠ []):JY rs ≠ []:=λz=>by
 cases rs with
 |nil=>exact b rfl
 |cons r rs =>
  obtain⟨s,hs,_⟩:=Xw (λr a=>⟨(h r a).once,(h r a).rise⟩) (Zqs)
  simp_all
def t9 {f g:Jz}(a:f ≠ [])(b:g ≠ []):Wa f g ≠ []:=λz=>by
 have:=tQ f g;rw[z,ZC] at this;have:=Nat.mul_pos (Jv.mpr a) (Jv.mpr b);lia
def I1 {a b:Jz}(i:∀r∈a,JRow r)(e:∀r∈b,JRow r)(h:∀q,(∃x∈a,JH x q=true)↔∃x∈b,JH x q=true):JY a=JY b:=by
 have f:∀{a b:Jz},(∀r∈a,JRow r)->(∀r∈b,JRow r)->(∀q,(∃x∈a,JH x q=true)↔∃x∈b,JH x q=true)->∀r,r∈JY a->r∈JY b:=by
  intro a b i e h r l;obtain⟨m,s⟩:=x8.mp l;obtain⟨y,t,u⟩:=(h r).mp ⟨r,m,DB (i r m).once⟩;obtain⟨j,n,o⟩:=Xw (λr l=>⟨(e r l).once,(e r l).rise⟩) t;have c:=(x8.mp n).1;have p:=Kt o u;obtain⟨x,v,g⟩:=(h j).mpr ⟨j,c,DB (e j c).once⟩;rw[(wc.mp s x v (Kt g p))] at g
  rwa [HQ (i r m).once (e j c).once (i r m).rise (e j c).rise g p]
 exact W9 xM (Ww a) (Ww b) λr=>⟨f i e h r,f e i (λq=>(h q).symm) r⟩
def IA {f g:Jz}(a:∀r∈f,JRow r)(b:∀r∈g,JRow r):∀q∈Wa f g,JRow q:=λq c=>by
 obtain⟨r,e,o,h,rfl⟩:=wd.mp c;exact X1 (a r e) (b o h)
def tE {t g:Jz}(a:∀r∈t,JRow r)(b:∀r∈g,JRow r):JY (K6 t g)=K7 t g:=I1 (Ix a b) (IA a b) (t6 a b)
def xt (most:Int):Jz->List Jz->Option Jz
 |t,[]=>some t
 |t,g::gs=>(jR most (K7 t g)).bind λt'=>xt most t' gs
def IB (most)(t g)(gs):xt most t (g::gs)=(jR most (K7 t g)).bind λt'=>xt most t' gs:=rfl
def xV (most:Int)(f:Jz)(fs:List Jz):Option Jz:=(jR most (JY f)).bind λt=>xt most t fs
def WQ {most:Int}{t t':Jz}(h:jR most t=some t'):t'=t/\(t.length:Int)<=most:=by
 grind[jR]
def tG {t g:Jz}(a:∀r∈t,JRow r)(b:∀r∈g,JRow r)(c:t ≠ [])(e:g ≠ []):K7 t g ≠ []:=DE (IA a b) (t9 c e)
theorem IC {most:Int}:∀{a fs:List Jz} {t t':Jz},AllOk fs t->(t.length:Int)<=most->t ≠ []->(∀g∈a,g ≠ []/\∀r∈g,JRow r)->xt most t a=some t'->AllOk (fs++a) t'/\(t'.length:Int)<=most/\t' ≠ []
 | [],fs,t,t',A,hl,hn,_,h=>by
  cases h
  simp_all
 |g::a,fs,t,t',A,hl,hn,hg,h=>by
  unfold xt at h;cases q:jR most (K7 t g) with
  |none=>simp_all
  |some i =>
   rw[q] at h;obtain⟨e,c⟩:=WQ q;have b:=hg g Zqs;have:=IC (Iz A b.2) c (tG A.row b.2 hn b.1) (λx f=>hg x (Zqm _ f)) (by rwa [<- e])
   simp_all
def HA (a:f ≠ []/\∀r∈f,JRow r)(b:∀g∈fs,g ≠ []/\∀r∈g,JRow r)(h:xV most f fs=some t):AllOk (f::fs) t/\(t.length:Int)<=most/\t ≠ []:=by
 unfold xV at h;cases q:jR most (JY f) with
 |none=>simp_all
 |some i =>
  rw[q] at h;obtain⟨e,c⟩:=WQ q;exact IC (Iy a.2) c (DE a.2 a.1) b (by rwa [<- e])
def db {f:Jz}{fs:List Jz}{most:Int}(o:f ≠ []/\∀r∈f,JRow r)(c:∀g∈fs,g ≠ []/\∀r∈g,JRow r)(u:f.length<1000)(B:0<=most)(m2:most<=1000)(M:fs.length<=900)
 (sz:∀(i:Nat) (t g:Jz),AllOk (f::fs.take i) t->(t.length:Int)<=most->fs[i]? = some g->(K6 t g).length<1000/\t.length+g.length+t.length*g.length<=1000):
 xG [.lst ((f::fs).map jj),.int most]=xp (xV most f fs):=by
 have h:=DA (rs:=f) (most:=most) (λr a=>(o.2 r a).ne) (λr a=>(o.2 r a).rise) (λr a=>by have:=(o.2 r a).len;lia) u B m2;have p:jX ((f::fs).map jj) 0=some (jj f):=by
  rw[show((0:Int))=((0:Nat):Int) from rfl,KU ()];rfl
 have G:Qs (jj f::fs.map jj) (some 1) none none=fs.map jj:=by
  rw[HR _ ()];rfl
 unfold xV;cases q:jR most (JY f) with
 |none =>
  rw[q] at h;have h:QC [jj f,.int most]=.ex "TooMany" []:=h;show _=Res.ex "TooMany" [];simp[xG,zR] at p ⊢;simp[p,h]
 |some l =>
  rw[q] at h;obtain⟨H,N⟩:=WQ q;have h:QC [jj f,.int most]=.ok (jj l):=h;show _=xp (xt most l fs);have O:AllOk [f] l:=by rw[H];exact Iy o.2
  have n:((q9 (.one 3) (j3 2 (J5 QC (J0 (Ki Z7 (J0 (jb 2) (J0 (jb 3) jc))) (J0 (jb 1) jc)))) (fs.map jj) [some (.val (.lst ((f::fs).map jj))),some (.val (.int most)),some (.val (jj l)),none]).bind (xD (j0 (jb 2)))).bind xc=xp (xt most l fs):=by
   refine Hm (R:=λz=>(z.bind (xD (j0 (jb 2)))).bind xc=xp (xt most l fs)) (P:=λi sd=>∃(t:Jz) (v:Option SV),sd=[some (.val (.lst ((f::fs).map jj))),some (.val (.int most)),some (.val (jj t)),v]/\AllOk (f::fs.take i) t/\(t.length:Int)<=most/\xt most t (fs.drop i)=xt most l fs) () ?_ ?_
   .rintro sd ⟨t,v,rfl,A,lt,j⟩;rw[Zql,Va] at j;rw[<- j];simp[xp,xt]
   .rintro i x sd I ⟨t,v,rfl,A,lt,j⟩;obtain⟨g,m,rfl⟩:=QK I;have C:=(Jc.mp m).1;have s:=Uf m;obtain⟨J,K⟩:=sz i t g A lt m;have E:=g0 (f:=t) (g:=g) A.row (c g s).2 K;have b:=Ix A.row (c g s).2;have e:=DA (rs:=K6 t g) (most:=most) (λr a=>(b r a).ne) (λr a=>(b r a).rise) (λr a=>by have:=(b r a).len;lia) J B m2;rw[tE A.row (c g s).2] at e;have L:fs.drop i=g::fs.drop (i+1):=by
     rw[Ut C];rw[Zqg C] at m;rw[Zqi m]
    rw[L,IB] at j;cases y:jR most (K7 t g) with
    |none =>
     rw[y] at e j;have e:QC [jj (K6 t g),.int most]=.ex "TooMany" []:=e;refine .inr ⟨"TooMany",[],by simp[E,e],?_⟩;rw[<- j];rfl
    |some w =>
     rw[y] at e j;obtain⟨F,u⟩:=WQ y;have e:QC [jj (K6 t g),.int most]=.ok (jj w):=e;refine .inl ⟨[some (.val (.lst ((f::fs).map jj))),some (.val (.int most)),some (.val (jj w)),some (.val (jj g))],by simp[E,e],w,_,rfl,?_,by rw[F];exact u,j⟩;rw[Wg m,F];exact Iz A (c g s).2
  simp[xG,zR] at p n ⊢;simp[p,h,G,n]
def t7 {f g:Jz}(b:g ≠ []):(K6 f g).length<=f.length*g.length+g.length:=by
 unfold K6;rw[Ub,Ub,Iw];have a:=Bg (jM g) f;have p:0<g.length:=by grind
 have d:=Nat.mul_le_mul (Zf (f.filter λr => !jM g r).length) (VD (λo => !jM f o) g);have e:=Nat.le_mul_of_pos_right (f.filter (jM g)).length p
 grind[Nat.add_mul]
def zS:FS:=(ji (qb 2 (J5 QC (J0 (jf jt (jb 0) (dC (.int 0))) (J0 (jb 1) jc)))) (ji (jL (iS (bu (jb 0) (A6 (dC (.int 1))) Xm Xm)) (.one 3) (λsd=>(qb 2 (J5 QC (J0 (jf js (jb 2) (jb 3)) (J0 (jb 1) jc)))) (jS [2] sd))) (Kg 2)))
def ya:YH->Res D:=qf 4 2 zS
def yU (most:Int):Jz->List Jz->Option Jz
 |t,[]=>jR most t
 |t,g::gs=>(jR most t).bind λ_=>yU most (xl t g) gs
def ID {most:Int}{t:Jz}(h:jR most t=none)(a):yU most t a=none:=by
 cases a with
 |nil=>exact h
 |cons g a=>show(jR most t).bind _=none;rw[h];rfl
def Bh {most:Int}{t:Jz}(h:(t.length:Int)<=most):jR most t=some t:=Zd h
def IE {most:Int}{t:Jz}(h:most<(t.length:Int)):jR most t=none:=Ze ()
def wI:FS:=(j0 (jq WI (J0 (Qy [none,none,some 1] (iS (jb 0)) (.tup [0,1]) (xA (J0 (jb 0) (J0 (jf js (jb 1) (jb 2)) jc)))) jc)))
def zT:YH->Res D:=jE 2 2 wI
def Q2 (r:Jy)(w:Int):Jy:=r.map λp=>(p.1,p.2+w)
def mR {r:Jy}{w:Int}(b:r.length<=1000):zT [jz r,.int w]=.ok (jz (Q2 r w)):=by
 have a:qd (.tup [0,1]) (xA (J0 (jb 0) (J0 (jf js (jb 1) (jb 2)) jc))) [none,none,some (.val (.int w))] (r.map qm)=.ok (r.map λp=>qm (p.1,p.2+w)):=K4 λp hp=>by
  rfl
 simp[zT,wI,jz,a,Qc b,Q2]
def wF:FS:=(j0 (Qy [none,some 1] (iS (jb 0)) (.one 0) (J5 zT (J0 (jb 0) (J0 (jb 1) jc)))))
def yD:YH->Res D:=qf 2 2 wF
def Ql (f:Jz)(w:Int):Jz:=f.map λr=>Q2 r w
def gg {f:Jz}{w:Int}(b:f.length<=1000)(c:∀r∈f,r.length<=1000):yD [jj f,.int w]=.ok (jj (Ql f w)):=by
 have a:qd (.one 0) (J5 zT (J0 (jb 0) (J0 (jb 1) jc))) [none,some (.val (.int w))] (f.map jz)=.ok (f.map λr=>jz (Q2 r w)):=K4 λr h=>by
  simp[mR (c r h)]
 have e:(Ql f w).map jz=f.map λr=>jz (Q2 r w):=by unfold Ql;simp
 simp[yD,wF,jj,a,Qc b,e]
def Bi:FS:=(j0 (J5 xG (J0 (Qy [none,none,some 1] (iS (jb 0)) (.tup [0,1]) (Ki yD (J0 (jf jt (jb 2) (jb 0)) (J0 (jb 1) jc)))) (J0 (jb 2) jc))))
def Kj:YH->Res D:=jE 3 3 Bi
def qu (fs:List Jz)(t:Int):Jz:=fs.getD t.toNat []
def Bj {fs:List Jz}{t:Int}(a:0<=t)(b:t<(fs.length:Int)):qu fs t∈fs:=by
 simp_all [qu]
def IF {fs:List Jz}{t:Int}(a:0<=t)(b:t<(fs.length:Int)):jX (fs.map jj) t=some (jj (qu fs t)):=by
 grind[Zql,List.getElem?_map,qu,KU]
def tU {r:Jy}{fs:List Jz}(c:∀p∈r,0<=p.1/\p.1<(fs.length:Int))(e:∀f∈fs,f.length<=1000/\∀r∈f,r.length<=1000):
 qd (.tup [0,1]) (Ki yD (J0 (jf jt (jb 2) (jb 0)) (J0 (jb 1) jc))) [none,none,some (.val (.lst (fs.map jj)))] (r.map qm)=.ok ((r.map λp=>Ql (qu fs p.1) p.2).map jj):=by
 rw[Zw];exact K4 λp hp=>by
  obtain⟨a,b⟩:=c p hp;obtain⟨g,h⟩:=e _ (Bj a b);simp[(IF a b),(gg g h)]
def zm:FS:=(j0 (J5 ya (J0 (Qy [none,some 1,some 2] (iS (jb 0)) (.one 0) (J5 Kj (J0 (jb 0) (J0 (jb 1) (J0 (jb 2) jc))))) (J0 (jb 2) jc))))
def xB:YH->Res D:=qf 3 3 zm
def mQ {a:Jz}{fs:List Jz}{most:Int}{g:Jy->Jz}{d:D}(c:a.length<=100)
 (e:∀r∈a,Kj [jz r,.lst (fs.map jj),.int most]=.ok (jj (g r))) (h:ya [.lst ((a.map g).map jj),.int most]=.ok d):xB [jj a,.lst (fs.map jj),.int most]=.ok d:=by
 have b:qd (.one 0) (J5 Kj (J0 (jb 0) (J0 (jb 1) (J0 (jb 2) jc)))) [none,some (.val (.lst (fs.map jj))),some (.val (.int most))] (a.map jz)=.ok ((a.map g).map jj):=by
  rw[Zw];exact K4 λr h=>by
   simp_all
 have hz:=Qc (show a.length<=1000 from ())
 simp_all [xB,zm]
def Wb (a:YH->HP->Res (D×HP)):qy:=(bt (zy (JD (jf xm (jb 1) (dC (.str "all"))))) (zr (J5 xG (J0 (jb 2) (J0 (jb 3) jc)))) (bt (zy (JD (jf xm (jb 1) (dC (.str "first"))))) (zr (J5 ya (J0 (jb 2) (J0 (jb 3) jc)))) (y8 (z9 (wm [4] (JD (jf (wv true) (jb 1) (jb 4)))) (AN (jb 4) (jb 1) (zx wu (V7 a (J0 (jb 0) (J0 (jb 1) (J0 (jb 3) (J0 (jb 4) jc))))) (zr (qM qT (dC (.int 1)))))) Dj) (AM xB (Wu (zz (jb 4) (jb 1)) (Wu (zr (jb 2)) (Wu (zr (jb 3)) AJ)))))))
def vq:FS:=(j0 (qN (J0 (xA (J0 (xA (J0 (jb 0) (J0 (dC (.int 0)) jc))) jc)) jc)))
def wK:YH->Res D:=qf 1 1 vq
@[simp]def dE (t:Int):wK [.int t]=.ok (jj [[(t,0)]]):=by
 rfl
def ZD (a:YH->HP->Res (D×HP)):qy:=(y8 (vg (j3 4 (Ki YZ (J0 (jb 0) (J0 (jb 1) jc))))) (y8 (vg (qb 5 (Qy [none] (yx (J0 (jq jO (J0 (qM (qY "Plan" "givens") (jb 4)) jc)) jc)) (.one 0) (Ki wK (J0 (jb 0) jc))))) (y8 (AI (iS (qM (qY "Plan" "rows") (jb 4))) (.tup [6,7,8]) (AH (vg (j3 9 (Xu [none,none,some 5] 2 (iS (jb 8)) (.tup [0,1]) (Ki yD (J0 (K3 2 (jb 0)) (J0 (jb 1) jc)))))) (V6 5 (V7 a (J0 (jb 0) (J0 (jb 7) (J0 (jb 9) (J0 (jb 2) (J0 (jb 3) jc))))))))) (wx 5 (zr (jb 5))))))
def QM:Nat->YH->HP->Res (D×HP)
 | 0=>λ_ _=>.no
 |n+1=>K5 10 4 (ZD (K5 5 5 (Wb (QM n))))
def Qu (n:Nat):YH->HP->Res (D×HP):=K5 5 5 (Wb (QM n))
def nY (f:Jz)(q:Jy):Prop:=∃x∈f,JH x q=true
structure Cn (f:Jz):Prop where
 ne:f ≠ []
 rows:∀r∈f,JRow r
 thin:JY f=f
def Cn.anti {f:Jz}(C:Cn f):∀r∈f,∀s∈f,JH r s=true->r=s:=by
 have h:=DC (rs:=f)
 rwa [C.thin] at h
def Cn.strict {f:Jz}(C:Cn f):f.Pairwise λa b=>j9 a b=true:=by
 have h:=Ww f
 rwa [C.thin] at h
def sR {l:Jz}(h:∀r∈l,JRow r)(q):nY (JY l) q↔nY l q:=by
 constructor
 .rintro⟨x,a,b⟩;exact⟨x,(x8.mp a).1,b⟩
 .rintro⟨x,a,b⟩;obtain⟨s,hs,c⟩:=Xw (λr e=>⟨(h r e).once,(h r e).rise⟩) a;exact⟨s,hs,Kt c b⟩
def sS {l:Jz}(h:∀r∈l,JRow r)(b:l ≠ []):Cn (JY l):=⟨DE h b,λr a=>h r (x8.mp a).1,I1 (λr a=>h r (x8.mp a).1) h (sR h)⟩
theorem DF (w:Int):∀(r:Jy) (t:Int),JC (Q2 r w) t=(JC r t).map (· + w)
 | [],_=>rfl
 |p::r,t=>by
  have a:=DF w r t;show(match JC (Q2 r w) t with|some v=>some v|none=>if p.1=t then some (p.2+w) else none)=Option.map _ (match JC r t with|some v=>some v|none=>if p.1=t then some p.2 else none)
  grind
def tN (r:Jy)(w:Int):Q2 (Q2 r w) (-w)=r:=by
 unfold Q2;rw[Zw];refine(UZ λp _=>?_).trans (List.map_id r)
 grind
def tT {r q:Jy}{w:Int}:JH (Q2 r w) q=true↔JH r (Q2 q (-w))=true:=by
 rw[yJ,yJ];constructor
 .intro h p hp;obtain⟨u,a,l⟩:=h (p.1,p.2+w) (Ja.mpr ⟨p,hp,rfl⟩)
  grind[DF]
 .intro h p hp;obtain⟨b,hp',rfl⟩:=Ja.mp hp;obtain⟨u,a,l⟩:=h b hp';rw[DF] at a;cases e:JC q b.1 with
  |none=>simp_all
  |some v =>
   grind
def tL {r:Jy}(h:JRow r)(w):JRow (Q2 r w):=by
 refine⟨λz=>h.ne (Je.mp z),?_,λp hp=>?_⟩
 .have e:(Q2 r w).map (·.1)=r.map (·.1):=by
   unfold Q2;simp
  unfold qF;rw[e];exact h.rise
 .obtain⟨a,hp',rfl⟩:=Ja.mp hp;exact h.bnd a hp'
theorem IG (w:Int):∀a b:Jy,j9 (Q2 a w) (Q2 b w)=j9 a b
 | [],[]=>rfl
 | [],_::_=>rfl
 |_::_,[]=>rfl
 |p::a,q::b=>by
  show j9 ((p.1,p.2+w)::Q2 a w) ((q.1,q.2+w)::Q2 b w)=_;rw[Ux,Ux,IG w a b];by_cases h:p=q
  .rw[Zd h,h,Zd rfl]
  .rw[Ze h,Ze λz=>h ?_]
   .simp_all [jV]
   grind
def gX {f:Jz}(C:Cn f)(w:Int):Cn (Ql f w):=by
 refine⟨λz=>C.ne (Je.mp z),λr j=>?_,W9 xM (Ww _) ?_ λr=>⟨λh=>(x8.mp h).1,λh=>x8.mpr ⟨h,wc.mpr λo l e=>?_⟩⟩⟩
 .obtain⟨g,c,rfl⟩:=Ja.mp j;exact tL (C.rows g c) w
 .unfold Ql;rw[U4];exact C.strict.imp λ{a b} h=>by rwa [IG]
 .obtain⟨m,i,rfl⟩:=Ja.mp l;obtain⟨g,c,rfl⟩:=Ja.mp h;have e:=tT.mp e;rw[tN] at e;rw[C.anti m i g c e]
def tR {r:Jy}(h:r ≠ [])(w:Int)(hs:Yh):Qd (Q2 r w) hs=Qd r hs+w:=by
 unfold Qd Q2;rw[<- Tr (λz=>h (Je.mp z)),Zw,Zw]
 congr 1
 refine UZ λp _=>?_
 grind
def tW {f:Jz}(b:f ≠ [])(a:∀r∈f,r ≠ [])(w)(hs):J9 (Ql f w) hs=J9 f hs+w:=by
 unfold J9 Ql;rw[<- Tq (λz=>b (Je.mp z)),Zw,Zw]
 congr 1
 exact UZ λr c=>tR (a r c) w hs
def tM {n:Int}{fs:List Jz}{t:Jz}{hs:Yh}(A:AllOk fs t)(E:t ≠ [])(F:fs ≠ [])(u:∀f∈fs,f ≠ []/\∀r∈f,r ≠ []/\j8 r/\∀p∈r,0<=p.1/\p.1<12):J9 t hs=q0 (fs.map λf=>J9 f hs):=by
 have g:∀{r:Jy},r ≠ []->∀p∈r,jA hs p.1+p.2<=Qd r hs:=λ{r} i p hp=>(W5 (l:=r.map λp=>jA hs p.1+p.2) (λz=>i (Je.mp z))).2 _ (Ja.mpr ⟨p,hp,rfl⟩);have j:∀{r:Jy} {M:Int},r ≠ []->(∀p∈r,jA hs p.1+p.2<=M)->Qd r hs<=M:=λ{r M} i h=>by
  obtain⟨m,_⟩:=W5 (l:=r.map λp=>jA hs p.1+p.2) (λz=>i (Je.mp z));obtain⟨p,hp,e⟩:=Ja.mp m;have:=h p hp;have e:jA hs p.1+p.2=Qd r hs:=e;lia
 obtain⟨G,m2⟩:=W5 (l:=fs.map λf=>J9 f hs) (λz=>F (Je.mp z));have m2:∀f∈fs,J9 f hs<=q0 (fs.map λf=>J9 f hs):=λf h=>m2 _ (Ja.mpr ⟨f,h,rfl⟩);obtain⟨v,o,x⟩:=Ja.mp G;have x:J9 v hs=q0 (fs.map λf=>J9 f hs):=x;generalize q0 (fs.map λf=>J9 f hs)=M at m2 x;obtain⟨r,i,O⟩:=V8 (hs:=hs) E;have lo:M<=J9 t hs:=by
  obtain⟨s,c,y⟩:=A.abv r i v o;have H:=KW (hs:=hs) c;have I:Qd s hs<=Qd r hs:=j ((u v o).2 s c).1 λp hp=>by
   obtain⟨w,B,J⟩:=yJ.mp y p hp;have:=g (A.row r i).ne (p.1,w) (Qi B);have this:jA hs p.1+w<=Qd r hs:=this;lia
  lia
 obtain⟨q,C,y⟩:=A.least ((List.range 12).map λk:Nat=>((k:Int),M-jA hs (k:Int))) λf h=>by
  obtain⟨s,c,es⟩:=V8 (hs:=hs) (u f h).1;obtain⟨K,P,L⟩:=(u f h).2 s c;refine⟨s,c,yJ.mpr λp hp=>⟨M-jA hs p.1,?_,?_⟩⟩
  .have N:j8 ((List.range 12).map λk:Nat=>((k:Int),M-jA hs (k:Int))):=by
    unfold j8;rw[Zw];unfold List.Nodup;rw[U4];exact(List.nodup_range (n:=12)).imp λ{a b} h e=>h (by have e:(a:Int)=(b:Int):=e;lia)
   have b:=L p hp;exact N.look (Ja.mpr ⟨p.1.toNat,Jj.mpr (),by rw[show((p.1.toNat:Nat):Int)=p.1 by lia]⟩)
  .have a:=g K p hp;have b:=m2 f h;lia
 have H:=KW (hs:=hs) C;have I:Qd q hs<=M:=j (A.row q C).ne λp hp=>by
  obtain⟨w,B,J⟩:=yJ.mp y p hp;obtain⟨k,Q,R⟩:=Ja.mp (Qi B)
  grind
 lia
theorem IH {α: Type}{tg:Tg}{f:FE}{c:SD}{k:α -> D}{n:Str}{b:YH}:∀{a:List α},(∀x∈a,(∃v,(JR tg (k x) c).bind f=.ok v)\/(JR tg (k x) c).bind f=.ex n b)->(∃x∈a,(JR tg (k x) c).bind f=.ex n b)->qd tg f c (a.map k)=.ex n b
 | [],_,⟨_,h,_⟩=>nomatch h
 |x::a,h,⟨y,hy,e⟩=>by
  have nx:qd tg f c ((x::a).map k)=((JR tg (k x) c).bind f).bind λv=>(qd tg f c (a.map k)).bind λg=>.ok (v::g):=rfl;rw[nx];rcases h x Zqs with ⟨v,q⟩|q
  .rw[q,IH (λz hz=>h z (Zqm _ hz)) ?_]
   .rfl
   grind
  simp_all
def tY {f:Jz}{fs:List Jz}{most:Int}(p:Cn f/\f.length<=64)(q:∀g∈fs,Cn g/\g.length<=64)(A:0<=most)(m2:most<=60)(F:fs.length<=900):
 ya [.lst ((f::fs).map jj),.int most]=xp (yU most f fs):=by
 have u:∀{rs:Jz},(∀r∈rs,JRow r)->rs.length<=200->QC [jj rs,.int most]=xp (jR most (JY rs)):=λ{rs} h l=>DA (λr e=>(h r e).ne) (λr e=>(h r e).rise) (λr e=>by have:=(h r e).len;lia) () A ();have j:=u (rs:=f) p.1.rows ();rw[p.1.thin] at j;have n:jX ((f::fs).map jj) 0=some (jj f):=by
  rw[show((0:Int))=((0:Nat):Int) from rfl,KU ()];rfl
 have B:Qs (jj f::fs.map jj) (some 1) none none=fs.map jj:=by
  rw[HR _ ()];rfl
 by_cases v:(f.length:Int)<=most
 .rw[Bh v] at j;have j:QC [jj f,.int most]=.ok (jj f):=j;have m:((q9 (.one 3) (λsd=>(qb 2 (J5 QC (J0 (jf js (jb 2) (jb 3)) (J0 (jb 1) jc)))) (jS [2] sd)) (fs.map jj) [some (.val (.lst ((f::fs).map jj))),some (.val (.int most)),some (.own false (jj f)),none]).bind (xD (Kg 2))).bind yd=xp (yU most f fs):=by
   refine Hm (R:=λz=>(z.bind (xD (Kg 2))).bind yd=xp (yU most f fs)) (P:=λi sd=>∃(t:Jz) (s:Option SV),sd=[some (.val (.lst ((f::fs).map jj))),some (.val (.int most)),some (.own false (jj t)),s]/\(∀r∈t,JRow r)/\(t.length:Int)<=most/\yU most t (fs.drop i)=yU most f fs) ⟨f,none,rfl,p.1.rows,v,rfl⟩ ?_ ?_
   .rintro sd ⟨t,s,rfl,T,lt,b⟩;rw[Zql,Va] at b;rw[<- b];show _=xp (jR most t);rw[Bh lt];rfl
   .rintro i x sd C ⟨t,s,rfl,T,lt,b⟩;obtain⟨g,o,rfl⟩:=QK C;have w:=(Jc.mp o).1;obtain⟨G,H⟩:=q g (Uf o);have y:=Tz (f:=t) (g:=g) ();have tg:∀r∈t++g,JRow r:=λr e=>(Jb.mp e).elim (λz=>T r z) λz=>G.rows r z;have a:=u (rs:=t++g) tg (by rw[Ub];lia);have E:fs.drop i=g::fs.drop (i+1):=by
     rw[Ut w];rw[Zqg w] at o;rw[Zqi o]
    rw[E] at b;have b:(jR most t).bind (λ_=>yU most (xl t g) (fs.drop (i+1)))=yU most f fs:=b;rw[Bh lt] at b;have b:yU most (xl t g) (fs.drop (i+1))=yU most f fs:=b;by_cases c:((xl t g).length:Int)<=most
    .have a:QC [jj (t++g),.int most]=.ok (jj (xl t g)):=by
      rw[a];show xp (jR most (xl t g))=_;rw[Bh c];rfl
     exact .inl ⟨[some (.val (.lst ((f::fs).map jj))),some (.val (.int most)),some (.own false (jj (xl t g))),some (.val (jj g))],by simp[y,a],xl t g,_,rfl,λr e=>tg r (x8.mp e).1,c,b⟩
    .have no:jR most (xl t g)=none:=Ze c;have a:QC [jj (t++g),.int most]=.ex "TooMany" []:=by
      rw[a];show xp (jR most (xl t g))=_;rw[no];rfl
     refine .inr ⟨"TooMany",[],by simp[y,a],?_⟩;rw[<- b,ID no];rfl
  simp[ya,zS] at n m ⊢;simp[n,j,B,m]
 .rw[IE ()] at j;have j:QC [jj f,.int most]=.ex "TooMany" []:=j;rw[ID (IE ())];show _=Res.ex "TooMany" [];simp[ya,zS] at n ⊢;simp[n,j]
def tm {a b:Jz}(A:Cn a)(B:Cn b)(hs:Yh):Cn (xl a b)/\J9 (xl a b) hs<=J9 a hs/\J9 (xl a b) hs<=J9 b hs/\(J9 (xl a b) hs=J9 a hs\/J9 (xl a b) hs=J9 b hs):=by
 have c:=λr e=>(Jb.mp e).elim (A.rows r) (B.rows r);have ne:a++b ≠ []:=λz=>A.ne (Jx.mp z).1;refine⟨sS c ne,?_⟩;unfold xl;rw[Tx ne λr e=>⟨(c r e).ne,(c r e).once,(c r e).rise⟩];exact TU A.ne B.ne
theorem II (hs:Yh):∀(a:List Jz) (t:Jz),Cn t->(∀g∈a,Cn g)->Cn (a.foldl xl t)/\(J9 (a.foldl xl t) hs=J9 t hs\/∃g∈a,J9 (a.foldl xl t) hs=J9 g hs)/\J9 (a.foldl xl t) hs<=J9 t hs/\∀g∈a,J9 (a.foldl xl t) hs<=J9 g hs
 | [],t,T,_=>⟨T,.inl rfl,U5 _,λ_ h=>nomatch h⟩
 |g::a,t,T,G=>by
  obtain⟨b,e,f,i⟩:=tm T (G g Zqs) hs;obtain⟨c,j,l,m⟩:=II hs a (xl t g) b ()
  grind
theorem IJ {P:Jy->Prop}:∀(a:List Jz) (t:Jz),(∀r∈t,P r)->(∀g∈a,∀r∈g,P r)->∀r∈a.foldl xl t,P r
 | [],_,h,_=>h
 |g::a,t,h,k=>IJ a (xl t g) (λr b=>(Jb.mp (x8.mp b).1).elim (h r) ()) ()
theorem IK {most:Int}:∀(a:List Jz) (t t':Jz),xt most t a=some t'->t'=a.foldl K7 t
 | [],_,_,h=>(Zqi h).symm
 |g::a,t,t',h=>by
  rw[IB] at h;cases q:jR most (K7 t g) with
  |none=>simp_all
  |some b =>
   rw[q] at h;rw[Vh,<- ((WQ q).1)];exact IK a b t' h
def sT {most:Int}{f:Jz}{fs:List Jz}{t:Jz}(h:xV most f fs=some t):t=fs.foldl K7 (JY f):=by
 unfold xV at h;cases q:jR most (JY f) with
 |none=>simp_all
 |some a =>
  rw[q] at h;rw[<- (WQ q).1];exact IK fs a t h
theorem IL {most:Int}:∀(a:List Jz) (t t':Jz),yU most t a=some t'->t'=a.foldl xl t/\(t'.length:Int)<=most
 | [],t,t',h=>by
  obtain⟨e,l⟩:=WQ (h)
  simp_all
 |g::a,t,t',h=>by
  have h:(jR most t).bind (λ_=>yU most (xl t g) a)=some t':=h;cases q:jR most t with
  |none=>simp_all
  |some b =>
   rw[q] at h;exact IL a (xl t g) t' h
def ti {a b:Jy}(g:JRow a)(h:JRow b):∀p∈Q7 a b,p∈a\/p∈b:=λp hp=>by
 have c:=(X1 g h).once.look hp;rw[Bf g.once h.once] at c;cases f:JC a p.1 with
 |some w =>
  cases e:JC b p.1 with
  |some v =>
   rw[f,e] at c;have i:=Qi f;have m2:=Qi e;have c:some (if w > v then w else v)=some p.2:=c
   grind
  |none =>
   rw[f,e] at c;have i:=Qi f;rw[Zqi c] at i
   simp_all
 |none =>
  cases e:JC b p.1 with
  |some v =>
   rw[f,e] at c;have m2:=Qi e;rw[Zqi c] at m2
   simp_all
  |none=>rw[f,e] at c;cases c
theorem IM {Q:Int×Int->Prop}:∀(c:List Jz) t,(∀r∈t,JRow r/\∀p∈r,Q p)->(∀g∈c,∀r∈g,JRow r/\∀p∈r,Q p)->∀r∈c.foldl K7 t,∀p∈r,Q p
 | [],t,ht,_=>λr e=>(ht r e).2
 |g::c,t,ht,hg=>IM c (K7 t g) (λr e=>by
  obtain⟨a,h,b,i,rfl⟩:=wd.mp (x8.mp e).1;obtain⟨f,j⟩:=ht a h;obtain⟨b1,b2⟩:=hg g Zqs b i;exact⟨X1 f b1,λp hp=>(ti f b1 p hp).elim (j p) (b2 p)⟩) λx l=>hg x (Zqm _ l)
structure Tf (n:Nat)(W:Int)(t:Jz):Prop where
 cn:Cn t
 len:t.length<=12
 th:∀r∈t,∀p∈r,p.1<(n:Int) /\ -W<=p.2/\p.2<=W
def Tf.row {n:Nat}{W:Int}{t:Jz}(T:Tf n W t):∀r∈t,JRow r/\∀p∈r,p.1<(n:Int) /\ -W<=p.2/\p.2<=W:=λr a=>⟨T.cn.rows r a,T.th r a⟩
def Tf.mono {n:Nat}{W V:Int}{t:Jz}(T:Tf n W t)(h:W<=V):Tf n V t:=⟨T.cn,T.len,λr a p hp=>by have:=T.th r a p hp;lia⟩
def Tf.wait {n:Nat}{W V:Int}{t:Jz}(T:Tf n W t){w:Int}(f: -V<=w/\w<=V):Tf n (W+V) (Ql t w):=by
 refine⟨gX T.cn w,?_,λr b p hp=>?_⟩
 .unfold Ql;rw[Zql];exact T.len
 .obtain⟨c,a,rfl⟩:=Ja.mp b;obtain⟨e,hp',rfl⟩:=Ja.mp hp;have:=T.th c a e hp';lia
def Tf.comes {n:Nat}{W:Int}{t:Jz}(T:Tf n W t)(w)(hs):J9 (Ql t w) hs=J9 t hs+w:=tW T.cn.ne (λr a=>(T.cn.rows r a).ne) w hs
def K8:Res D:=.ex "TooMany" []
def IN {n:Nat}{W:Int}{fs:List Jz}(ne:fs ≠ [])(h:∀g∈fs,Tf n W g)(l:fs.length<=100):xG [.lst (fs.map jj),.int 8]=K8\/∃t,xG [.lst (fs.map jj),.int 8]=.ok (jj t)/\Tf n W t/\∀hs,J9 t hs=q0 (fs.map λg=>J9 g hs):=by
 cases fs with
 |nil=>simp_all
 |cons f fs =>
  have c:=h f Zqs;have b:=λg a=>h g (Zqm _ a);have l:fs.length+1<=100:=l;have w:=c.len;have A:=db (most:=8) ⟨c.cn.ne,c.cn.rows⟩ (λg a=>⟨(b g a).cn.ne,(b g a).cn.rows⟩) () () () () λi t g _ lt a=>by
   have G:=b g (Uf a);have s:=G.len;have e:=t7 (f:=t) G.cn.ne;have lt:t.length<=12:=()
   have m:=Nat.mul_le_mul lt s;lia
  rw[A];cases q:xV 8 f fs with
  |none=>exact .inl rfl
  |some t =>
   refine .inr ⟨t,rfl,?_⟩;have ⟨A,lt,p⟩:=HA ⟨c.cn.ne,c.cn.rows⟩ (λg a=>⟨(b g a).cn.ne,(b g a).cn.rows⟩) q;have e:=sT q;rw[c.cn.thin] at e;refine⟨⟨⟨p,A.row,W9 xM (Ww _) A.strict λr=>⟨λh=>(x8.mp h).1,λh=>x8.mpr ⟨h,wc.mpr λo u v=>A.anti o u r h v⟩⟩⟩,(),?_⟩,λhs=>tM (n:=0) A p () λg a=>⟨(h g a).cn.ne,λr j=>⟨((h g a).cn.rows r j).ne,((h g a).cn.rows r j).once,((h g a).cn.rows r j).bnd⟩⟩⟩;rw[e];exact IM fs f c.row λg a=>(b g a).row
def IP {n:Nat}{W:Int}{fs:List Jz}(ne:fs ≠ [])(h:∀g∈fs,Tf n W g)(l:fs.length<=100):ya [.lst (fs.map jj),.int 8]=K8\/∃t,ya [.lst (fs.map jj),.int 8]=.ok (jj t)/\Tf n W t/\∀hs,J9 t hs=qX (fs.map λg=>J9 g hs):=by
 cases fs with
 |nil=>simp_all
 |cons f fs =>
  have c:=h f Zqs;have b:=λg a=>h g (Zqm _ a);have l:fs.length+1<=100:=l;have o:=c.len;rw[tY ⟨c.cn,()⟩ (λg a=>⟨(b g a).cn,by have:=(b g a).len;lia⟩) () () ()];cases q:yU 8 f fs with
  |none=>exact .inl rfl
  |some t =>
   refine .inr ⟨t,rfl,?_⟩;have ⟨e,lt⟩:=IL fs f t q;have C:=λhs=>II hs fs f c.cn λg a=>(b g a).cn;rw[<- e] at C;refine⟨⟨(C []).1,(),?_⟩,λhs=>?_⟩
   .rw[e];exact IJ fs f c.th λg a=>(b g a).th
   .have ⟨_,i,p,j⟩:=C hs;refine BK ?_ λy m=>?_
    .rcases i with z|⟨g,a,z⟩
     .exact Ja.mpr ⟨f,Zqs,z.symm⟩
     .exact Ja.mpr ⟨g,Zqm _ a,z.symm⟩
    .obtain⟨g,a,rfl⟩:=Ja.mp m;rcases U0.mp a with z|z
     .rwa [z]
     .exact j g z
def tw {fs:List Jz}{t:Int}(a:0<=t)(b:t<(fs.length:Int))(hs:Yh):jA (fs.map λg=>J9 g hs) t=J9 (qu fs t) hs:=by
 simp_all [jA,qu]
def IQ {n:Nat}{W V:Int}{T:List Jz}(c:∀g∈T,Tf n W g){its:Jy}(e:∀p∈its,0<=p.1/\p.1<(T.length:Int))(f:∀p∈its,-V<=p.2/\p.2<=V):(∀g∈its.map λp=>Ql (qu T p.1) p.2,Tf n (W+V) g)/\∀hs,(its.map λp=>Ql (qu T p.1) p.2).map (λg=>J9 g hs)=qI (T.map λg=>J9 g hs) its:=by
 refine⟨λg h=>?_,λhs=>?_⟩
 .obtain⟨p,hp,rfl⟩:=Ja.mp h;obtain⟨a,b⟩:=e p hp;exact(c _ (Bj a b)).wait (f p hp)
 .rw[Zw];refine UZ λp hp=>?_;obtain⟨a,b⟩:=e p hp;show J9 (Ql (qu T p.1) p.2) hs=_;rw[(c _ (Bj a b)).comes,tw a b]
def tV {n:Nat}{W V:Int}{fs:List Jz}{r:Jy}(a:JRow r)(b:∀p∈r,p.1<(fs.length:Int) /\ -V<=p.2/\p.2<=V)(h:∀g∈fs,Tf n W g):Kj [jz r,.lst (fs.map jj),.int 8]=K8\/∃t,Kj [jz r,.lst (fs.map jj),.int 8]=.ok (jj t)/\Tf n (W+V) t/\∀hs,J9 t hs=Qd r (fs.map λg=>J9 g hs):=by
 have j:=λp hp=>(b p hp).2;have b:∀p∈r,0<=p.1/\p.1<(fs.length:Int):=λp hp=>⟨(a.bnd p hp).1,(b p hp).1⟩;have q:=a.len;obtain⟨l,m⟩:=IQ h b j;have o:∀f∈fs,f.length<=1000/\∀r∈f,r.length<=1000:=λf i=>⟨by have:=(h f i).len;lia,λr a=>by have:=((h f i).cn.rows r a).len;lia⟩;have c:=tU b o;have e:Kj [jz r,.lst (fs.map jj),.int 8]=xG [.lst ((r.map λp=>Ql (qu fs p.1) p.2).map jj),.int 8]:=by
  generalize (r.map λp=>Ql (qu fs p.1) p.2).map jj=ds at c;simp[Kj,Bi,c,(Qc (show r.length<=1000 from ()))];cases xG [D.lst ds,D.int 8]<;>rfl
 rw[e];rcases IN (λz=>a.ne (Je.mp z)) l () with z|⟨t,z1,z2,z3⟩
 .exact .inl z
 .refine .inr ⟨t,z1,z2,λhs=>?_⟩;rw[z3,m];rfl
def IR {n m:Nat}{W V:Int}{a:Jz}{fs:List Jz}(F:Tf m V a)(j:fs.length=m)(h:∀g∈fs,Tf n W g):xB [jj a,.lst (fs.map jj),.int 8]=K8\/∃t,xB [jj a,.lst (fs.map jj),.int 8]=.ok (jj t)/\Tf n (W+V) t/\∀hs,J9 t hs=J9 a (fs.map λg=>J9 g hs):=by
 have R:∀r∈a,_:=λr b=>tV (n:=n) (fs:=fs) (V:=V) (F.cn.rows r b) (by rw[j];exact F.th r b) h;have s:=F.len;have i:∀r,(JR (.one 0) (jz r) [none,some (.val (.lst (fs.map jj))),some (.val (.int 8))]).bind (J5 Kj (J0 (jb 0) (J0 (jb 1) (J0 (jb 2) jc))))=Kj [jz r,.lst (fs.map jj),.int 8]:=λr=>by
  simp
 by_cases c:∃r∈a,Kj [jz r,.lst (fs.map jj),.int 8]=K8
 .left;have e:qd (.one 0) (J5 Kj (J0 (jb 0) (J0 (jb 1) (J0 (jb 2) jc)))) [none,some (.val (.lst (fs.map jj))),some (.val (.int 8))] (a.map jz)=.ex "TooMany" []:=by
   refine IH (λr b=>?_) ?_
   .rw[i];rcases R r b with z|⟨t,z,_⟩
    .exact .inr z
    .exact .inl ⟨_,z⟩
   .obtain⟨r,b,z⟩:=c;exact⟨r,b,by rw[i];exact z⟩
  simp[xB,zm,e,(Qc (show a.length<=1000 from ())),K8]
 .have l:∀r,∃t,r∈a->Kj [jz r,.lst (fs.map jj),.int 8]=.ok (jj t)/\Tf n (W+V) t/\∀hs,J9 t hs=Qd r (fs.map λg=>J9 g hs):=λr=>by
   by_cases b:r∈a
   .rcases R r b with z|⟨t,z⟩
    .exact Zn ⟨r,b,z⟩ c
    .exact⟨t,λ_=>z⟩
   simp_all
  have ⟨G,f⟩:=Classical.axiomOfChoice l;have p:=λd=>mQ (d:=d) () λr b=>(f r b).1;have o:∀g∈a.map G,Tf n (W+V) g:=λg q=>by
   obtain⟨r,b,rfl⟩:=Ja.mp q;exact(f r b).2.1
  have e:qd (.one 0) (J5 Kj (J0 (jb 0) (J0 (jb 1) (J0 (jb 2) jc)))) [none,some (.val (.lst (fs.map jj))),some (.val (.int 8))] (a.map jz)=.ok ((a.map G).map jj):=by
   rw[Zw];exact K4 λr h=>by
    rw[i];exact(f r h).1
  rcases IP (λz=>F.cn.ne (Je.mp z)) o (by rw[Zql];lia) with z|⟨t,z1,z2,z3⟩
  .left;generalize (a.map G).map jj=ds at e z;simp[xB,zm,e,(Qc (show a.length<=1000 from ())),z,K8]
  .refine .inr ⟨t,p _ z1,z2,λhs=>?_⟩;rw[z3,Zw]
   congr 1
   exact UZ λr b=>((f r b).2.2 hs)
def Wc {f:FT}{sd:SD}{hp:HP}{b:Bool}(h:f sd=.ok b):zy f sd hp=.ok (b,hp):=by
 simp_all [zy]
def Bk {n ar:Nat}{g:qy}{ds:YH}{a:Addr}{d:D}{x:Res D}{e:D}(h:ds.length=ar)(b:g (Qz n ds) [(a,d)]=x.bind λt=>.ok (t,[(a,e)])):K5 n ar g ds [(a,d)]=x.bind λt=>.ok (t,[(a,e)]):=by
 unfold K5;rw[Zd h,b];cases x with
 |ok t=>exact Zd rfl
 |ex c es=>rfl
 |no=>rfl
def IS {n ar:Nat}{g:qy}{ds:YH}{hp:HP}{c:Str}{a:YH}(h:ds.length=ar)(b:g (Qz n ds) hp=.ex c a):K5 n ar g ds hp=.ex c a:=by
 simp_all [K5]
def wn (a b c d e):Qz 5 [a,b,c,d,e]=[some (.val a),some (.val b),some (.val c),some (.val d),some (.val e)]:=rfl
def IT {n:Nat}(bk d e:D)(a:Addr):Qu n [bk,.str "all",d,.int 8,.adr a] [(a,e)]=(xG [d,.int 8]).bind λt=>.ok (t,[(a,e)]):=by
 refine Bk rfl ?_;rw[wn];unfold Wb;rw[V9,Wc (b:=true) (by simp[Dx]),jy,Zd rfl];simp
def IU {n:Nat}(bk d e:D)(a:Addr):Qu n [bk,.str "first",d,.int 8,.adr a] [(a,e)]=(ya [d,.int 8]).bind λt=>.ok (t,[(a,e)]):=by
 refine Bk rfl ?_;rw[wn];unfold Wb;rw[V9,Wc (b:=false) (by simp[Dy]),jy,Ze (),V9,Wc (b:=true) (by simp[Dz]),jy,Zd rfl];simp
theorem IV {q:j7}:∀{ks:List j7},q∉ks->yy q ks=false
 | [],_=>rfl
 |k::ks,h=>by
  show(decide (k=q)||yy q ks)=false;rw[IV λz=>h (Zqm _ z),Zo λz=>h ()];rfl
theorem IW {q:j7}{d:D}:∀{ks:List j7} {ds:YH},ks.length=ds.length->q∉ks->jH (ks++[q]) (ds++[d]) q=some d
 | [],[],_,_=>Zd rfl
 | [],_::_,h,_=>by cases h
 |_::_,[],h,_=>by cases h
 |k::ks,e::ds,h,hq=>by
  show(if k=q then some e else jH (ks++[q]) (ds++[d]) q)=_;rw[Ze λz=>hq ()];exact IW (UL h) ()
def sU {b c:FE}{sd:SD}{a:Addr}{how:Str}{ks:List j7}{ds:YH}{z:D}(e:b sd=.ok (.adr a))(f:c sd=.ok (.str how))(hz:jH ks ds (.inr how)=some z):zz b c sd [(a,.dct ks ds)]=.ok (z,[(a,.dct ks ds)]):=by
 simp_all [zz,Dw]
def IX {bk d:D}{how:Str}{a:Addr}{ks:List j7}{ds:YH}{z:D}(hz:jH ks ds (.inr how)=some z):AM xB (Wu (zz (jb 4) (jb 1)) (Wu (zr (jb 2)) (Wu (zr (jb 3)) AJ))) [some (.val bk),some (.val (.str how)),some (.val d),some (.val (.int 8)),some (.val (.adr a))] [(a,.dct ks ds)]=(xB [z,d,.int 8]).bind λt=>.ok (t,[(a,.dct ks ds)]):=by
 unfold AM;rw[TJ,sU rfl rfl hz,jy];simp
def DG {bk d:D}{how:Str}{a:Addr}{ks:List j7}{ds:YH}:wm [4] (JD (jf (wv true) (jb 1) (jb 4))) [some (.val bk),some (.val (.str how)),some (.val d),some (.val (.int 8)),some (.val (.adr a))] [(a,.dct ks ds)]=.ok (!(jH ks ds (.inr how)).isSome):=by
 have e:derI [(a,.dct ks ds)] [4] [some (.val bk),some (.val (.str how)),some (.val d),some (.val (.int 8)),some (.val (.adr a))]=[some (.val bk),some (.val (.str how)),some (.val d),some (.val (.int 8)),some (.val (.dct ks ds))]:=by
  simp_all [der,Dw]
 unfold wm;rw[e];rfl
def kc {n:Nat}{bk d:D}{how:Str}(c:asc how)(e:how ≠ "all")(f:how ≠ "first"){a:Addr}{ks:List j7}{ds:YH}{z:D}(hz:jH ks ds (.inr how)=some z):Qu n [bk,.str how,d,.int 8,.adr a] [(a,.dct ks ds)]=(xB [z,d,.int 8]).bind λt=>.ok (t,[(a,.dct ks ds)]):=by
 refine Bk rfl ?_;rw[wn];unfold Wb;rw[V9,Wc (b:=false) (by simp[(Kb c Wx),e]),jy,Ze (),V9,Wc (b:=false) (by simp[(Kb c Wy),f]),jy,Ze ()];exact fO (kn (by rw[DG,hz];rfl) rfl) (IX hz)
def sA {n:Nat}{bk d:D}{how:Str}(e:asc how)(j:how ≠ "all")(m:how ≠ "first"){a:Addr}{ks ks':List j7}{ds ds':YH}(hz:jH ks ds (.inr how)=none){ys:List Jz}{t:Jz}(h:QM n [bk,.str how,.int 8,.adr a] [(a,.dct ks ds)]=.ok (.lst ((ys++[t]).map jj),[(a,.dct ks' ds')]))(i:ks'.length=ds'.length)(g: .inr how∉ks')(l:ks'.length<=1000):
 Qu n [bk,.str how,d,.int 8,.adr a] [(a,.dct ks ds)]=(xB [jj t,d,.int 8]).bind λz=>.ok (z,[(a,.dct (ks'++[.inr how]) (ds'++[jj t]))]):=by
 have o:=Kb e Wx;have p:=Kb e Wy;have c:=Xx (f:=jj) ys t;have q:=Qc l;have r:=IV g;refine Bk rfl ?_;rw[wn];unfold Wb;rw[V9,Wc (b:=false) (),jy,Ze (),V9,Wc (b:=false) (),jy,Ze ()];refine fO (sd':=[some (.val bk),some (.val (.str how)),some (.val d),some (.val (.int 8)),some (.val (.adr a))]) (km (by rw[DG,hz];rfl) ?_) (IX (IW (d:=jj t) i g));unfold AN;have s:zx wu (V7 (QM n) (J0 (jb 0) (J0 (jb 1) (J0 (jb 3) (J0 (jb 4) jc))))) (zr (qM qT (dC (.int 1)))) [some (.val bk),some (.val (.str how)),some (.val d),some (.val (.int 8)),some (.val (.adr a))] [(a,.dct ks ds)]=.ok (jj t,[(a,.dct ks' ds')]):=by
  generalize (ys++[t]).map jj=es at h c;have c:wu (.lst es) (.int (-1))=some (jj t):=c
  simp_all
 simp_all [HF,V4,Wo,Dw,TK]
def ke {n:Nat}{bk d:D}{how:Str}(e:asc how)(g:how ≠ "all")(h:how ≠ "first"){a:Addr}{ks:List j7}{ds:YH}(hz:jH ks ds (.inr how)=none){c:Str}{f:YH}(i:QM n [bk,.str how,.int 8,.adr a] [(a,.dct ks ds)]=.ex c f):
 Qu n [bk,.str how,d,.int 8,.adr a] [(a,.dct ks ds)]=.ex c f:=by
 refine IS rfl ?_;rw[wn];unfold Wb;rw[V9,Wc (b:=false) (by simp[(Kb e Wx),g]),jy,Ze (),V9,Wc (b:=false) (by simp[(Kb e Wy),h]),jy,Ze (),Ii]
 simp_all [AN,DG]
theorem IY {rc b:Str->List Int->Int}:∀{a:List Rw},(∀r∈a,∀f,xo rc f r=xo b f r)->∀hs,jP rc a hs=jP b a hs
 | [],_,_=>rfl
 |r::a,h,hs=>by
  show jP rc a (hs++[xo rc hs r])=jP b a (hs++[xo b hs r]);rw[h r Zqs];exact IY () _
def BkP.fuel {ps:List Pl}(B:BkP ps):∀j n q,ps[j]? = some q->j<n->∀hs,qr ps n q hs=qr ps (j+1) q hs:=by
 intro j
 induction j using Nat.strongRecOn with
 |ind j b =>
  intro n q c h hs;obtain⟨a,rfl⟩:∃a,n=a+1:=⟨n-1,()⟩;rw[AU,AU];refine IY (λr e f=>?_) hs;obtain⟨k,g⟩:=Jl.mp e;unfold xo;rcases B.how c g with z|z|⟨_,z1,z2,j2,q2,z3,z4,z5,_⟩
  .simp_all
  .simp_all
  .rw[Ze z1,Ze z2,Ze z1,Ze z2,z5];unfold qC;rw[B.find z4];show(qr ps a q2 _).getLastD 0=(qr ps j q2 _).getLastD 0;rw[b j2 z3 a q2 z4 (),b j2 z3 j q2 z4 ()]
def BkP.rc {ps:List Pl}(B:BkP ps){j n:Nat}{q:Pl}(a:ps[j]? = some q)(h:j<n)(ts):qC ps n q.name ts=qC ps (j+1) q.name ts:=by
 unfold qC;rw[B.find a];show(qr ps n q _).getLastD 0=(qr ps (j+1) q _).getLastD 0;rw[B.fuel j n q a h]
abbrev Kn:=List (Str×Jz)
def kD (K:Kn):D:=.dct (K.map λx=>.inr x.1) (K.map λx=>jj x.2)
theorem kj (x:Str):∀K:Kn,(jH (K.map λx=>.inr x.1) (K.map λx=>jj x.2) (.inr x)=none/\x∉K.map (·.1))\/∃f,(x,f)∈K/\jH (K.map λx=>.inr x.1) (K.map λx=>jj x.2) (.inr x)=some (jj f)
 | []=>.inl ⟨rfl,λz=>nomatch z⟩
 |y::K=>by
  rw[Zl,Zl,Cs];by_cases c:y.1=x
  .grind
  .rcases kj x K with ⟨a,b⟩|⟨f,a,b⟩
   .grind
   grind
def wB:Nat->Int
 | 0=>1000000000000000000000000000000
 |j+1=>16*wB j
theorem ZE:∀j,1000000000000000000000000000000<=wB j
 | 0=>U5 _
 |j+1=>by have:=ZE j;show _<=16*wB j;lia
theorem IZ:∀{i j:Nat},i<=j->wB i<=wB j
 |i,0,h=>by simp_all
 |i,j+1,h=>by
  have p:=ZE j;rcases Vd j i with z|z
  .grind
  .have:=IZ z;show _<=16*wB j;lia
structure KOk (ps:List Pl)(K:Kn):Prop where
 nd:(K.map (·.1)).Nodup
 ok:∀x∈K,∃j q,ps[j]? = some q/\x.1=q.name/\Tf q.givens.length (wB (j+1)) x.2/\∀hs:Yh,hs.length=q.givens.length->J9 x.2 hs=qC ps (j+1) q.name hs
def zO (ps:List Pl)(j:Nat)(K b:Kn):Prop:=∀x∈b.map (·.1),x∈K.map (·.1)\/∃a q,a<j/\ps[a]? = some q/\x=q.name
theorem La:∀(ps:List Pl) (l:Yk),l.Nodup->(∀x∈l,∃q∈ps,x=q.name)->l.length<=ps.length
 | [],l,_,h=>by
  cases l with
  |nil=>exact Zf _
  |cons x l =>
   have ⟨q,a,_⟩:=h x Zqs;cases a
 |p::ps,l,nd,h=>by
  have b:=La ps (l.erase p.name) (nd.erase _) λx c=>by
   grind
  grind
theorem KOk.len {ps:List Pl}{K:Kn}(h:KOk ps K)(B:BkP ps):K.length<=4:=by
 have:=La ps (K.map (·.1)) h.nd λx a=>by
  obtain⟨y,b,rfl⟩:=Ja.mp a;obtain⟨j,q,c,e,_⟩:=h.ok y b;exact⟨q,Uf c,e⟩
 rw[Zql] at this;have:=B.len;lia
def vn (ps:List Pl)(n:Nat)(p:Pl)(j:Nat)(K:Kn):Prop:=(∀a,QM n [JE ps,.str p.name,.int 8,.adr a] [(a,kD K)]=.ex "TooMany" [])\/∃T b,KOk ps b/\zO ps j K b/\(∀g∈T,Tf p.givens.length (wB (j+1)) g)/\(∀hs:Yh,hs.length=p.givens.length->(T.map λg=>J9 g hs)=qr ps (j+1) p hs)/\T ≠ []/\∀a,QM n [JE ps,.str p.name,.int 8,.adr a] [(a,kD K)]=.ok (.lst (T.map jj),[(a,kD b)])
def wp {x:Res D}{f:D->Res (D×HP)}(h:x=K8):x.bind f=.ex "TooMany" []:=by rw[h];rfl
def tj {ps:List Pl}(B:BkP ps){n j:Nat}{p:Pl}(hp:ps[j]? = some p)(X:∀c q K,c<j->ps[c]? = some q->KOk ps K->vn ps n q c K){k:Nat}{r:Rw}(M:p.rows[k]? = some r){W:Int}{T:List Jz}(Y:∀g∈T,Tf p.givens.length W g)(lT:T.length=p.givens.length+k){K:Kn}(A:KOk ps K):
 (∀a,Qu n [JE ps,.str r.2.1,.lst ((r.2.2.map λp=>Ql (qu T p.1) p.2).map jj),.int 8,.adr a] [(a,kD K)]=.ex "TooMany" [])\/∃t i,KOk ps i/\zO ps j K i/\Tf p.givens.length (W+2*wB j) t/\(∀hs:Yh,J9 t hs=xo (qC ps j) (T.map λg=>J9 g hs) r)/\∀a,Qu n [JE ps,.str r.2.1,.lst ((r.2.2.map λp=>Ql (qu T p.1) p.2).map jj),.int 8,.adr a] [(a,kD K)]=.ok (jj t,[(a,kD i)]):=by
 have R:=(B.ok j p hp).row k r M;have sh:=R.sh;obtain⟨C,E⟩:=IQ Y (its:=r.2.2) (V:=1000000000000000000000000000000) (λy Z=>by have:=R.rng y Z;lia) R.wt;have pj:=ZE j;have ne:(r.2.2.map λp=>Ql (qu T p.1) p.2) ≠ []:=λz=>R.ne (Je.mp z);have N:(r.2.2.map λp=>Ql (qu T p.1) p.2).length=r.2.2.length:=Zql _;have same:zO ps j K K:=λx v=>.inl v;unfold xo;generalize (r.2.2.map λp=>Ql (qu T p.1) p.2)=fs at C E ne N;rcases B.how hp M with z|z|⟨z0,z1,z2,c,q,z3,z4,z5,z6⟩
 .rw[z];simp only[if_true];rcases IN ne C () with y|⟨t,m,o,s⟩
  .exact .inl λa=>by rw[IT];exact wp y
  .refine .inr ⟨t,K,A,same,o.mono (),λhs=>?_,λa=>?_⟩
   .rw[s,E]
   .rw[IT,m];rfl
 .rw[z];have d:¬("first" : Str) = "all" := by decide +kernel
  simp only[if_true,Ze d];rcases IP ne C () with y|⟨t,m,o,s⟩
  .exact .inl λa=>by rw[IU];exact wp y
  .refine .inr ⟨t,K,A,same,o.mono (),λhs=>?_,λa=>?_⟩
   .rw[s,E]
   .rw[IU,m];rfl
 .simp only[Ze z1,Ze z2];have rc:∀H,qC ps j r.2.1 H=qC ps (c+1) q.name H:=λH=>by rw[z5];exact B.rc z4 z3 H
  have J:fs.length=q.givens.length:=N.trans z6;have wj:=IZ (show c+1<=j from ());have O:∀hs,(fs.map λg=>J9 g hs).length=q.givens.length:=λhs=>(Zql _).trans J;rcases kj r.2.1 K with ⟨I,L⟩|⟨f,I,L⟩
  .rcases X c q K z3 z4 A with y|⟨U,i,k1,k2,k3,k4,k5,k6⟩
   .exact .inl λa=>ke z0 z1 z2 I (by have:=y a;rw[<- z5] at this;exact this)
   .obtain⟨ys,t,rfl⟩:=D0 k5;have P:Tf q.givens.length (wB (c+1)) t:=k3 t (Uq _ Zqs);have ct:∀hs:Yh,hs.length=q.givens.length->J9 t hs=qC ps (c+1) q.name hs:=λhs h=>by
     have e:=k4 hs h;obtain⟨zs,ez⟩:=B.part (n:=c) z4 hs;rw[ez,Ud] at e;have e:=Zt (λl=>l.getLastD 0) e;have e:((ys.map λg=>J9 g hs)++[J9 t hs]).getLastD 0=(zs++[qC ps (c+1) q.name hs]).getLastD 0:=e;rw[List.getLastD_concat,List.getLastD_concat] at e;exact e
    have Q:r.2.1∉i.map (·.1):=λy=>by
     rcases k2 _ y with y|⟨F,w,m,o,s⟩
     .exact L y
     .have e:q.name=w.name:=z5.symm.trans s;have:=B.inj c F q w z4 o e;lia
    have nk:(UN r.2.1:j7)∉i.map λx=>UN x.1:=λy=>by
     obtain⟨x,v,e⟩:=Ja.mp y;injection e with e
     exact Q (Ja.mpr ⟨x,v,e⟩)
    have l4:=k1.len B;have G:=λa=>sA (n:=n) (bk:=JE ps) (d:=.lst (fs.map jj)) z0 z1 z2 (a:=a) I (ys:=ys) (t:=t) (ks':=i.map λx=>.inr x.1) (ds':=i.map λx=>jj x.2) (by have:=k6 a;rw[<- z5] at this;exact this) (by rw[Zql,Zql]) nk (by rw[Zql];lia);have kd:∀a:Addr,[(a,D.dct ((i.map λx=>UN x.1)++[.inr r.2.1]) ((i.map λx=>jj x.2)++[jj t]))]=[(a,kD (i++[(r.2.1,t)]))]:=λa=>by
     unfold kD;rw[Ud,Ud];rfl
    have ko:KOk ps (i++[(r.2.1,t)]):=⟨by
     rw[Ud];refine List.nodup_append.mpr ⟨k1.nd,VW _ _,λa S b hb e=>?_⟩;rw[e,Jd.mp hb] at S;exact Q S,λx v=>by
     rcases Jb.mp v with y|y
     .exact k1.ok x y
     .rw[Jd.mp y];exact⟨c,q,z4,z5,P,ct⟩⟩
    have nw:zO ps j K (i++[(r.2.1,t)]):=λx v=>by
     rw[Ud] at v;rcases Jb.mp v with y|y
     .rcases k2 x y with y|⟨F,w,m,o,s⟩
      .exact .inl y
      .exact .inr ⟨F,w,(),o,s⟩
     .exact .inr ⟨c,q,z3,z4,(Jd.mp y).trans z5⟩
    rcases IR P J C with y|⟨u,m,o,s⟩
    .exact .inl λa=>by
      show Qu n _ [(a,D.dct _ _)]=_;rw[G a];exact wp y
    .refine .inr ⟨u,_,ko,nw,o.mono (),λhs=>?_,λa=>?_⟩
     .rw[s,ct _ (O hs),rc,E]
     .show Qu n _ [(a,D.dct _ _)]=_;rw[G a,m,kd];rfl
  .obtain⟨F,w,m,o,s,y4⟩:=A.ok _ I;have e:q.name=w.name:=z5.symm.trans o;have e:=B.inj c F q w z4 m e;subst e;rw[z4] at m;cases m;have G:=λa=>kc (n:=n) (bk:=JE ps) (d:=.lst (fs.map jj)) z0 z1 z2 (a:=a) L;rcases IR s J C with y|⟨u,x1,x2,x3⟩
   .exact .inl λa=>by
     show Qu n _ [(a,D.dct _ _)]=_;rw[G a];exact wp y
   .refine .inr ⟨u,K,A,same,x2.mono (),λhs=>?_,λa=>?_⟩
    .rw[x3,y4 _ (O hs),rc,E]
    .show Qu n _ [(a,D.dct _ _)]=_;rw[G a,x1];rfl
def tO {T:List Jz}{its:Jy}(h:∀p∈its,0<=p.1/\p.1<(T.length:Int))(hs:∀g∈T,g.length<=1000/\∀r∈g,r.length<=1000):qd (.tup [0,1]) (Ki yD (J0 (K3 2 (jb 0)) (J0 (jb 1) jc))) [none,none,some (.own false (.lst (T.map jj)))] (its.map qm)=.ok ((its.map λp=>Ql (qu T p.1) p.2).map jj):=by
 rw[Zw];exact K4 λp hp=>by
  obtain⟨b,c⟩:=h p hp;have a:=IF b c;obtain⟨e,f⟩:=hs _ (Bj b c);have i:=gg (w:=p.2) e f
  simp_all
def X2 (n:Nat):qP:=(AH (vg (j3 9 (Xu [none,none,some 5] 2 (iS (jb 8)) (.tup [0,1]) (Ki yD (J0 (K3 2 (jb 0)) (J0 (jb 1) jc)))))) (V6 5 (V7 (Qu n) (J0 (jb 0) (J0 (jb 7) (J0 (jb 9) (J0 (jb 2) (J0 (jb 3) jc))))))))
def yt (bk nm pl:D)(a:Addr)(T:YH)(u6 u7 u8 u9:Option SV):SD:=[some (.val bk),some (.val nm),some (.val (.int 8)),some (.val (.adr a)),some (.val pl),some (.own false (.lst T)),u6,u7,u8,u9]
def sY {n:Nat}{bk nm pl:D}{a:Addr}{T:List Jz}{u6 u7 u8 u9:Option SV}{hp:HP}{r:Rw}(f:∀p∈r.2.2,0<=p.1/\p.1<(T.length:Int))(hs:∀g∈T,g.length<=1000/\∀r∈g,r.length<=1000)(l:r.2.2.length<=1000):
 KS (.tup [6,7,8]) (X2 n) (jF r) (yt bk nm pl a (T.map jj) u6 u7 u8 u9) hp=V6 5 (V7 (Qu n) (J0 (jb 0) (J0 (jb 7) (J0 (jb 9) (J0 (jb 2) (J0 (jb 3) jc)))))) (yt bk nm pl a (T.map jj) (some (.val (.str r.1))) (some (.val (.str r.2.1))) (some (.val (jz r.2.2))) (some (.val (.lst ((r.2.2.map λp=>Ql (qu T p.1) p.2).map jj))))) hp:=by
 have h:=tO f hs;have i:=Qc l;have j:∀a b c d e u6 u7 u8 u9,capO [none,none,some 5] 2 [a,b,c,d,e,some (.own false (.lst (T.map jj))),u6,u7,u8,u9]=[none,none,some (.own false (.lst (T.map jj)))]:=λ_ _ _ _ _ _ _ _ _=>rfl
 simp_all [yt,X2]
def sB {n:Nat}{bk nm pl d:D}{a:Addr}{T:YH}{u6:Option SV}{b:Option SV}{how fs:D}{hp hp':HP}(h:Qu n [bk,how,fs,.int 8,.adr a] hp=.ok (d,hp'))(l:T.length<=1000):
 V6 5 (V7 (Qu n) (J0 (jb 0) (J0 (jb 7) (J0 (jb 9) (J0 (jb 2) (J0 (jb 3) jc)))))) (yt bk nm pl a T u6 (some (.val how)) b (some (.val fs))) hp=.ok (.next (yt bk nm pl a (T++[d]) u6 (some (.val how)) b (some (.val fs))) hp'):=by
 have z:=Qc l
 simp_all [yt,V6]
def sk {n:Nat}{bk nm pl:D}{a:Addr}{T:YH}{u6:Option SV}{e:Option SV}{how fs:D}{hp:HP}{c:Str}{b:YH}(h:Qu n [bk,how,fs,.int 8,.adr a] hp=.ex c b):
 V6 5 (V7 (Qu n) (J0 (jb 0) (J0 (jb 7) (J0 (jb 9) (J0 (jb 2) (J0 (jb 3) jc)))))) (yt bk nm pl a T u6 (some (.val how)) e (some (.val fs))) hp=.ex c b:=by
 simp_all [yt,V6]
def sx {b:D->qP}{x:D}{e:YH}{sd:SD}{hp:HP}{c:Str}{a:YH}(h:b x sd hp=.ex c a):xg b (x::e) sd hp=.ex c a:=by
 simp_all [xg]
def Lb {b:D->qP}{x:D}{a:YH}{sd sd':SD}{hp hp':HP}(h:b x sd hp=.ok (.next sd' hp')):xg b (x::a) sd hp=xg b a sd' hp':=by
 rw[xg,h];rfl
theorem Lc {ps:List Pl}(B:BkP ps){n j:Nat}{p:Pl}(hp:ps[j]? = some p)(G:∀u q K,u<j->ps[u]? = some q->KOk ps K->vn ps n q u K):∀(b:List Rw) i,p.rows.drop i=b->i<=p.rows.length->∀(T:List Jz) (K:Kn),(∀g∈T,Tf p.givens.length ((i:Int)*(2*wB j)) g)->T.length=p.givens.length+i->(∀hs:Yh,hs.length=p.givens.length->(T.map λg=>J9 g hs)=jP (qC ps j) (p.rows.take i) hs)->KOk ps K ->
 (∀nm pl a u6 u7 u8 u9,xg (KS (.tup [6,7,8]) (X2 n)) (b.map jF) (yt (JE ps) nm pl a (T.map jj) u6 u7 u8 u9) [(a,kD K)]=.ex "TooMany" [])\/∃(f:List Jz) (l:Kn),KOk ps l/\zO ps j K l/\(∀g∈f,Tf p.givens.length ((p.rows.length:Int)*(2*wB j)) g)/\f.length=p.givens.length+p.rows.length/\(∀hs:Yh,hs.length=p.givens.length->(f.map λg=>J9 g hs)=jP (qC ps j) p.rows hs)/\∀nm pl a u6 u7 u8 u9,∃v A C E,xg (KS (.tup [6,7,8]) (X2 n)) (b.map jF) (yt (JE ps) nm pl a (T.map jj) u6 u7 u8 u9) [(a,kD K)]=.ok (.next (yt (JE ps) nm pl a (f.map jj) v A C E) [(a,kD l)])
 | [],i,hd,hi,T,K,hT,lT,cT,hK=>by
  have e:i=p.rows.length:=by
   have:=List.drop_eq_nil_iff.mp hd;lia
  subst e;rw[US] at cT;exact .inr ⟨T,K,hK,λx m=>.inl m,hT,lT,cT,λnm pl a u6 u7 u8 u9=>⟨u6,u7,u8,u9,rfl⟩⟩
 |r::b,i,hd,hi,T,K,hT,lT,cT,hK=>by
  have c:i<p.rows.length:=by
   rcases Vd i p.rows.length with z|z
   .exact z
   .rw[List.drop_eq_nil_iff.mpr z] at hd;cases hd
  rw[Ut c] at hd;injection hd with h1 h2
  have F:p.rows[i]? = some r:=by rw[Zqg c,h1]
  have P:=B.ok j p hp;have R:=P.row i r F;have J:=P.g2;have L:=P.r2;have M:=R.sh;have rs:=λ(nm pl:D) (a:Addr) u6 u7 u8 u9=>sY (n:=n) (bk:=JE ps) (nm:=nm) (pl:=pl) (a:=a) (T:=T) (u6:=u6) (u7:=u7) (u8:=u8) (u9:=u9) (hp:=[(a,kD K)]) (r:=r) (λy H=>by have:=R.rng y H;lia) (λg s=>⟨by have:=(hT g s).len;lia,λx m=>by have:=((hT g s).cn.rows x m).len;lia⟩) ();rcases tj B hp G F hT lT hK with z|⟨t,K1,k1,k2,k3,k4,k5⟩
  .exact .inl λnm pl a u6 u7 u8 u9=>sx (by rw[rs];exact sk (z a))
  .have st:∀(nm pl:D) a u6 u7 u8 u9,KS (.tup [6,7,8]) (X2 n) (jF r) (yt (JE ps) nm pl a (T.map jj) u6 u7 u8 u9) [(a,kD K)]=.ok (.next (yt (JE ps) nm pl a ((T++[t]).map jj) (some (.val (.str r.1))) (some (.val (.str r.2.1))) (some (.val (jz r.2.2))) (some (.val (.lst ((r.2.2.map λp=>Ql (qu T p.1) p.2).map jj))))) [(a,kD K1)]):=λnm pl a u6 u7 u8 u9=>by
    rw[rs,sB (k5 a) (by rw[Zql];lia),Ud];rfl
   have N:=ZE j;have o:((i+1:Nat):Int)*(2*wB j)=(i:Int)*(2*wB j)+2*wB j:=by rw[Int.natCast_add,Int.add_mul];lia
   have I:=Lc B hp G b (i+1) h2 c (T++[t]) K1 (λg s=>by
    rcases Jb.mp s with y|y
    .exact(hT g y).mono (by rw[o];lia)
    .rw[Jd.mp y];exact k3.mono (by rw[o];lia)) (by rw[Ub,Ur];lia) (λhs h=>by
    rw[Ud,cT hs h,D1 F,<- cT hs h];show _++[J9 t hs]=_;rw[k4]) k1
   rcases I with y|⟨f,l,y1,y2,y3,y4,y5,y6⟩
   .exact .inl λnm pl a u6 u7 u8 u9=>(Lb (st nm pl a u6 u7 u8 u9)).trans (y nm pl a _ _ _ _)
   .refine .inr ⟨f,l,y1,λx m=>?_,y3,y4,y5,λnm pl a u6 u7 u8 u9=>?_⟩
    .rcases y2 x m with w|w
     .exact k2 x w
     .exact .inr w
    .obtain⟨v,A,C,E,e⟩:=y6 nm pl a _ _ _ _;exact⟨v,A,C,E,(Lb (st nm pl a u6 u7 u8 u9)).trans e⟩
theorem sG {g t:Nat}(h:t<g)(a:g<=12):Tf g 0 [[((t:Int),0)]]:=by
 have b:JRow [((t:Int),(0:Int))]:=⟨List.cons_ne_nil _ _,VW _ _,()⟩;refine⟨⟨List.cons_ne_nil _ _,(),W9 xM (Ww _) () λr=>⟨λh=>(x8.mp h).1,λh=>x8.mpr ⟨h,wc.mpr ()⟩⟩⟩,(),λr c p hp=>?_⟩
 simp_all
def yz (g:Nat):List Jz:=(List.range g).map λt:Nat=>[[((t:Int),(0:Int))]]
def tP {g:Nat}{hs:Yh}(h:hs.length=g):((yz g).map λf=>J9 f hs)=hs:=by
 unfold yz;apply VP;intro i;rcases Vd i g with z|z
 .have e:J9 [[((i:Int),(0:Int))]] hs=jA hs (i:Int)+0:=rfl
  simp_all [jA]
 simp_all
theorem Ld {ps:List Pl}(B:BkP ps):∀(n j:Nat) (p:Pl) (K:Kn),ps[j]? = some p->j<n->KOk ps K->vn ps n p j K
 | 0,_,_,_,_,h,_=>Zn h (UJ _)
 |n+1,j,p,K,hp,hj,hK=>by
  have P:=B.ok j p hp;have s:=P.g1;have u:=P.g2;have f:=Ip (B.at hp).2.2.1 B.ascs (B.find hp);have v:Ko [.int (p.givens.length:Nat)]=.ok (JQ 0 p.givens.length):=by rw[KF () ()];rfl
  have w:qd (.one 0) (Ki wK (J0 (jb 0) jc)) [none] (JQ 0 p.givens.length)=.ok ((yz p.givens.length).map jj):=by
   unfold yz;rw[Zw];exact CI λi x=>by simp
  have y:qY "Plan" "givens" (Qt p)=some (.lst (p.givens.map .str)):=rfl;have A:qY "Plan" "rows" (Qt p)=some (.lst (p.rows.map jF)):=rfl;have l:(p.givens.map D.str).length=p.givens.length:=Zql _;have C:=Qc (show p.givens.length<=1000 from ());have st:∀a,Qz 10 [JE ps,.str p.name,.int 8,.adr a]=[some (.val (JE ps)),some (.val (.str p.name)),some (.val (.int 8)),some (.val (.adr a)),none,none,none,none,none,none]:=λa=>rfl;have b:∀a (X:Res (D×HP)),(y8 (AI (iS (qM (qY "Plan" "rows") (jb 4))) (.tup [6,7,8]) (X2 n)) (wx 5 (zr (jb 5)))) (yt (JE ps) (.str p.name) (Qt p) a ((yz p.givens.length).map jj) none none none none) [(a,kD K)]=X->ZD (Qu n) (Qz 10 [JE ps,.str p.name,.int 8,.adr a]) [(a,kD K)]=X:=λa X h=>by
   rw[st];unfold ZD;refine fO (sd':=[some (.val (JE ps)),some (.val (.str p.name)),some (.val (.int 8)),some (.val (.adr a)),some (.val (Qt p)),none,none,none,none,none]) (Ij (by simp[f])) ?_;refine fO (Ij (sd':=yt (JE ps) (.str p.name) (Qt p) a ((yz p.givens.length).map jj) none none none none) ?_) h
   simp_all [yt,Wr]
  have it:∀a T u6 u7 u8 u9,iS (qM (qY "Plan" "rows") (jb 4)) (yt (JE ps) (.str p.name) (Qt p) a T u6 u7 u8 u9)=.ok (p.rows.map jF):=λa T u6 u7 u8 u9=>by
   rfl
  have go:=Lc B hp (n:=n) (λm q K E o r=>Ld B n m q K o () r) p.rows 0 rfl (Ua _) (yz p.givens.length) K (λg c=>by
   obtain⟨t,F,rfl⟩:=Ja.mp c
   grind[sG]) (by unfold yz;rw[Zql,ZB];rfl) (λhs h=>by rw[tP h];rfl) hK
  rcases go with z|⟨T,K',k1,k2,k3,k4,k5,k6⟩
  .refine .inl λa=>?_;refine IS rfl (b a _ ?_)
   simp_all
  .refine .inr ⟨T,K',k1,k2,λg c=>(k3 g c).mono ?_,λhs h=>?_,λe=>?_,λa=>?_⟩
   .have G:=ZE j;have H:=P.r2;have:=Int.mul_le_mul_of_nonneg_right (show(p.rows.length:Int)<=8 by lia) (show 0<=2*wB j from ());show _<=16*wB j;lia
   .rw[k5 hs h];rfl
   .grind
   .refine TL rfl (b a _ ?_);obtain⟨I,J,L,M,e⟩:=k6 (.str p.name) (Qt p) a none none none none;rw[Ii,SN,it,jy,e,jy];rfl
def Bl:FS:=(j0 (Dm (QM 4) (.dct [] []) (J0 (jb 0) (J0 (jb 1) (J0 (jb 2) jc)))))
def KZ:YH->Res D:=jE 3 3 Bl
def ZF:FS:=(ji (j3 2 (dC .non)) (ji (z8 2 "TooMany" KZ (J0 (jb 0) (J0 (jb 1) (J0 (dC (.int 8)) jc))) (j3 2 (dC .non))) (j0 (jb 2))))
def Uk:YH->Res D:=jE 3 2 ZF
def tF {ps:List Pl}(B:BkP ps){j:Nat}{p:Pl}(hp:ps[j]? = some p):KZ [JE ps,.str p.name,.int 8]=K8\/∃T,KZ [JE ps,.str p.name,.int 8]=.ok (.lst (T.map jj))/\(∀g∈T,Tf p.givens.length (wB (j+1)) g)/\FsO ps p T:=by
 have P:=B.ok j p hp;have m:=P.g2;have n:=P.r2;have e:=(B.at hp).2.1;have f:∀x:Res D,(∀a,(QM 4 [JE ps,.str p.name,.int 8,.adr a] [(a,.dct [] [])]).bind (λq=>.ok q.1)=x)->KZ [JE ps,.str p.name,.int 8]=x:=λx h=>by
  have c:Dm (QM 4) (.dct [] []) (J0 (jb 0) (J0 (jb 1) (J0 (jb 2) jc))) [some (.val (JE ps)),some (.val (.str p.name)),some (.val (.int 8))]=x:=Ti h;generalize JE ps=bk at c;simp[KZ,Bl,c];cases x<;>rfl
 rcases Ld B 4 j p [] hp e ⟨VB,λx h=>nomatch h⟩ with z|⟨T,K',k1,k2,k3,k4,k5,k6⟩
 .exact .inl (f K8 λa=>by
   have:=z a;show Res.bind (QM 4 [JE ps,.str p.name,.int 8,.adr a] [(a,kD [])]) _=_;rw[this];rfl)
 .have o:T.length=p.givens.length+p.rows.length:=by
   have:=Zt List.length (k4 (List.replicate p.givens.length 0) (VQ));rw[Zql,D3,VQ] at this;exact this
  refine .inr ⟨T,f (.ok (.lst (T.map jj))) λa=>?_,k3,k5,(),λg l=>?_,λhs h=>?_⟩
  .have:=k6 a;show Res.bind (QM 4 [JE ps,.str p.name,.int 8,.adr a] [(a,kD [])]) _=_;rw[this];rfl
  .have G:=k3 g l;have s:=G.len;exact⟨G.cn.ne,(),λr b=>⟨(G.cn.rows r b).ne,by have:=(G.cn.rows r b).len;lia,λx i=>⟨((G.cn.rows r b).bnd x i).1,(G.th r b x i).1⟩⟩⟩
  .rw[k4 hs h,B.fuel j 4 p hp e]
def dc {bk nm:D}(h:KZ [bk,nm,.int 8]=K8):Uk [bk,nm]=.ok .non:=by
 unfold K8 at h;simp[Uk,ZF,h]
def gk {bk nm d:D}(h:KZ [bk,nm,.int 8]=.ok d):Uk [bk,nm]=.ok d:=by
 simp[Uk,ZF,h]
def X3:FS:=(ji (qi (JD (jf xm (jf jK (jb 0) (dC (.int 3))) (dC (.int 1)))) (ji (j3 1 (jf jK (jf qE (jf Qp (jb 0) (dC (.int 6))) (jf js (jf qS (dC (.int 10)) (dC (.int 29))) (dC (.int 57)))) (jf qS (dC (.int 10)) (dC (.int 59))))) (j0 (jf jt (qN (J0 (jb 1) (J0 (qM qT (jb 1)) jc))) (jf jK (jf Qp (jb 0) (dC (.int 3))) (dC (.int 2)))))) JN) (j0 (jf y0 (jf jK (jf Qp (jb 0) (dC (.int 3))) (dC (.int 9))) (dC (.int 4)))))
def WR:YH->Res D:=jE 2 1 X3
def vj (c:Int):Int:=if c % 3=1 then(if c / 3 % 2=0 then c / 6*((10:Int) ^ (29:Nat)+57) % (10:Int) ^ (59:Nat) else -(c / 6*((10:Int) ^ (29:Nat)+57) % (10:Int) ^ (59:Nat))) else c / 3 % 9-4
def sV {c:Int}(g:0<=c)(b:c<(10:Int) ^ (63:Nat)):c.natAbs<y9:=by
 have e:(10:Nat) ^ 63<=y9:=by decide +kernel
 have f:(10:Int) ^ (63:Nat)=(((10:Nat) ^ 63:Nat):Int):=by decide +kernel
 rw[f] at b;generalize (10:Nat) ^ 63=a at e b;lia
def sN (x y:D):jX [x,y] 0=some x:=rfl
def sM (x y:D):jX [x,y] 1=some y:=rfl
def gy {c:Int}(a:0<=c)(h:c<(10:Int) ^ (63:Nat)):WR [.int c]=.ok (.int (vj c)):=by
 have i:Km (c / 6) 100000000000000000000000000057=true:=Pr (sV (Int.ediv_nonneg a ()) (Int.lt_of_le_of_lt (Int.ediv_le_self _ a) h)) (by decide +kernel);have b:=WJ i;have e:qS (.int 10) (.int 29)=some (.int (10 ^ 29)):=rfl;have f:qS (.int 10) (.int 59)=some (.int (10 ^ 59)):=rfl;clear a h i;unfold vj;by_cases g:c % 3=1
 .have c2:c / 3 % 2=0\/c / 3 % 2=1:=()
  rcases c2 with c2|c2
  .simp[WR,X3,g,c2,b,e,f,sN]
  .simp[WR,X3,g,c2,b,e,f,sM]
 .simp[WR,X3,g,b,e,f]
def Bm:FS:=(ji (qb 4 (qN jc)) (ji (jL (yx (J0 (jb 3) jc)) (.one 5) (ji (j3 6 (J5 QL (J0 (jb 0) (J0 (jf js (jf js (jb 2) (dC (.int 12))) (jb 5)) jc)))) (Q6 4 (J5 WR (J0 (jf jK (jf js (jf qE (jf js (jb 1) (jb 6)) (dC (.int 48271))) (jf qE (dC (.int 104729)) (jb 5))) (jf js (jf qS (dC (.int 10)) (dC (.int 61))) (dC (.int 7)))) jc))))) (Kg 4)))
def ZG:YH->Res D:=qf 7 4 Bm
def gn {ns:Yh}(l:ns.length<=1000)(a:Int){at_ many:Nat}(u:at_<=1000)(v:many<=12):∃hs:Yh,hs.length=many/\ZG [.scr ns,.int a,.int at_,.int many]=.ok (.lst (hs.map .int)):=by
 have m:Ko [.int (many:Nat)]=.ok (JQ 0 many):=by rw[KF () ()];rfl
 have n:qS (.int 10) (.int 61)=some (.int 10000000000000000000000000000000000000000000000000000000000000):=rfl;obtain⟨sd',e,hs,g,u6,h,f⟩:=Ka (tg:=.one 5) (b:=ji (j3 6 (J5 QL (J0 (jb 0) (J0 (jf js (jf js (jb 2) (dC (.int 12))) (jb 5)) jc)))) (Q6 4 (J5 WR (J0 (jf jK (jf js (jf qE (jf js (jb 1) (jb 6)) (dC (.int 48271))) (jf qE (dC (.int 104729)) (jb 5))) (jf js (jf qS (dC (.int 10)) (dC (.int 61))) (dC (.int 7)))) jc))))
  (ds:=JQ 0 many) (sd:=[some (.val (.scr ns)),some (.val (.int a)),some (.val (.int at_)),some (.val (.int many)),some (.own false (.lst [])),none,none])
  (P:=λi sd=>∃(hs:Yh) (g u6:Option SV),sd=[some (.val (.scr ns)),some (.val (.int a)),some (.val (.int at_)),some (.val (.int many)),some (.own false (.lst (hs.map .int))),g,u6]/\hs.length=i) ⟨[],none,none,rfl,rfl⟩ (by
   rintro i x sd o ⟨hs,g,u6,rfl,f⟩;obtain⟨rfl,w⟩:=WK o;rw[Vr];have j:=Xz ns (k:=(at_:Int)+12+i) () () l;generalize Qf ns ((at_:Int)+12+i)=c at j;have p:qE (.int (a+c)) (.int 48271)=some (.int ((a+c)*48271)):=WJ (CC () ());have m2:qE (.int 104729) (.int (i:Int))=some (.int (104729*(i:Int))):=WJ (CD () ());obtain⟨y,ey⟩:∃y,y=(a+c)*48271+104729*(i:Int):=⟨_,rfl⟩;have q:=Vs y (show(10000000000000000000000000000000000000000000000000000000000007:Int)≠0 by lia);have r:=Vt y (show(0:Int)<10000000000000000000000000000000000000000000000000000000000007 by lia);have s:=gy q (Int.lt_trans r (by decide +kernel));have md:jK (.int y) (.int 10000000000000000000000000000000000000000000000000000000000007)=some (.int (y % 10000000000000000000000000000000000000000000000000000000000007)):=Y3 ();generalize y % 10000000000000000000000000000000000000000000000000000000000007=z at *;have t:=Qc (show hs.length<=1000 from ());refine⟨[some (.val (.scr ns)),some (.val (.int a)),some (.val (.int at_)),some (.val (.int many)),some (.own false (.lst ((hs++[vj z]).map .int))),some (.val (.int i)),some (.val (.int c))],?_,_,_,_,rfl,by rw[Ub,f];rfl⟩;rw[Ud];simp[j,p,m2,n,<- ey,md,s,t])
 subst h;rw[Wr] at f;refine⟨hs,f,?_⟩;simp[ZG,Bm,m,e]
def Bn:FS:=(ji (j3 3 (dC (.int 1))) (ji (jL (iS (jb 0)) (.one 4) (jL (iS (jb 4)) (.one 5) (j3 3 (jf js (jb 3) (jq yP (J0 (jf jt (jb 5) (dC (.int 1))) jc)))))) (ji (qb 6 (Qy [none,some 3] (yx (J0 (jb 2) jc)) (.one 0) (jb 1))) (ji (jL (iS (jb 1)) (.one 5) (Ws 6 (jf jt (jb 5) (dC (.int 0))) (qM qT (jf jt (jb 5) (dC (.int 1)))))) (Kg 6)))))
def ZH:YH->Res D:=qf 7 3 Bn
def DH {hs:Yh}{k v t:Int}(k0:0<=k)(k1:k<(hs.length:Int))(a:0<=t):jA (hs.set k.toNat v) t=if t=k then v else jA hs t:=by
 unfold jA;rw[Us,Us,List.getElem?_set];by_cases c:t=k
 .subst c;rw[Zd rfl,Zd (),Zd rfl];rfl
 .rw[Ze (),Ze c]
def t4 {n:Nat}{x t:Int}(a:0<=t)(b:t<(n:Int)):jA (List.replicate n x) t=x:=by
 unfold jA;rw[Us,VE,Zd ()];rfl
def sL (a:Int)(n:Nat):qd (.one 0) (jb 1) [none,some (.val (.int a))] (JQ 0 n)=.ok ((List.replicate n a).map .int):=by
 rw[List.map_replicate];have m:=CI (tg:=.one 0) (f:=jb 1) (c:=[none,some (.val (.int a))]) (lo:=0) (n:=n) (g:=λ_=>.int a) λi b=>by simp
 rw[m]
 congr 1
 apply VP;intro i;rw[Zv,VE];by_cases c:i<n
 .rw[List.getElem?_range c,Zd c];rfl
 .rw[Vq (by rw[ZB];lia),Ze c];rfl
structure Corn (r:Jy)(far:Int)(n:Nat)(hs:Yh):Prop where
 len:hs.length=n
 at_:∀p∈r,jA hs p.1 = -p.2
 oth:∀t,0<=t->t<(n:Int)->(∀p∈r,p.1≠t)->jA hs t=far
def Le {f:Jz}{r s:Jy}{b:Int}{n:Nat}{hs:Yh}{W:Int}(T:Tf n W f)(i:r∈f)(a:s∈f)(C:Corn r b n hs)(j:∀s∈f,∀p∈s,-p.2<b)(h:∀p∈s,jA hs p.1+p.2<=0):s=r:=by
 have R:=T.cn.rows r i;refine T.cn.anti s a r i (yJ.mpr λp hp=>?_);have c:=((T.cn.rows s a).bnd p hp).1;have g:=(T.th s a p hp).1;have m:=h p hp;cases e:JC r p.1 with
 |some w =>
  have:=C.at_ (p.1,w) (Qi e);have this:jA hs p.1 = -w:=this;exact⟨w,rfl,()⟩
 |none =>
  exfalso;have:=C.oth p.1 c g λx l z=>by
   have:=R.once.look (t:=x.1) (w:=x.2) l;rw[z,e] at this;cases this
  have:=j s a p hp;lia
def tH {f:Jz}{r:Jy}{a:Int}{n:Nat}{hs:Yh}{W:Int}(T:Tf n W f)(c:r∈f)(C:Corn r a n hs)(h:∀s∈f,∀p∈s,-p.2<a):J9 f hs=0:=by
 have R:=T.cn.rows r c;have i:Qd r hs<=0:=(YR R.ne).mpr λp hp=>by rw[C.at_ p hp];lia
 have j:=KW (hs:=hs) c;obtain⟨s,b,e⟩:=V8 (hs:=hs) T.cn.ne;rcases Int.lt_or_le (J9 f hs) 0 with z|z
 .exfalso;have S:=T.cn.rows s b;have g:=(YR (x:=-1) S.ne).mp (show Qd s hs <= -1 from ());have es:=Le T c b C h λp hp=>by have:=g p hp;lia
  subst es;obtain⟨p,hp⟩:=List.exists_mem_of_ne_nil _ S.ne;have:=g p hp;rw[C.at_ p hp] at this;lia
 .omega
def tz {f:Jz}{r:Jy}{b:Int}{n:Nat}{hs:Yh}{W:Int}(T:Tf n W f)(g:r∈f)(C:Corn r b n hs)(l:∀s∈f,∀p∈s,-p.2<b){p:Int×Int}(hp:p∈r):J9 f (hs.set p.1.toNat (jA hs p.1+1))=1:=by
 have R:=T.cn.rows r g;have i:=(R.bnd p hp).1;have b1:=(T.th r g p hp).1;have o:=C.len;obtain⟨ks,ek⟩:∃ks,ks=hs.set p.1.toNat (jA hs p.1+1):=⟨_,rfl⟩;have h:∀t,0<=t->jA ks t=if t=p.1 then jA hs p.1+1 else jA hs t:=λt m=>by rw[ek];exact DH i () m
 rw[<- ek];have u:Qd r ks<=1:=(YR R.ne).mpr λq a=>by
  rw[h q.1 (R.bnd q a).1]
  split
  .rename_i z;rw[Dr R.once a hp z,C.at_ p hp];lia
  .rw[C.at_ q a];lia
 have v:=KW (hs:=ks) g;obtain⟨s,c,e⟩:=V8 (hs:=ks) T.cn.ne;rcases Int.lt_or_le (J9 f ks) 1 with z|z
 .exfalso;have S:=T.cn.rows s c;have j:=(YR (x:=0) S.ne).mp (show Qd s ks<=0 from ());have es:=Le T g c C l λq a=>by
   have:=j q a;rw[h q.1 (S.bnd q a).1] at this
   split at this
   .rename_i y;rw[y];lia
   .exact this
  subst es;have:=j p hp;rw[h p.1 i,Zd rfl,C.at_ p hp] at this;lia
 .omega
def gm {f:Jz}{r:Jy}{n:Nat}(N:n<=1000)(H:JRow r)(O:∀p∈r,p.1<(n:Int)):∃(a:Int) (hs:Yh),ZH [jj f,jz r,.int n]=.ok (.lst (hs.map .int))/\Corn r a n hs/\∀s∈f,∀p∈s,p.2<a /\ -p.2<a:=by
 have Q:Ko [.int (n:Nat)]=.ok (JQ 0 n):=by rw[KF () ()];rfl
 have v:∀(s:Jy) (x:Int) (l g:Option SV),∃(y:Int) (j:Option SV),q9 (.one 5) (j3 3 (jf js (jb 3) (jq yP (J0 (jf jt (jb 5) (dC (.int 1))) jc)))) (s.map qm) [some (.val (jj f)),some (.val (jz r)),some (.val (.int n)),some (.val (.int x)),g,l,none]=.ok (.next [some (.val (jj f)),some (.val (jz r)),some (.val (.int n)),some (.val (.int y)),g,j,none])/\x<=y/\∀p∈s,x+p.2<=y/\x-p.2<=y:=λs x l g=>by
  obtain⟨sd',e,y,j,I,F,m⟩:=Ka (tg:=.one 5) (b:=j3 3 (jf js (jb 3) (jq yP (J0 (jf jt (jb 5) (dC (.int 1))) jc)))) (ds:=s.map qm) (sd:=[some (.val (jj f)),some (.val (jz r)),some (.val (.int n)),some (.val (.int x)),g,l,none])
   (P:=λi sd=>∃(y:Int) (j:Option SV),sd=[some (.val (jj f)),some (.val (jz r)),some (.val (.int n)),some (.val (.int y)),g,j,none]/\x<=y/\∀p∈s.take i,x+p.2<=y/\x-p.2<=y) ⟨x,l,rfl,U5 _,λp hp=>by simp at hp⟩ (by
    rintro i d sd w ⟨y,j,rfl,F,m⟩;obtain⟨p,hp,rfl⟩:=QK w;have tk:s.take (i+1)=s.take i++[p]:=by rw[VC,hp];rfl
    refine⟨[some (.val (jj f)),some (.val (jz r)),some (.val (.int n)),some (.val (.int (y+(if p.2<0 then -p.2 else p.2)))),g,some (.val (qm p)),none],?_,y+(if p.2<0 then -p.2 else p.2),_,rfl,by split<;>lia,λq o=>?_⟩
    .generalize jz r=rd;generalize jj f=fd;simp
    .rw[tk] at o;rcases Jb.mp o with z|z
     .have:=m q z
      split<;>lia
     .rw[Jd.mp z]
      split<;>lia)
  rw[Zql,US] at m;subst I;exact⟨y,j,e,F,m⟩
 obtain⟨R,S,a,g,l,A,F,m⟩:=Ka (tg:=.one 4) (b:=jL (iS (jb 4)) (.one 5) (j3 3 (jf js (jb 3) (jq yP (J0 (jf jt (jb 5) (dC (.int 1))) jc))))) (ds:=f.map jz) (sd:=[some (.val (jj f)),some (.val (jz r)),some (.val (.int n)),some (.val (.int 1)),none,none,none])
  (P:=λi sd=>∃(y:Int) (g l:Option SV),sd=[some (.val (jj f)),some (.val (jz r)),some (.val (.int n)),some (.val (.int y)),g,l,none]/\1<=y/\∀s∈f.take i,∀p∈s,p.2<y /\ -p.2<y) ⟨1,none,none,rfl,U5 _,λp hp=>by simp at hp⟩ (by
   rintro i d sd w ⟨y,g,l,rfl,F,m⟩;obtain⟨s,hs,rfl⟩:=QK w;have tk:f.take (i+1)=f.take i++[s]:=by rw[VC,hs];rfl
   obtain⟨z,j,e,g1,T⟩:=v s y l (some (.val (jz s)));have U:K2 (jz s)=some (s.map qm):=rfl;refine⟨[some (.val (jj f)),some (.val (jz r)),some (.val (.int n)),some (.val (.int z)),some (.val (jz s)),j,none],?_,z,_,_,rfl,(),λq o p hp=>?_⟩
   .generalize jz s=sd at *;generalize jz r=rd at *;generalize jj f=fd at *;simp[U,e]
   .rw[tk] at o;rcases Jb.mp o with c|c
    .have:=m q c p hp;lia
    .rw[Jd.mp c] at hp;have:=T p hp;lia)
 rw[Zql,US] at m;subst A;have k0:qd (.one 0) (jb 1) [none,some (.val (.int a))] (JQ 0 n)=.ok ((List.replicate n a).map .int):=sL a n;obtain⟨X,Y,hs,j,B,C,u⟩:=Ka (tg:=.one 5) (b:=Ws 6 (jf jt (jb 5) (dC (.int 0))) (qM qT (jf jt (jb 5) (dC (.int 1))))) (ds:=r.map qm) (sd:=[some (.val (jj f)),some (.val (jz r)),some (.val (.int n)),some (.val (.int a)),g,l,some (.own false (.lst ((List.replicate n a).map .int)))])
  (P:=λi sd=>∃(hs:Yh) (j:Option SV),sd=[some (.val (jj f)),some (.val (jz r)),some (.val (.int n)),some (.val (.int a)),g,j,some (.own false (.lst (hs.map .int)))]/\(hs.length=n/\∀t,0<=t->t<(n:Int)->(∀p∈r,p.1≠t)->jA hs t=a)/\∀p∈r.take i,jA hs p.1 = -p.2)
  ⟨_,l,rfl,⟨VQ,λt G J _=>t4 G J⟩,λp hp=>by simp at hp⟩ (by
   rintro i d sd w ⟨hs,j,rfl,⟨Z,K⟩,u⟩;obtain⟨p,hp,rfl⟩:=QK w;have E:=Uf hp;have tk:r.take (i+1)=r.take i++[p]:=by rw[VC,hp];rfl
   have L:=(H.bnd p E).1;have b1:=O p E;have ix:xJ hs.length p.1=some p.1.toNat:=by
    unfold xJ;rw[Zd L,Zd ()]
   refine⟨[some (.val (jj f)),some (.val (jz r)),some (.val (.int n)),some (.val (.int a)),g,some (.val (qm p)),some (.own false (.lst ((hs.set p.1.toNat (-p.2)).map .int)))],?_,_,_,rfl,⟨by rw[UM];exact Z,λt G J h=>?_⟩,λq o=>?_⟩
   .rw[List.map_set];generalize jz r=rd;generalize jj f=fd;simp[ix]
   .rw[DH L () G,Ze λz=>h p E z.symm];exact K t G J h
   .rw[tk] at o;have M:q∈r:=by
     rcases Jb.mp o with z|z
     .exact List.mem_of_mem_take z
     .rw[Jd.mp z];exact E
    rw[DH L () (H.bnd q M).1];by_cases c:q.1=p.1
    .rw[Zd c,Dr H.once M E c]
    .rw[Ze c];rcases Jb.mp o with z|z
     .exact u q z
     .rw[Jd.mp z] at c;exact Zn rfl c)
 rw[Zql,US] at u;subst B;have wr:K2 (jz r)=some (r.map qm):=rfl;have wf:K2 (jj f)=some (f.map jz):=rfl;have z1:=Qc N;refine⟨a,hs,?_,⟨C.1,u,C.2⟩,m⟩;generalize (List.replicate n a).map D.int=rp at *;generalize jz r=rd at *;generalize jj f=fd at *;simp[ZH,Bn,wf,S,Q,k0,Wr,z1,wr,Y]
def Bo:FS:=(ji (jL (iS (jb 3)) (.one 4) (ji (j3 5 (J5 ZH (J0 (jb 3) (J0 (jb 4) (J0 (jf jt (jf jt (jb 0) (jb 1)) (dC (.int 1))) jc))))) (ji (qi (Qo (JD (J5 (Q1 6) (J0 (J5 (QR 4) (J0 (jb 2) (J0 (jf jt (jf jt (jb 0) (jb 1)) (dC (.int 0))) (J0 (jq Qr (J0 (jb 5) jc)) jc)))) (J0 (dC (.int 0)) jc))))) (j0 (dC (.bl false))) JN) (jL (iS (jb 4)) (.one 6) (ji (qb 7 (jq Qr (J0 (jb 5) jc))) (ji (Ws 7 (jf jt (jb 6) (dC (.int 0))) (jf js (K3 7 (jf jt (jb 6) (dC (.int 0)))) (dC (.int 1)))) (qi (Qo (JD (J5 (Q1 6) (J0 (xU [7] (J5 (QR 4) (J0 (jb 2) (J0 (jf jt (jf jt (jb 0) (jb 1)) (dC (.int 0))) (J0 (jb 7) jc))))) (J0 (dC (.int 1)) jc))))) (j0 (dC (.bl false))) JN))))))) (j0 (dC (.bl true))))
def ZI:YH->Res D:=jE 8 4 Bo
def gi {ps:List Pl}{i:Nat}{p:Pl}(hp:ps[i]? = some p){bk:D}{f:Jz}{W:Int}(T:Tf p.givens.length W f)(O:p.givens.length<=4)(w:∀hs:Yh,hs.length=p.givens.length->QR 4 [bk,.str p.name,.lst (hs.map .int)]=.ok (.int (J9 f hs))):ZI [.lst (ps.map jk),.int i,bk,jj f]=.ok (.bl true):=by
 have y:=WO hp;have z:=yK p;have E:=we p;generalize ps.map jk=PD at *;generalize jk p=tp at *;obtain⟨sd',e,m,o,u6,u7,c⟩:=AV (tg:=.one 4) (b:=(ji (j3 5 (J5 ZH (J0 (jb 3) (J0 (jb 4) (J0 (jf jt (jf jt (jb 0) (jb 1)) (dC (.int 1))) jc))))) (ji (qi (Qo (JD (J5 (Q1 6) (J0 (J5 (QR 4) (J0 (jb 2) (J0 (jf jt (jf jt (jb 0) (jb 1)) (dC (.int 0))) (J0 (jq Qr (J0 (jb 5) jc)) jc)))) (J0 (dC (.int 0)) jc))))) (j0 (dC (.bl false))) JN) (jL (iS (jb 4)) (.one 6) (ji (qb 7 (jq Qr (J0 (jb 5) jc))) (ji (Ws 7 (jf jt (jb 6) (dC (.int 0))) (jf js (K3 7 (jf jt (jb 6) (dC (.int 0)))) (dC (.int 1)))) (qi (Qo (JD (J5 (Q1 6) (J0 (xU [7] (J5 (QR 4) (J0 (jb 2) (J0 (jf jt (jf jt (jb 0) (jb 1)) (dC (.int 0))) (J0 (jb 7) jc))))) (J0 (dC (.int 1)) jc))))) (j0 (dC (.bl false))) JN))))))) (ds:=f.map jz)
  (sd:=[some (.val (.lst PD)),some (.val (.int i)),some (.val bk),some (.val (jj f)),none,none,none,none])
  (λsd=>∃m o u6 u7,sd=[some (.val (.lst PD)),some (.val (.int i)),some (.val bk),some (.val (jj f)),m,o,u6,u7]) ⟨none,none,none,none,rfl⟩ (by
   rintro k x sd t ⟨m,o,u6,u7,rfl⟩;obtain⟨r,u,rfl⟩:=QK t;have g:=Uf u;have R:=T.cn.rows r g;obtain⟨F,hs,G,C,l⟩:=gm (f:=f) (n:=p.givens.length) () R λq h=>(T.th r g q h).1;have l:=λs hs p hp=>(l s hs p hp).2;have H:=tH T g C l;have A:=w hs C.len;rw[H] at A;have I:=AZ 5 0 0;have J:=AZ 5 1 1;have K:=C.len;obtain⟨sd',e,u6,u7,c⟩:=AV (tg:=.one 6) (b:=(ji (qb 7 (jq Qr (J0 (jb 5) jc))) (ji (Ws 7 (jf jt (jb 6) (dC (.int 0))) (jf js (K3 7 (jf jt (jb 6) (dC (.int 0)))) (dC (.int 1)))) (qi (Qo (JD (J5 (Q1 6) (J0 (xU [7] (J5 (QR 4) (J0 (jb 2) (J0 (jf jt (jf jt (jb 0) (jb 1)) (dC (.int 0))) (J0 (jb 7) jc))))) (J0 (dC (.int 1)) jc))))) (j0 (dC (.bl false))) JN)))) (ds:=r.map qm)
    (sd:=[some (.val (.lst PD)),some (.val (.int i)),some (.val bk),some (.val (jj f)),some (.val (jz r)),some (.val (.lst (hs.map .int))),u6,u7])
    (λsd=>∃u6 u7,sd=[some (.val (.lst PD)),some (.val (.int i)),some (.val bk),some (.val (jj f)),some (.val (jz r)),some (.val (.lst (hs.map .int))),u6,u7]) ⟨u6,u7,rfl⟩ (by
     rintro k x sd t ⟨u6,u7,rfl⟩;obtain⟨q,v,rfl⟩:=QK t;have h:=Uf v;have L:=tz T g C l h;have B:=(R.bnd q h).1;have b1:=(T.th r g q h).1;have j:=w (hs.set q.1.toNat (jA hs q.1+1)) (by rw[UM];exact K);rw[L,List.map_set] at j;have ix:xJ hs.length q.1=some q.1.toNat:=by
      unfold xJ;rw[Zd B,Zd ()]
     have a:=AQ (hs:=hs) B ();refine⟨_,?_,some (.val (qm q)),some (.own false (.lst ((hs.map .int).set q.1.toNat (.int (jA hs q.1+1))))),rfl⟩;generalize jz r=rd;generalize jj f=fd;simp[a,ix,y,z,j,J,Res.bare])
   subst c;have M:K2 (jz r)=some (r.map qm):=rfl;refine⟨[some (.val (.lst PD)),some (.val (.int i)),some (.val bk),some (.val (jj f)),some (.val (jz r)),some (.val (.lst (hs.map .int))),u6,u7],?_,_,_,_,_,rfl⟩;generalize jz r=rd at *;generalize jj f=fd at *;simp[y,z,E,G,A,I,M,e])
 subst c;have N:K2 (jj f)=some (f.map jz):=rfl;generalize jj f=fd at *;simp[ZI,Bo,N,e]
def ZJ:FS:=(ji (qi (JD (jf xm (jf jK (jb 0) (dC (.int 3))) (dC (.int 1)))) (ji (j3 1 (jf jK (jf qE (jf Qp (jb 0) (dC (.int 12))) (jf js (jf qS (dC (.int 10)) (dC (.int 14))) (dC (.int 31)))) (jf qS (dC (.int 10)) (dC (.int 30))))) (j0 (jf jt (qN (J0 (jb 1) (J0 (qM qT (jb 1)) (J0 (jf y0 (jf qS (dC (.int 10)) (dC (.int 30))) (dC (.int 1))) (J0 (jf y0 (dC (.int 1)) (jf qS (dC (.int 10)) (dC (.int 30)))) jc))))) (jf jK (jf Qp (jb 0) (dC (.int 3))) (dC (.int 4)))))) JN) (j0 (jf y0 (jf jK (jf Qp (jb 0) (dC (.int 3))) (dC (.int 9))) (dC (.int 4)))))
def X4:YH->Res D:=jE 2 1 ZJ
def vy (c:Int):Int:=if c % 3=1 then(if c / 3 % 4=0 then c / 12*100000000000031 % 1000000000000000000000000000000 else if c / 3 % 4=1 then -(c / 12*100000000000031 % 1000000000000000000000000000000) else if c / 3 % 4=2 then 999999999999999999999999999999 else -999999999999999999999999999999) else c / 3 % 9-4
def so (c:Int): -1000000000000000000000000000000<=vy c/\vy c<=1000000000000000000000000000000:=by
 unfold vy;have a:=Vs (c / 12*100000000000031) (show(1000000000000000000000000000000:Int)≠0 by lia);have b:=Vt (c / 12*100000000000031) (show(0:Int)<1000000000000000000000000000000 by lia);generalize c / 12*100000000000031 % 1000000000000000000000000000000=x at *
 split
 .split
  .omega
  .split
   .omega
   .split<;>lia
 .omega
def uG (x y z w:D):jX [x,y,z,w] 0=some x/\jX [x,y,z,w] 1=some y/\jX [x,y,z,w] 2=some z/\jX [x,y,z,w] 3=some w:=⟨rfl,rfl,rfl,rfl⟩
def gw (c:Int):X4 [.int c]=.ok (.int (vy c)):=by
 have b:qE (.int (c / 12)) (.int 100000000000031)=some (.int (c / 12*100000000000031)):=WJ (CC () ());have f:qS (.int 10) (.int 14)=some (.int 100000000000000):=rfl;have g:qS (.int 10) (.int 30)=some (.int 1000000000000000000000000000000):=rfl;unfold vy;by_cases h:c % 3=1
 .have a:c / 3 % 4=0\/c / 3 % 4=1\/c / 3 % 4=2\/c / 3 % 4=3:=()
  rcases a with e|e|e|e<;>simp[X4,ZJ,h,e,b,f,g,uG]
 .simp[X4,ZJ,h,b,f,g]
def WS:FS:=(ji (j3 5 (J5 QL (J0 (jb 0) (J0 (jb 1) jc)))) (ji (j3 6 (jf jt (qN (J0 (dC (.str "all")) (J0 (dC (.str "first")) jc))) (jf jK (jb 5) (dC (.int 2))))) (ji (j3 7 (jf js (dC (.int 1)) (jf jK (jf Qp (jb 5) (dC (.int 2))) (dC (.int 3))))) (ji (qi (Am (JD (jf v3 (jq jO (J0 (jb 4) jc)) (dC (.int 0)))) (JD (jf xm (jf jK (jf Qp (jb 5) (dC (.int 6))) (dC (.int 2))) (dC (.int 1))))) (ji (j3 8 (jf jt (jb 4) (jf jK (jf Qp (jb 5) (dC (.int 12))) (jq jO (J0 (jb 4) jc))))) (ji (j3 6 (jf jt (jb 8) (dC (.int 0)))) (j3 7 (jf jt (jb 8) (dC (.int 1)))))) JN) (ji (qb 9 (qN jc)) (ji (jL (yx (J0 (jb 7) jc)) (.one 10) (ji (j3 11 (J5 QL (J0 (jb 0) (J0 (jf js (jf js (jb 1) (dC (.int 1))) (jb 10)) jc)))) (Q6 9 (xA (J0 (jf jK (jb 11) (jb 3)) (J0 (J5 X4 (J0 (jf Qp (jb 11) (jb 3)) jc)) jc)))))) (λsd=>(j0 (xA (J0 (J5 Kv (J0 (jb 0) (J0 (jf js (dC (.int 20)) (jb 2)) jc))) (J0 (jb 6) (J0 (jq WI (J0 (jb 9) jc)) jc))))) (jS [9] sd))))))))
def X5:YH->Res D:=jE 12 5 WS
def fR:FS:=(ji (j3 11 (J5 QL (J0 (jb 0) (J0 (jf js (jf js (jb 1) (dC (.int 1))) (jb 10)) jc)))) (Q6 9 (xA (J0 (jf jK (jb 11) (jb 3)) (J0 (J5 X4 (J0 (jf Qp (jb 11) (jb 3)) jc)) jc)))))
def mx:FS:=(ji (qb 9 (qN jc)) (ji (jL (yx (J0 (jb 7) jc)) (.one 10) fR) (λsd=>(j0 (xA (J0 (J5 Kv (J0 (jb 0) (J0 (jf js (dC (.int 20)) (jb 2)) jc))) (J0 (jb 6) (J0 (jq WI (J0 (jb 9) jc)) jc))))) (jS [9] sd))))
def Lf {ns:Yh}(r:ns.length<=1000){at_ k things n:Nat}(H:at_<=1000)(I:k<20)(J:1<=things)(K:things<=1000)(L:n<=10)(g:D)(how:Str)(h u8:Option SV):
 ∃its:Jy,its.length=n/\(∀p∈its,(0<=p.1/\p.1<(things:Int)) /\ -1000000000000000000000000000000<=p.2/\p.2<=1000000000000000000000000000000)/\mx [some (.val (.scr ns)),some (.val (.int at_)),some (.val (.int k)),some (.val (.int things)),some (.val g),h,some (.val (.str how)),some (.val (.int n)),u8,none,none,none]=.ok (.ret (jF (Qh (Qf ns 60) (20+k),how,its))):=by
 have t:Ko [.int (n:Nat)]=.ok (JQ 0 n):=by rw[KF () ()];rfl
 obtain⟨sd',e,its,a,f,o,l,ok⟩:=Ka (tg:=.one 10) (b:=fR) (ds:=JQ 0 n) (sd:=[some (.val (.scr ns)),some (.val (.int at_)),some (.val (.int k)),some (.val (.int things)),some (.val g),h,some (.val (.str how)),some (.val (.int n)),u8,some (.own false (.lst [])),none,none])
  (P:=λi sd=>∃(its:Jy) (a f:Option SV),sd=[some (.val (.scr ns)),some (.val (.int at_)),some (.val (.int k)),some (.val (.int things)),some (.val g),h,some (.val (.str how)),some (.val (.int n)),u8,some (.own false (.lst (its.map qm))),a,f]/\its.length=i/\∀p∈its,(0<=p.1/\p.1<(things:Int)) /\ -1000000000000000000000000000000<=p.2/\p.2<=1000000000000000000000000000000)
  ⟨[],none,none,rfl,rfl,λp hp=>nomatch hp⟩ (by
   rintro i x sd u ⟨its,a,f,rfl,l,ok⟩;obtain⟨rfl,M⟩:=WK u;rw[Vr];have s:=Xz ns (k:=(at_:Int)+1+i) () () r;generalize Qf ns ((at_:Int)+1+i)=c at s;have v:=Y3 (i:=c) (j:=(things:Int)) ();have y:=Y4 (i:=c) (j:=(things:Int)) () ();have A:=gw (c / (things:Int));have wi:=so (c / (things:Int));have B:=Vs c (show(things:Int)≠0 by lia);have C:=Vt c (show(0:Int)<things by lia);generalize vy (c / (things:Int))=w at *;generalize c % (things:Int)=m at *;generalize c / (things:Int)=q at *;have E:=Qc (show its.length<=1000 from ());refine⟨[some (.val (.scr ns)),some (.val (.int at_)),some (.val (.int k)),some (.val (.int things)),some (.val g),h,some (.val (.str how)),some (.val (.int n)),u8,some (.own false (.lst ((its++[(m,w)]).map qm))),some (.val (.int i)),some (.val (.int c))],?_,_,_,_,rfl,by rw[Ub,l];rfl,λp hp=>?_⟩
   .rw[Ud];unfold fR;simp[s,v,y,A,E,qm]
   .rcases Jb.mp hp with z|z
    .exact ok p z
    .rw[Jd.mp z];exact⟨⟨B,C⟩,wi⟩)
 subst o;rw[Wr] at l;refine⟨its,l,ok,?_⟩;have F:=(Bb r (k:=20+k) (x:=20+(k:Int)) () ()).1;have G:jF (Qh (Qf ns 60) (20+k),how,its)=.tup [.str (Qh (Qf ns 60) (20+k)),.str how,.tup (its.map qm)]:=rfl;rw[G];generalize Qh (Qf ns 60) (20+k)=st at *;unfold mx;generalize fR=b at *;simp[t,e,F]
def gv {ns:Yh}(o:ns.length<=1000){ps:List Pl}(G:∀q∈ps,1<=q.givens.length/\q.givens.length<=4)(S:ps.length<=4){at_ k things:Nat}(u:at_<=1000)(v:k<20)(w:1<=things)(y:things<=1000):
 ∃r:Rw,X5 [.scr ns,.int at_,.int k,.int things,.lst (ps.map jk)]=.ok (jF r)/\RwP ps (things:Int) r:=by
 have A:=Xz ns (k:=(at_:Int)) () () o;generalize Qf ns (at_:Int)=c at A;have nm:=(Bb o (k:=20+k) (x:=20+(k:Int)) () ()).2;have s:jO [.lst (ps.map jk)]=some (.int (ps.length:Nat)):=by rw[Y5,Zql]
 have two:∃a:Str,jX [D.str "all",.str "first"] (c % 2)=some (.str a)/\(a = "all" \/ a = "first"):=by
  have:c % 2=0\/c % 2=1:=()
  rcases this with e|e
  .exact⟨"all",by rw[e];rfl,.inl rfl⟩
  .exact⟨"first",by rw[e];rfl,.inr rfl⟩
 obtain⟨a,H,I⟩:=two;obtain⟨b,en⟩:∃b:Nat,1+c / 2 % 3=(b:Int):=⟨(1+c / 2 % 3).toNat,()⟩;have T:1<=b/\b<=3:=()
 have f:∀(how:Str) (n:Nat) (u8:Option SV) (X:Res Out),(qi (Am (JD (jf v3 (jq jO (J0 (jb 4) jc)) (dC (.int 0)))) (JD (jf xm (jf jK (jf Qp (jb 5) (dC (.int 6))) (dC (.int 2))) (dC (.int 1))))) (ji (j3 8 (jf jt (jb 4) (jf jK (jf Qp (jb 5) (dC (.int 12))) (jq jO (J0 (jb 4) jc))))) (ji (j3 6 (jf jt (jb 8) (dC (.int 0)))) (j3 7 (jf jt (jb 8) (dC (.int 1)))))) JN) [some (.val (.scr ns)),some (.val (.int at_)),some (.val (.int k)),some (.val (.int things)),some (.val (.lst (ps.map jk))),some (.val (.int c)),some (.val (.str a)),some (.val (.int b)),none,none,none,none]=.ok (.next [some (.val (.scr ns)),some (.val (.int at_)),some (.val (.int k)),some (.val (.int things)),some (.val (.lst (ps.map jk))),some (.val (.int c)),some (.val (.str how)),some (.val (.int n)),u8,none,none,none])->mx [some (.val (.scr ns)),some (.val (.int at_)),some (.val (.int k)),some (.val (.int things)),some (.val (.lst (ps.map jk))),some (.val (.int c)),some (.val (.str how)),some (.val (.int n)),u8,none,none,none]=X->WS [some (.val (.scr ns)),some (.val (.int at_)),some (.val (.int k)),some (.val (.int things)),some (.val (.lst (ps.map jk))),none,none,none,none,none,none,none]=X:=λhow n u8 X J K=>by
  unfold WS;refine yF (sd':=[some (.val (.scr ns)),some (.val (.int at_)),some (.val (.int k)),some (.val (.int things)),some (.val (.lst (ps.map jk))),some (.val (.int c)),none,none,none,none,none,none]) (by generalize ps.map jk=PD;simp[A]) ?_;refine yF (sd':=[some (.val (.scr ns)),some (.val (.int at_)),some (.val (.int k)),some (.val (.int things)),some (.val (.lst (ps.map jk))),some (.val (.int c)),some (.val (.str a)),none,none,none,none,none]) (by generalize ps.map jk=PD;simp[H]) ?_;refine yF (sd':=[some (.val (.scr ns)),some (.val (.int at_)),some (.val (.int k)),some (.val (.int things)),some (.val (.lst (ps.map jk))),some (.val (.int c)),some (.val (.str a)),some (.val (.int b)),none,none,none,none]) (by generalize ps.map jk=PD;simp[en]) ?_;exact yF J K
 have m:∀{d:D},WS [some (.val (.scr ns)),some (.val (.int at_)),some (.val (.int k)),some (.val (.int things)),some (.val (.lst (ps.map jk))),none,none,none,none,none,none,none]=.ok (.ret d)->X5 [.scr ns,.int at_,.int k,.int things,.lst (ps.map jk)]=.ok d:=λ{d} h=>by
  unfold X5;rw[Y2 12 5 _ [.scr ns,.int at_,.int k,.int things,.lst (ps.map jk)] rfl];show(WS [some (.val (.scr ns)),some (.val (.int at_)),some (.val (.int k)),some (.val (.int things)),some (.val (.lst (ps.map jk))),none,none,none,none,none,none,none]).bind xc=_;rw[h];rfl
 by_cases B:ps.length=0\/c / 6 % 2≠1
 .obtain⟨its,l,ok,t⟩:=Lf o (n:=b) u v w y () (.lst (ps.map jk)) a (some (.val (.int c))) none;refine⟨(Qh (Qf ns 60) (20+k),a,its),m (f a b none _ ?_ t),nm,?_,λz=>?_,by show its.length<=10;lia,λp hp=>(ok p hp).1,λp hp=>(ok p hp).2⟩
  .generalize ps.map jk=PD at *;rcases B with z|z
   .have g:¬ 0<ps.length:=()
    simp[s,g]
   .by_cases g:0<ps.length
    .simp[s,g,z]
    .simp[s,g]
  .exact I.elim .inl λz=>.inr (.inl z)
  .have z:its=[]:=z;rw[z] at l;have l:0=b:=l;lia
 .have L:0<ps.length:=()
  have M:c / 6 % 2=1:=by
   rcases Decidable.em (c / 6 % 2=1) with z|z
   .exact z
   .exact Zn (.inr z) B
  have C:=Y3 (i:=c / 12) (j:=(ps.length:Int)) ();have N:Qp (.int c) (.int 12)=some (.int (c / 12)):=Y4 () ();have U:=Vs (c / 12) (show(ps.length:Int)≠0 by lia);have Y:=Vt (c / 12) (show(0:Int)<ps.length by lia);obtain⟨j,hj⟩:∃j:Nat,c / 12 % (ps.length:Int)=(j:Int):=⟨(c / 12 % (ps.length:Int)).toNat,()⟩;have E:j<ps.length:=()
  rw[hj] at C;have O:ps[j]? = some ps[j]:=Zqg E;have F:=Uu E;generalize ps[j]=q at *;have P:=WO O;have Q:=yK q;have R:=we q;have Z:=G q F;obtain⟨its,l,ok,t⟩:=Lf o (n:=q.givens.length) u v w y () (.lst (ps.map jk)) q.name (some (.val (.int c))) (some (.val (jk q)));refine⟨(Qh (Qf ns 60) (20+k),q.name,its),m (f q.name q.givens.length (some (.val (jk q))) _ ?_ t),nm,.inr (.inr ⟨q,F,rfl,l⟩),λz=>?_,by show its.length<=10;lia,λp hp=>(ok p hp).1,λp hp=>(ok p hp).2⟩
  .have g:0<ps.length:=L;generalize ps.map jk=PD at *;generalize jk q=tq at *;simp[s,g,M,N,C,P,Q,R]
  .have z:its=[]:=z;rw[z] at l;have l:0=q.givens.length:=l;lia
def Bp:FS:=(ji (qb 1 (qN jc)) (ji (jL (yx (J0 (jf js (dC (.int 1)) (jf jK (J5 QL (J0 (jb 0) (J0 (dC (.int 0)) jc))) (dC (.int 3)))) jc)) (.one 2) (ji (j3 3 (jf js (dC (.int 3)) (jf qE (dC (.int 24)) (jb 2)))) (ji (j3 4 (jf js (dC (.int 1)) (jf jK (J5 QL (J0 (jb 0) (J0 (jf js (dC (.int 1)) (jb 2)) jc))) (dC (.int 3))))) (ji (qb 5 (qN jc)) (ji (jL (yx (J0 (jf js (dC (.int 1)) (jf jK (jf Qp (J5 QL (J0 (jb 0) (J0 (jf js (dC (.int 1)) (jb 2)) jc))) (dC (.int 3))) (dC (.int 4)))) jc)) (.one 6) (Q6 5 (AO [1] (J5 X5 (J0 (jb 0) (J0 (jf js (jb 3) (jf qE (dC (.int 5)) (jb 6))) (J0 (jb 6) (J0 (jf js (jb 4) (jb 6)) (J0 (jb 1) jc))))))))) (λsd=>(Q6 1 (xA (J0 (J5 Kv (J0 (jb 0) (J0 (jb 2) jc))) (J0 (jb 4) (J0 (jb 5) jc))))) (jS [5] sd))))))) (Kg 1)))
def Bq:YH->Res D:=qf 7 1 Bp
def uE:FS:=(Q6 5 (AO [1] (J5 X5 (J0 (jb 0) (J0 (jf js (jb 3) (jf qE (dC (.int 5)) (jb 6))) (J0 (jb 6) (J0 (jf js (jb 4) (jb 6)) (J0 (jb 1) jc))))))))
def t8 {ns:Yh}(s:ns.length<=1000){ps:List Pl}(B:BkP ps){p a m n:Nat}(F:a<=500)(G:1<=m)(H:m<=4)(I:n<=8)(u6:Option SV):
 ∃(c:List Rw) (f:Option SV),c.length=n/\(∀(k:Nat) r,c[k]? = some r->RwP ps ((m:Int)+k) r)/\q9 (.one 6) uE (JQ 0 n) [some (.val (.scr ns)),some (.own false (.lst (ps.map jk))),some (.val (.int p)),some (.val (.int a)),some (.val (.int m)),some (.own false (.lst [])),u6]=.ok (.next [some (.val (.scr ns)),some (.own false (.lst (ps.map jk))),some (.val (.int p)),some (.val (.int a)),some (.val (.int m)),some (.own false (.lst (c.map jF))),f]):=by
 obtain⟨sd',e,c,f,j,g,ok⟩:=Ka (tg:=.one 6) (b:=uE) (ds:=JQ 0 n) (sd:=[some (.val (.scr ns)),some (.own false (.lst (ps.map jk))),some (.val (.int p)),some (.val (.int a)),some (.val (.int m)),some (.own false (.lst [])),u6])
  (P:=λi sd=>∃(c:List Rw) (f:Option SV),sd=[some (.val (.scr ns)),some (.own false (.lst (ps.map jk))),some (.val (.int p)),some (.val (.int a)),some (.val (.int m)),some (.own false (.lst (c.map jF))),f]/\c.length=i/\∀(k:Nat) r,c[k]? = some r->RwP ps ((m:Int)+k) r) ⟨[],u6,rfl,rfl,λk r h=>nomatch h⟩ (by
   rintro i x sd t ⟨c,f,rfl,g,ok⟩;obtain⟨rfl,J⟩:=WK t;rw[Vr];obtain⟨r,l,R⟩:=gv s B.giv B.len (at_:=a+5*i) (k:=i) (things:=m+i) () () () ();have u:qE (.int 5) (.int (i:Int))=some (.int (5*(i:Int))):=WJ (CD () ());have v:((a+5*i:Nat):Int)=(a:Int)+5*(i:Int):=()
   have o:((m+i:Nat):Int)=(m:Int)+(i:Int):=()
   rw[v,o] at l;rw[o] at R;have w:=Qc (show c.length<=1000 from ());refine⟨[some (.val (.scr ns)),some (.own false (.lst (ps.map jk))),some (.val (.int p)),some (.val (.int a)),some (.val (.int m)),some (.own false (.lst ((c++[r]).map jF))),some (.val (.int i))],?_,_,_,rfl,by rw[Ub,g];rfl,λk A h=>?_⟩
   .rw[Ud,List.map_singleton];have C:Wv 8 (jF r)=true:=by
     show[D.str r.1,D.str r.2.1,jz r.2.2].all (Wv 7)=true;rw[UD,UD,UD,HJ,HJ];show((r.2.2.map qm).all (Wv 6)&&true)=true;rw[Bool.and_true,List.all_map,Ve];intro q _;rfl
    generalize ps.map jk=PD at *;unfold uE;generalize jF r=rd at *;simp[u,l,w,C,Res.bare]
   .rcases Vd k c.length with z|z
    .rw[UX z] at h;exact ok k A h
    .rw[UY z] at h;have E:k-c.length=0:=by
      rcases Vm (k-c.length) with y|y
      .exact y
      .rw[Vq (by rw[Ur];lia)] at h;cases h
     rw[E] at h;cases h;rw[show k=i by lia];exact R)
 subst j;rw[Wr] at g;exact⟨c,f,g,ok,e⟩
def uD:FS:=(ji (j3 3 (jf js (dC (.int 3)) (jf qE (dC (.int 24)) (jb 2)))) (ji (j3 4 (jf js (dC (.int 1)) (jf jK (J5 QL (J0 (jb 0) (J0 (jf js (dC (.int 1)) (jb 2)) jc))) (dC (.int 3))))) (ji (qb 5 (qN jc)) (ji (jL (yx (J0 (jf js (dC (.int 1)) (jf jK (jf Qp (J5 QL (J0 (jb 0) (J0 (jf js (dC (.int 1)) (jb 2)) jc))) (dC (.int 3))) (dC (.int 4)))) jc)) (.one 6) uE) (λsd=>(Q6 1 (xA (J0 (J5 Kv (J0 (jb 0) (J0 (jb 2) jc))) (J0 (jb 4) (J0 (jb 5) jc))))) (jS [5] sd))))))
def gu {ns:Yh}(s:ns.length<=1000):∃ps:List Pl,Bq [.scr ns]=.ok (.lst (ps.map jk))/\BkP ps/\nL (Qf ns 60) ps/\1<=ps.length/\ps.length<=3:=by
 have I:=Xz ns (k:=0) () () s;obtain⟨n,en⟩:∃n:Nat,1+Qf ns 0 % 3=(n:Int):=⟨(1+Qf ns 0 % 3).toNat,()⟩;have U:1<=n/\n<=3:=()
 have J:Ko [.int (n:Nat)]=.ok (JQ 0 n):=by rw[KF () ()];rfl
 obtain⟨sd',e,ps,v,w,t,o,u6,A,C,B,N⟩:=Ka (tg:=.one 2) (b:=uD) (ds:=JQ 0 n) (sd:=[some (.val (.scr ns)),some (.own false (.lst [])),none,none,none,none,none])
  (P:=λi sd=>∃(ps:List Pl) (v w t o u6:Option SV),sd=[some (.val (.scr ns)),some (.own false (.lst (ps.map jk))),v,w,t,o,u6]/\ps.length=i/\BkP ps/\nL (Qf ns 60) ps) ⟨[],none,none,none,none,none,rfl,rfl,TQ,λk q h=>nomatch h⟩ (by
   rintro i x sd K ⟨ps,v,w,t,o,u6,rfl,C,B,N⟩;obtain⟨rfl,X⟩:=WK K;rw[Vr];have L:qE (.int 24) (.int (i:Int))=some (.int (24*(i:Int))):=WJ (CD () ());have l:=Xz ns (k:=1+(i:Int)) () () s;generalize Qf ns (1+(i:Int))=c at l;obtain⟨a,ea⟩:∃a:Nat,3+24*(i:Int)=(a:Int):=⟨3+24*i,()⟩;obtain⟨m,em⟩:∃m:Nat,1+c % 3=(m:Int):=⟨(1+c % 3).toNat,()⟩;obtain⟨q,eq⟩:∃q:Nat,1+c / 3 % 4=(q:Int):=⟨(1+c / 3 % 4).toNat,()⟩;have M:Ko [.int (q:Nat)]=.ok (JQ 0 q):=by rw[KF () ()];rfl
   obtain⟨f,F,Y,ok,u⟩:=t8 s B (p:=i) (a:=a) (m:=m) (n:=q) () () () () u6;obtain⟨G,O⟩:=Bb s (k:=i) (x:=(i:Int)) rfl ();obtain⟨j,eg⟩:∃j,j=(List.range m).map λk=>Qh (Qf ns 60) (10+k):=⟨_,rfl⟩;have E:j.length=m:=by rw[eg,Zql,ZB]
   have P:PlP ps ⟨Qh (Qf ns 60) i,j,f⟩:=⟨by show 1<=j.length;lia,by show j.length<=4;lia,by show 1<=f.length;lia,by show f.length<=8;lia,λk r h=>by show RwP ps ((j.length:Int)+k) r;rw[E];exact ok k r h⟩;have Q:jk (Pl.mk (Qh (Qf ns 60) i) j f)=.tup [.str (Qh (Qf ns 60) i),.int (m:Nat),.lst (f.map jF)]:=by show D.tup [_,.int (j.length:Nat),_]=_;rw[E]
   have R:=Qc (show ps.length<=1000 from ());refine⟨[some (.val (.scr ns)),some (.own false (.lst ((ps++[(⟨Qh (Qf ns 60) i,j,f⟩:Pl)]).map jk))),some (.val (.int i)),some (.val (.int a)),some (.val (.int m)),some (.val (.lst (f.map jF))),F],?_,_,_,_,_,_,_,rfl,by rw[Ub,C];rfl,B.snoc () P ⟨O,Ir () (by decide +kernel),Ir () (by decide +kernel)⟩ (λq S z=>?_),λk q h=>?_⟩
   .rw[Ud,List.map_singleton,Q,Pw,jy];generalize Qh (Qf ns 60) i=st at G;generalize f.map jF=rd at u;have lt:(ps.map jk).length<sizeLine:=by rw[Zql];exact R
    generalize ps.map jk=PD at u lt;unfold uD;refine yF (sd':=[some (.val (.scr ns)),some (.own false (.lst PD)),some (.val (.int i)),some (.val (.int a)),t,o,u6]) (by simp[L,ea]) ?_;refine yF (sd':=[some (.val (.scr ns)),some (.own false (.lst PD)),some (.val (.int i)),some (.val (.int a)),some (.val (.int m)),o,u6]) (by simp[l,em]) ?_;refine yF (sd':=[some (.val (.scr ns)),some (.own false (.lst PD)),some (.val (.int i)),some (.val (.int a)),some (.val (.int m)),some (.own false (.lst [])),u6]) () ?_;generalize uE=b at u;refine yF (sd':=[some (.val (.scr ns)),some (.own false (.lst PD)),some (.val (.int i)),some (.val (.int a)),some (.val (.int m)),some (.own false (.lst rd)),F]) (by simp[l,eq,M,u]) ?_;simp[G,lt]
   .obtain⟨k,H⟩:=Jl.mp S;have Z:=(Jc.mp H).1;have z:q.name=Qh (Qf ns 60) i:=z;rw[(N k q H).1] at z;have:=tu () () z;lia
   .rcases Vd k ps.length with z|z
    .rw[UX z] at h;exact N k q h
    .rw[UY z] at h;have T:k-ps.length=0:=by
      rcases Vm (k-ps.length) with y|y
      .exact y
      .rw[Vq (by rw[Ur];lia)] at h;cases h
     rw[T] at h;cases h;rw[show k=i by lia];exact⟨rfl,by show j=(List.range j.length).map _;rw[E];exact eg⟩)
 subst A;rw[Wr] at C;refine⟨ps,?_,B,N,(),()⟩;generalize ps.map jk=PD at e;have e:q9 (.one 2) uD (JQ 0 n) [some (.val (.scr ns)),some (.own false (.lst [])),none,none,none,none,none]=_:=e;have g:Bp=ji (qb 1 (qN jc)) (ji (jL (yx (J0 (jf js (dC (.int 1)) (jf jK (J5 QL (J0 (jb 0) (J0 (dC (.int 0)) jc))) (dC (.int 3)))) jc)) (.one 2) uD) (Kg 1)):=rfl;unfold Bq;rw[g];generalize uD=b at e;simp[I,en,J,e]
def Br:FS:=(j0 (jf jt (J5 KZ (J0 (jb 0) (J0 (jb 1) (J0 (jb 2) jc)))) (qM qT (dC (.int 1)))))
def X6:YH->Res D:=jE 3 3 Br
def gz {bk nm m:D}{ys:List Jz}{t:Jz}(h:KZ [bk,nm,m]=.ok (.lst ((ys++[t]).map jj))):X6 [bk,nm,m]=.ok (jj t):=by
 have l:=Xx (f:=jj) ys t;generalize (ys++[t]).map jj=es at h l;have l:jX es (-1)=some (jj t):=l;simp[X6,Br,h,l]
def X7:FS:=(ji (j3 1 (J5 Bq (J0 (jb 0) jc))) (ji (j3 2 (J5 Bd (J0 (jb 0) (J0 (jb 1) jc)))) (ji (j3 3 (Qy [none,some 2] (iS (jb 1)) (.one 0) (J5 Uk (J0 (jb 1) (J0 (jf jt (jb 0) (dC (.int 0))) jc))))) (ji (jL (yx (J0 (jq jO (J0 (jb 1) jc)) jc)) (.one 4) (qi (JD (qM (xE true) (jf jt (jb 3) (jb 4)))) (ji (qi (Qo (JD (J5 ZI (J0 (jb 1) (J0 (jb 4) (J0 (jb 2) (J0 (jf jt (jf jt (jb 3) (jb 4)) (qM qT (dC (.int 1)))) jc))))))) (j0 (dC (.bl false))) JN) (qi (Qo (JD (J5 (Q1 6) (J0 (J5 X6 (J0 (jb 2) (J0 (jf jt (jf jt (jb 1) (jb 4)) (dC (.int 0))) (J0 (dC (.int 8)) jc)))) (J0 (jf jt (jf jt (jb 3) (jb 4)) (qM qT (dC (.int 1)))) jc))))) (j0 (dC (.bl false))) JN)) JN)) (ji (j3 5 (dC (.int 0))) (ji (jL (iS (jf js (qN (J0 (dC (.int 0)) jc)) (jq Qr (J0 (jb 0) jc)))) (.one 6) (ji (j3 4 (jf jK (jb 5) (jq jO (J0 (jb 1) jc)))) (ji (j3 7 (J5 ZG (J0 (jb 0) (J0 (jb 6) (J0 (jb 5) (J0 (jf jt (jf jt (jb 1) (jb 4)) (dC (.int 1))) jc)))))) (ji (qi (Qo (JD (J5 Xy (J0 (jb 1) (J0 (jb 4) (J0 (jb 2) (J0 (jf jt (jb 3) (jb 4)) (J0 (jb 7) jc)))))))) (j0 (dC (.bl false))) JN) (j3 5 (jf js (jb 5) (dC (.int 1)))))))) (j0 (dC (.bl true)))))))))
def wY:YH->Res D:=jE 8 1 X7
def nR (ps:List Pl)(p:Pl)(d:D):Prop:=d=.non\/∃ys t W,d=.lst ((ys++[t]).map jj)/\FsO ps p (ys++[t])/\Tf p.givens.length W t/\X6 [JE ps,.str p.name,.int 8]=.ok (jj t)/\∀hs:Yh,hs.length=p.givens.length->QR 4 [JE ps,.str p.name,.lst (hs.map .int)]=.ok (.int (J9 t hs))
def sP {ps:List Pl}(B:BkP ps)(p:Pl):∃d,p∈ps->Uk [JE ps,.str p.name]=.ok d/\nR ps p d:=by
 by_cases c:p∈ps
 .obtain⟨j,a⟩:=Jl.mp c;have b:=(B.at a).2.1;rcases tF B a with z|⟨T,z1,z2,z3⟩
  .exact⟨.non,λ_=>⟨dc z,.inl rfl⟩⟩
  .obtain⟨ys,t,rfl⟩:=D0 z3.ne;refine⟨_,λ_=>⟨gk z1,.inr ⟨ys,t,_,rfl,z3,z2 t (Uq _ Zqs),gz z1,λhs h=>?_⟩⟩⟩;have e:=D7 B 4 j p hs a b h;rw[<- z3.hour hs h,Ud] at e;exact D6 e
 .exact⟨.non,λz=>Zn z c⟩
def b1:FS:=(qi (JD (qM (xE true) (jf jt (jb 3) (jb 4)))) (ji (qi (Qo (JD (J5 ZI (J0 (jb 1) (J0 (jb 4) (J0 (jb 2) (J0 (jf jt (jf jt (jb 3) (jb 4)) (qM qT (dC (.int 1)))) jc))))))) (j0 (dC (.bl false))) JN) (qi (Qo (JD (J5 (Q1 6) (J0 (J5 X6 (J0 (jb 2) (J0 (jf jt (jf jt (jb 1) (jb 4)) (dC (.int 0))) (J0 (dC (.int 8)) jc)))) (J0 (jf jt (jf jt (jb 3) (jb 4)) (qM qT (dC (.int 1)))) jc))))) (j0 (dC (.bl false))) JN)) JN)
def b2:FS:=(ji (j3 4 (jf jK (jb 5) (jq jO (J0 (jb 1) jc)))) (ji (j3 7 (J5 ZG (J0 (jb 0) (J0 (jb 6) (J0 (jb 5) (J0 (jf jt (jf jt (jb 1) (jb 4)) (dC (.int 1))) jc)))))) (ji (qi (Qo (JD (J5 Xy (J0 (jb 1) (J0 (jb 4) (J0 (jb 2) (J0 (jf jt (jb 3) (jb 4)) (J0 (jb 7) jc)))))))) (j0 (dC (.bl false))) JN) (j3 5 (jf js (jb 5) (dC (.int 1)))))))
def fu {ps:List Pl}(B:BkP ps){G:Pl->D}(l:∀p,p∈ps->Uk [JE ps,.str p.name]=.ok (G p)/\nR ps p (G p)){i:Nat}(c:i<ps.length)(e g h j:Option SV):b1 [e,some (.val (.lst (ps.map jk))),some (.val (JE ps)),some (.val (.lst (ps.map G))),some (.val (.int i)),g,h,j]=.ok (.next [e,some (.val (.lst (ps.map jk))),some (.val (JE ps)),some (.val (.lst (ps.map G))),some (.val (.int i)),g,h,j]):=by
 have hp:ps[i]? = some ps[i]:=Zqg c;generalize ps[i]=p at hp;have P:=B.ok i p hp;have m:=(l p (Uf hp)).2;have a:jX (ps.map G) (i:Int)=some (G p):=by
  rw[KU (by rw[Zql];exact c),Zv,hp];rfl
 have n:=WO hp;have o:=yK p;rcases m with z|⟨ys,t,W,z,F,T,ft,fh⟩
 .rw[z] at a;generalize ps.map G=gs at a;generalize ps.map jk=PD at *;generalize JE ps=bk;unfold b1;simp[a,xE,C8]
 .rw[z] at a;have q:=gi (bk:=JE ps) hp T P.g2 fh;have b:=Xx (f:=jj) ys t;have b:jX ((ys++[t]).map jj) (-1)=some (jj t):=b;have lt:=T.len;have s:=D5 6 (jj t) (TZ 2 () λr u=>by have:=(T.cn.rows r u).len;lia);have v:xE true (.lst ((ys++[t]).map jj))=some (.bl true):=rfl;generalize (ys++[t]).map jj=TD at *;generalize jj t=td at *;generalize ps.map G=gs at a;generalize ps.map jk=PD at *;generalize jk p=tp at *;generalize JE ps=bk at *;unfold b1;simp[a,v,b,q,n,o,ft,s]
def fq {ns:Yh}(f:ns.length<=1000){ps:List Pl}(B:BkP ps)(w:1<=ps.length){G:Pl->D}(g:∀p,p∈ps->Uk [JE ps,.str p.name]=.ok (G p)/\nR ps p (G p)){t:Nat}(x:t<=100)(a:Int)(h u7:Option SV):∃l m,b2 [some (.val (.scr ns)),some (.val (.lst (ps.map jk))),some (.val (JE ps)),some (.val (.lst (ps.map G))),h,some (.val (.int t)),some (.val (.int a)),u7]=.ok (.next [some (.val (.scr ns)),some (.val (.lst (ps.map jk))),some (.val (JE ps)),some (.val (.lst (ps.map G))),l,some (.val (.int ((t:Int)+1))),some (.val (.int a)),m]):=by
 have n:jO [.lst (ps.map jk)]=some (.int (ps.length:Nat)):=by rw[Y5,Zql]
 have b:=Y3 (i:=(t:Int)) (j:=(ps.length:Int)) ();have y:=Vs (t:Int) (show(ps.length:Int)≠0 by lia);have A:=Vt (t:Int) (show(0:Int)<ps.length by lia);obtain⟨i,ei⟩:∃i:Nat,(t:Int) % (ps.length:Int)=(i:Int):=⟨((t:Int) % (ps.length:Int)).toNat,()⟩;rw[ei] at b;have c:i<ps.length:=()
 have hp:ps[i]? = some ps[i]:=Zqg c;generalize ps[i]=p at hp;have P:=B.ok i p hp;have C:=P.g2;have o:=(g p (Uf hp)).2;have e:jX (ps.map G) (i:Int)=some (G p):=by
  rw[KU (by rw[Zql];exact c),Zv,hp];rfl
 have q:=WO hp;have r:=we p;obtain⟨hs,s,u⟩:=gn f a (at_:=t) (many:=p.givens.length) () ();have v:=gj B hp s (fd:=G p) (o.imp id λ⟨ys,t,W,z,F,_⟩=>⟨_,z,F⟩);refine⟨some (.val (.int i)),some (.val (.lst (hs.map .int))),?_⟩;generalize G p=gp at *;generalize ps.map G=gs at e;generalize ps.map jk=PD at *;generalize jk p=tp at *;generalize JE ps=bk at *;generalize hs.map D.int=hd at *;unfold b2;simp[n,b,q,r,u,e,v]
def zE (ns:Yh)(h:ns.length<=63):wY [.scr ns]=.ok (.bl true):=by
 have n:ns.length<=1000:=()
 obtain⟨ps,r,B,N,s,L⟩:=gu n;have u:=gt n B N;obtain⟨G,o⟩:=Classical.axiomOfChoice (sP B);have v:=Qc (show ps.length<=1000 from ());have mk:qd (.one 0) (J5 Uk (J0 (jb 1) (J0 (jf jt (jb 0) (dC (.int 0))) jc))) [none,some (.val (JE ps))] (ps.map jk)=.ok (ps.map G):=K4 λp hp=>by
  have a:=(o p hp).1;have b:=yK p;generalize JE ps=bk at a;generalize jk p=pl at b;simp[a,b]
 have w:jO [.lst (ps.map jk)]=some (.int (ps.length:Nat)):=by rw[Y5,Zql]
 have y:Ko [.int (ps.length:Nat)]=.ok (JQ 0 ps.length):=by rw[KF () ()];rfl
 have z:js (.lst [.int 0]) (.lst (ns.map .int))=some (.lst ((0::ns).map .int)):=by
  show(if 1+(ns.map D.int).length<=sizeLine then _ else _)=_;rw[Zql,Zd (QY ())];rfl
 have g:X7 [some (.val (.scr ns)),none,none,none,none,none,none,none]=.ok (.ret (.bl true)):=by
  unfold X7;refine yF (sd':=[some (.val (.scr ns)),some (.val (.lst (ps.map jk))),none,none,none,none,none,none]) (by
   generalize ps.map jk=PD at *;simp[r]) ?_
  refine yF (sd':=[some (.val (.scr ns)),some (.val (.lst (ps.map jk))),some (.val (JE ps)),none,none,none,none,none]) (by
   generalize ps.map jk=PD at *;generalize JE ps=bk at *;simp[u]) ?_
  refine yF (sd':=[some (.val (.scr ns)),some (.val (.lst (ps.map jk))),some (.val (JE ps)),some (.val (.lst (ps.map G))),none,none,none,none]) (by
   have lt:(ps.map jk).length<sizeLine:=by rw[Zql];exact v
   generalize ps.map jk=PD at *;generalize JE ps=bk at *;generalize ps.map G=gs at *;simp[lt,mk]) ?_
  obtain⟨A,q,f,j⟩:=AV (tg:=.one 4) (b:=b1) (ds:=JQ 0 ps.length) (sd:=[some (.val (.scr ns)),some (.val (.lst (ps.map jk))),some (.val (JE ps)),some (.val (.lst (ps.map G))),none,none,none,none])
   (λsd=>∃f,sd=[some (.val (.scr ns)),some (.val (.lst (ps.map jk))),some (.val (JE ps)),some (.val (.lst (ps.map G))),f,none,none,none]) ⟨none,rfl⟩ (by
    rintro i x sd m ⟨f,rfl⟩;obtain⟨rfl,C⟩:=WK m;rw[Vr];exact⟨_,fu B o C _ _ _ _,_,rfl⟩)
  subst j;refine yF (sd':=[some (.val (.scr ns)),some (.val (.lst (ps.map jk))),some (.val (JE ps)),some (.val (.lst (ps.map G))),f,none,none,none]) ?_ ?_
  .show jL _ (.one 4) b1 _=_;generalize b1=b at q;generalize ps.map jk=PD at *;generalize JE ps=bk at *;generalize ps.map G=gs at *;simp[w,y,q]
  refine yF (sd':=[some (.val (.scr ns)),some (.val (.lst (ps.map jk))),some (.val (JE ps)),some (.val (.lst (ps.map G))),f,some (.val (.int 0)),none,none]) () ?_;obtain⟨E,F,H,M,I,l⟩:=Ka (tg:=.one 6) (b:=b2) (ds:=(0::ns).map .int) (sd:=[some (.val (.scr ns)),some (.val (.lst (ps.map jk))),some (.val (JE ps)),some (.val (.lst (ps.map G))),f,some (.val (.int 0)),none,none])
   (P:=λi sd=>∃f u6 u7,sd=[some (.val (.scr ns)),some (.val (.lst (ps.map jk))),some (.val (JE ps)),some (.val (.lst (ps.map G))),f,some (.val (.int (i:Int))),u6,u7]) ⟨f,none,none,rfl⟩ (by
    rintro i x sd m ⟨f,u6,u7,rfl⟩;have J:=(Jc.mp m).1;rw[Zql,Zu] at J;obtain⟨c,_,rfl⟩:=QK m;obtain⟨H,I,e⟩:=fq n B s o (t:=i) () c f u7;exact⟨_,e,_,_,_,rfl⟩)
  subst l;refine yF (sd':=_) (Eq.trans ?_ F) ?_
  .show jL _ (.one 6) b2 _=_;have K:Qr [.scr ns]=some (.lst (ns.map .int)):=rfl;generalize b2=b;generalize ps.map jk=PD at *;generalize JE ps=bk at *;generalize ps.map G=gs at *;generalize (0::ns).map D.int=cs at *;simp[K,z]
  .simp
 unfold wY;rw[Y2 8 1 _ [.scr ns] rfl];show(X7 [some (.val (.scr ns)),none,none,none,none,none,none,none]).bind xc=_;rw[g];rfl
end My
set_option maxHeartbeats 4000000
namespace My
open PySem L2 L2.DL
def wg (i:Nat):Stmt:=PySem.Challenge.pw_allfirst_k64_whole_plan_and_form.main.body.getD i (.Pass ⟨0,0,0,0⟩)
abbrev tbl:List (Str×Nat):=List.zip (List.map Str.ofString ["_law_row_hour", "_law_form_hour", "_law_run", "_law_same", "told_hour", "made_hour", "plan_by", "hours_of", "_law_agree", "_law_cell", "_law_name", "_law_book", "fits_in", "is_covered", "joined", "each_joined", "lowest", "form_within", "all_of", "first_of", "shifted", "waited", "put_into_row", "put_into", "made_form", "thing_form", "forms_knowing", "forms_of", "_law_forms", "_law_number", "_law_hours", "_law_corner", "_law_needed", "_law_wait", "_law_made", "_law_plans", "told_form"]) [42,43,41,33,30,31,22,29,47,34,36,40,5,9,6,17,8,18,14,13,7,12,16,15,27,11,26,24,46,35,44,45,48,37,38,39,25]
abbrev bl:Yk:=List.map Str.ofString ["abs", "bool", "dict", "int", "isinstance", "len", "list", "max", "min", "range", "set", "sorted", "str", "tuple"]
structure All (e:Ev):Prop extends Al e wg tbl bl where
 x_TooMany:Exc e.K e.mg "TooMany" (e.C 0)
 k_Book:ClsD e.K e.mg "Book" (e.C 1) ["plans"]
 l_Book:∃f fd,Mk e.K (e.C 1) f/\Fun e.K "__init__" "Book.__init__" (ZR (wg 21) 0) f fd
 k_Plan:ClsD e.K e.mg "Plan" (e.C 2) ["name", "givens", "rows"]
 l_Plan:∃f fd,Mk e.K (e.C 2) f/\Fun e.K "__init__" "Plan.__init__" (ZR (wg 20) 0) f fd
section
variable {e:Ev}{k j:Nat}
def rZ (a:All e):nN e.P e.w e.K e.mg e.base "Book" ["plans"] 1 ["self", "plans"] D4:=by
 obtain⟨f,fd,c,b⟩:=a.l_Book;have m:=a.m;have k:=a.k_Book;exact⟨_,_,_,k,c,kY (k:=0) (N:=["plans"]) (g:=(J0 (jq Qr (J0 (jb 1) jc)) jc)) b (JO (N:=["self", "plans"])) (by decide) (by decide) λ_ _ _ _ _ _ h=>(AG k (by decide) (pv 0) (j4 (Kl (x:= "list") KC rfl (JA m) Ke (J1 (qv 1) J2))) Hq),b.binds λ_ _ _ _ _ _=>bH λ_ _=>rfl⟩
def su (a:All e):nN e.P e.w e.K e.mg e.base "Plan" ["name", "givens", "rows"] 1 ["self", "name", "givens", "rows"] AW:=by
 obtain⟨f,fd,c,b⟩:=a.l_Plan;have m:=a.m;have k:=a.k_Plan;exact⟨_,_,_,k,c,kY (k:=0) (N:=["name", "givens", "rows"]) (g:=(J0 (jb 1) (J0 (jq Qr (J0 (jb 2) jc)) (J0 (jq Qr (J0 (jb 3) jc)) jc)))) b (JO (N:=["self", "name", "givens", "rows"])) (by decide) (by decide) λ_ _ _ _ _ _ h=>(AG k (by decide) (pv 0) (qv 1) (AG k (by decide) (pv 0) (j4 (Kl (x:= "list") KC rfl (JA m) Ke (J1 (qv 2) J2))) (AG k (by decide) (pv 0) (j4 (Kl (x:= "list") KC rfl (JA m) Ke (J1 (qv 3) J2))) Hq))),b.binds λ_ _ _ _ _ _=>bG λ_ _ _ _=>rfl⟩
def sI (a:All e):Ca e "_law_row_hour" 1 ["row", "hours"] (qw e.K YU):=
 qU a.toAl 0 42 λF=>qo (N:=["row", "hours"]) (g:=AX) F JO λ_ _ _ _ _ _ b=>by
 have m:=a.m;unfold AX;exact(J7 (JL (JU (x:= "max") (Cw rfl) rfl (JA m) ZV (J1 (j4 (Wm ["pair", "hours"] [none,some 1] rfl rfl (JX (qv 0)) (λ_ _ _ _ _=>(JT (xI 0 j5))) (λ_ _ _ _ _=>(jl JP (JG (JB b) (qv 1) (JG (JB b) (qv 0) J3 (λ_ _=>rfl) (λ_ _=>rfl)) (λ_ _=>rfl) (λ_ _=>rfl)) (JG (JB b) (qv 0) J3 (λ_ _=>rfl) (λ_ _=>rfl)))))) J2))))
def rX (a:All e):Ca e "_law_form_hour" 2 ["form", "hours"] (qw e.K YV):=
 qU a.toAl 1 43 λF=>qo (N:=["form", "hours"]) (g:=AY) F JO λ_ _ _ _ _ _ c=>by
 have m:=a.m;have b:=(sI a).mono (k:=1) ();unfold AY;exact(J7 (JL (JU (x:= "min") (Cy rfl) rfl (JA m) BN (J1 (j4 (Wm ["row", "hours"] [none,some 1] rfl rfl (JX (qv 0)) (λ_ _ _ _ _=>(JT (xI 0 j5))) (λ_ _ _ _ _=>(jG b c rfl (J1 (qv 0) (J1 (qv 1) J2)))))) J2))))
def sZ (a:All e)(c:Ca e "_law_run" (0+k) ["plans", "p", "hours"] (qw e.K (VZ j))):Ca e "_law_run" (0+k+1) ["plans", "p", "hours"] (qw e.K (VZ (j+1))):=
 qU a.toAl 2 41 λF=>qo (N:=["plans", "p", "hours", "found", "row", "times", "part"]) (g:=(YW (VZ j))) F JO λ_ _ _ _ _ _ b=>by
 have m:=a.m;unfold YW
 exact(J8 (Kf j5 rfl (.inr rfl) (Kl (x:= "list") KC rfl (JA m) Ke (J1 (qv 2) J2))) (J8 (Qk PassesOwn.never rfl (JX (JG (JB b) (JG (JB b) (qv 0) (qv 1) (λ_ _=>rfl) (λ_ _=>rfl)) J3 (λ_ _=>rfl) (λ_ _=>rfl))) (JT (JW j5 rfl (.inr rfl))) (J8 (HB ["item", "found"] [none,some 3] 1 j5 rfl (.inl rfl) rfl rfl (JX (JG (JB b) (qv 4) J3 (λ_ _=>rfl) (λ_ _=>rfl))) (λ_ _ _ _ _=>(JT (xI 0 j5))) (λ_ _ _ _ _=>(jl JP (C9 (JB b) (pv 1) (JG (JB b) (qv 0) J3 (λ_ _=>rfl) (λ_ _=>rfl)) (λ_ _=>rfl) (λ_ _=>rfl)) (JG (JB b) (qv 0) J3 (λ_ _=>rfl) (λ_ _=>rfl))))) (J7 (Qa (Qx (qW b.units) (JG (JB b) (qv 4) J3 (λ_ _=>rfl) (λ_ _=>rfl)) V1 (Qm _)) (J7 (KN (pv 3) (JU (x:= "max") (Cw rfl) rfl (JA m) ZV (J1 (qv 5) J2)) (λf h=>Kw Yy Yz YA K9 f h))) (J7 (Qa (Qx (qW b.units) (JG (JB b) (qv 4) J3 (λ_ _=>rfl) (λ_ _=>rfl)) V1 (Qm _)) (J7 (KN (pv 3) (JU (x:= "min") (Cy rfl) rfl (JA m) BN (J1 (qv 5) J2)) (λf h=>Kw Yy Yz YA K9 f h))) (J8 (JS j5 rfl (.inl rfl) (JG (JB b) (j4 (C4 ["k", "plans", "row"] [none,some 0,some 4] rfl rfl (KD rfl (JA m) (J1 (qv 1) J2)) (λ_ _ _ _ _=>(JT (xI 0 j5))) (λ_ _ _ _ _=>(Qx (qW b.units) (JG (JB b) (JG (JB b) (qv 1) (qv 0) (λ_ _=>rfl) (λ_ _=>rfl)) J3 (λ_ _=>rfl) (λ_ _=>rfl)) (JG (JB b) (qv 2) J3 (λ_ _=>rfl) (λ_ _=>rfl)) (Qm _))) (λ_ _ _ _ _=>(qv 0)))) J3 (λ_ _=>rfl) (λ_ _=>rfl))) (J7 (KN (pv 3) (JG (JB b) (jG c b rfl (J1 (qv 0) (J1 (qv 6) (J1 (qv 5) J2)))) (xO KO J3) (λ_ _=>rfl) (λ_ _=>rfl)) (λf h=>Kw Yy Yz YA K9 f h)))))))))) (J7 (WC [3] (JL (qv 3))))))
theorem Lg (a:All e):∀j,Ca e "_law_run" (0+j) ["plans", "p", "hours"] (qw e.K (VZ j))
 | 0=>qU a.toAl 2 41 λ_=>C7
 |j+1=>sZ (k:=j) a (Lg a j)
def sH (a:All e):Ca e "_law_run" 4 ["plans", "p", "hours"] (qw e.K (VZ 4)):=Lg a 4
def sW (a:All e)(c:Ca e "_law_same" (0+k) ["found", "due"] (qw e.K (Q1 j))):Ca e "_law_same" (0+k+1) ["found", "due"] (qw e.K (Q1 (j+1))):=
 qU a.toAl 3 33 λF=>qo (N:=["found", "due", "k"]) (g:=(YX (Q1 j))) F JO λ_ _ _ _ _ _ b=>by
 have m:=a.m;unfold YX
 exact(J8 (Qa (QJ (JU (x:= "isinstance") KQ rfl (JA m) KM (J1 (qv 1) (J1 (KR (n:= "str") (x:= "str") rfl (JA m) XI rfl) J2)))) (J7 (JL (Cj (JU (x:= "isinstance") KQ rfl (JA m) KM (J1 (qv 0) (J1 (KR (n:= "str") (x:= "str") rfl (JA m) XI rfl) J2))) (Fz (Fy (qW b.units) (qv 0) (qv 1) (Qm _)))))) Qe) (J8 (Qa (QJ (JU (x:= "isinstance") KQ rfl (JA m) KM (J1 (qv 1) (J1 (KR (n:= "int") (x:= "int") rfl (JA m) E8 rfl) J2)))) (J7 (JL (Cj (JU (x:= "isinstance") KQ rfl (JA m) KM (J1 (qv 0) (J1 (KR (n:= "int") (x:= "int") rfl (JA m) E8 rfl) J2))) (Cj (u2 (JU (x:= "isinstance") KQ rfl (JA m) KM (J1 (qv 0) (J1 (KR (n:= "bool") (x:= "bool") rfl (JA m) NB rfl) J2)))) (Fz (Fy (qW b.units) (qv 0) (qv 1) (Qm _))))))) Qe) (J8 (Qa (yW (Ch (Qx (zD b.units) (JU (x:= "isinstance") KQ rfl (JA m) KM (J1 (qv 1) (J1 (KR (n:= "list") (x:= "list") rfl (JA m) Ke rfl) J2))) (JU (x:= "isinstance") KQ rfl (JA m) KM (J1 (qv 0) (J1 (KR (n:= "list") (x:= "list") rfl (JA m) Ke rfl) J2))) (Qm _)) (Cg (Qx (zD b.units) (JU (x:= "isinstance") KQ rfl (JA m) KM (J1 (qv 1) (J1 (KR (n:= "tuple") (x:= "tuple") rfl (JA m) XJ rfl) J2))) (JU (x:= "isinstance") KQ rfl (JA m) KM (J1 (qv 0) (J1 (KR (n:= "tuple") (x:= "tuple") rfl (JA m) XJ rfl) J2))) (Qm _))))) (J7 (JL Qw)) Qe) (J8 (Qa (Qx (zD b.units) (JU (x:= "len") QQ rfl (JA m) QP (J1 (qv 0) J2)) (JU (x:= "len") QQ rfl (JA m) QP (J1 (qv 1) J2)) (Qm _)) (J7 (JL Qw)) Qe) (J8 (Qk PassesOwn.never rfl (KD rfl (JA m) (J1 (JU (x:= "len") QQ rfl (JA m) QP (J1 (qv 1) J2)) J2)) (JT (JW j5 rfl (.inl rfl))) (J7 (Qa (Ky (QJ (jG c b rfl (J1 (JG (JB b) (qv 0) (qv 2) (λ_ _=>rfl) (λ_ _=>rfl)) (J1 (JG (JB b) (qv 1) (qv 2) (λ_ _=>rfl) (λ_ _=>rfl)) J2))))) (J7 (JL Qw)) Qe))) (J7 (JL Qw)))))))
theorem Lh (a:All e):∀j,Ca e "_law_same" (0+j) ["found", "due"] (qw e.K (Q1 j))
 | 0=>qU a.toAl 3 33 λ_=>C7
 |j+1=>sW (k:=j) a (Lh a j)
def DI (a:All e):Ca e "_law_same" 6 ["found", "due"] (qw e.K (Q1 6)):=Lh a 6
def Li (a:All e):Ca e "plan_by" 1 ["book", "name"] (qw e.K YZ):=
 qU a.toAl 6 22 λF=>qo (N:=["book", "name", "plan"]) (g:=Ba) F JO λ_ _ _ _ _ _ f=>by
 have b:=a.k_Book;have c:=a.k_Plan;unfold Ba;exact(J8 (Qk PassesOwn.never rfl (JX (YP b (by decide) (qv 0))) (JT (JW j5 rfl (.inl rfl))) (J7 (Qa (Qx (qW f.units) (YP c (by decide) (qv 2)) (qv 1) (Qm _)) (J7 (JL (qv 2))) Qe))) (J7 uy))
def Lj (a:All e)(b:Ca e "hours_of" (1+k) ["book", "name", "hours"] (qw e.K (KY j))):Ca e "told_hour" (1+k+1) ["book", "name", "hours"] (qw e.K (QR j)):=
 qU a.toAl 4 30 λF=>qo (N:=["book", "name", "hours"]) (g:=(YY (KY j))) F JO λ_ _ _ _ _ _ c=>by
 unfold YY;exact(J7 (JL (JG (JB c) (jG b c rfl (J1 (qv 0) (J1 (qv 1) (J1 (qv 2) J2)))) (xO KO J3) (λ_ _=>rfl) (λ_ _=>rfl))))
def Lk (a:All e)(b:Ca e "told_hour" (1+k) ["book", "name", "hours"] (qw e.K (QR j))):Ca e "made_hour" (1+k+1) ["book", "how", "hours"] (qw e.K (Ku j)):=
 qU a.toAl 5 31 λF=>qo (N:=["book", "how", "hours"]) (g:=(WP (QR j))) F JO λ_ _ _ _ _ _ c=>by
 have m:=a.m;unfold WP;exact(J8 (Qa (Qx (qW c.units) (qv 1) V1 (Qm _)) (J7 (JL (JU (x:= "max") (Cw rfl) rfl (JA m) ZV (J1 (qv 2) J2)))) Qe) (J8 (Qa (Qx (qW c.units) (qv 1) V1 (Qm _)) (J7 (JL (JU (x:= "min") (Cy rfl) rfl (JA m) BN (J1 (qv 2) J2)))) Qe) (J7 (JL (jG b c rfl (J1 (qv 0) (J1 (qv 1) (J1 (qv 2) J2))))))))
def tf (a:All e)(c:Ca e "made_hour" (1+k) ["book", "how", "hours"] (qw e.K (Ku j))):Ca e "hours_of" (1+k+1) ["book", "name", "hours"] (qw e.K (KY (j+1))):=
 qU a.toAl 7 29 λF=>qo (N:=["book", "name", "hours", "told", "made", "how", "items"]) (g:=(Z1 (Ku j))) F JO λ_ _ _ _ _ _ h=>by
 have m:=a.m;have f:=(Li a).mono (k:=(1+k)) ();have b:=a.k_Plan;unfold Z1;exact(J8 (Kf j5 rfl (.inr rfl) (Kl (x:= "list") KC rfl (JA m) Ke (J1 (qv 2) J2))) (J8 (Qk PassesOwn.never rfl (JX (YP b (by decide) (jG f h rfl (J1 (qv 0) (J1 (qv 1) J2))))) (Wp [4,5,6] (We rfl (QD (JW j5 rfl (.inl rfl)) (QD (JW j5 rfl (.inl rfl)) (QD (JW j5 rfl (.inl rfl)) Wd))))) (J7 (KN (pv 3) (XV [3] (jG c h rfl (J1 (qv 0) (J1 (qv 5) (J1 (j4 (Wm ["thing", "wait", "told"] [none,none,some 3] rfl rfl (JX (qv 6)) (λ_ _ _ _ _=>(Wp [0,1] (We rfl (QD (xI 0 j5) (QD (xI 1 j5) Wd))))) (λ_ _ _ _ _=>(jl JP (JG (JB h) (qv 2) (qv 0) (λ_ _=>rfl) (λ_ _=>rfl)) (qv 1))))) J2))))) (λi l=>Kw Yy Yz YA K9 i l)))) (J7 (WC [3] (JL (qv 3))))))
theorem Ll (a:All e):∀j,Ca e "hours_of" (1+3*j) ["book", "name", "hours"] (qw e.K (KY j))
 | 0=>qU a.toAl 7 29 λ_=>C7
 |j+1=>tf (k:=3*j+2) a (Lk (k:=3*j+1) a (Lj (k:=3*j+0) a (Ll a j)))
def Lm (a:All e):Ca e "hours_of" 13 ["book", "name", "hours"] (qw e.K (KY 4)):=Ll a 4
def DJ (a:All e):Ca e "told_hour" 14 ["book", "name", "hours"] (qw e.K (QR 4)):=Lj (k:=12) a (Lm a)
def mr (a:All e):Ca e "made_hour" 15 ["book", "how", "hours"] (qw e.K (Ku 4)):=Lk (k:=13) a (DJ a)
def sC (a:All e):Ca e "_law_agree" 15 ["plans", "p", "book", "forms", "hours"] (qw e.K Xy):=
 qU a.toAl 8 47 λF=>qo (N:=["plans", "p", "book", "forms", "hours", "run", "k"]) (g:=Z3) F JO λ_ _ _ _ _ _ b=>by
 have m:=a.m;have f:=(rX a).mono (k:=14) ();have h:=(sH a).mono (k:=14) ();have c:=(DI a).mono (k:=14) ();have i:=(Lm a).mono (k:=14) ();have l:=(DJ a).mono (k:=14) ();unfold Z3
 exact(J8 (JS j5 rfl (.inl rfl) (jG i b rfl (J1 (qv 2) (J1 (JG (JB b) (JG (JB b) (qv 0) (qv 1) (λ_ _=>rfl) (λ_ _=>rfl)) J3 (λ_ _=>rfl) (λ_ _=>rfl)) (J1 (j4 (Kl (x:= "list") KC rfl (JA m) Ke (J1 (qv 4) J2))) J2))))) (J8 (Qa (Ky (QJ (jG c b rfl (J1 (qv 5) (J1 (jG h b rfl (J1 (qv 0) (J1 (qv 1) (J1 (qv 4) J2)))) J2))))) (J7 (JL Qw)) Qe) (J8 (Qa (Ky (QJ (jG c b rfl (J1 (jG l b rfl (J1 (qv 2) (J1 (JG (JB b) (JG (JB b) (qv 0) (qv 1) (λ_ _=>rfl) (λ_ _=>rfl)) J3 (λ_ _=>rfl) (λ_ _=>rfl)) (J1 (j4 (Kl (x:= "list") KC rfl (JA m) Ke (J1 (qv 4) J2))) J2)))) (J1 (JG (JB b) (qv 5) (xO KO J3) (λ_ _=>rfl) (λ_ _=>rfl)) J2))))) (J7 (JL Qw)) Qe) (J8 (Qa (Pk (qv 3)) (J7 (JL Qw)) Qe) (J8 (Qa (yW (Ch (Ky (QJ (JU (x:= "isinstance") KQ rfl (JA m) KM (J1 (qv 3) (J1 (KR (n:= "list") (x:= "list") rfl (JA m) Ke rfl) J2))))) (Cg (Qx (zD b.units) (JU (x:= "len") QQ rfl (JA m) QP (J1 (qv 3) J2)) (JU (x:= "len") QQ rfl (JA m) QP (J1 (qv 5) J2)) (Qm _))))) (J7 (JL Qw)) Qe) (J8 (Qk PassesOwn.never rfl (KD rfl (JA m) (J1 (JU (x:= "len") QQ rfl (JA m) QP (J1 (qv 5) J2)) J2)) (JT (JW j5 rfl (.inl rfl))) (J7 (Qa (Qx (zD b.units) (jG f b rfl (J1 (JG (JB b) (qv 3) (qv 6) (λ_ _=>rfl) (λ_ _=>rfl)) (J1 (qv 4) J2))) (JG (JB b) (qv 5) (qv 6) (λ_ _=>rfl) (λ_ _=>rfl)) (Qm _)) (J7 (JL Qw)) Qe))) (J7 (JL Qw))))))))
def Bt (a:All e):Ca e "_law_cell" 1 ["script", "k"] (qw e.K QL):=
 qU a.toAl 9 34 λF=>qo (N:=["script", "k", "turn"]) (g:=Z5) F JO λ_ _ _ _ _ _ b=>by
 have m:=a.m;unfold Z5;exact(J8 (Qa (Qx (qW b.units) (JU (x:= "len") QQ rfl (JA m) QP (J1 (qv 0) J2)) J3 (Qm _)) (J7 (JL (qv 1))) Qe) (J8 (JS j5 rfl (.inl rfl) (jl QZ (qv 1) (JU (x:= "len") QQ rfl (JA m) QP (J1 (qv 0) J2)))) (J7 (JL (jl JP (jl QZ (jl Qq (JG (JB b) (qv 0) (jl Qq (qv 1) (JU (x:= "len") QQ rfl (JA m) QP (J1 (qv 0) J2))) (λ_ _=>rfl) (λ_ _=>rfl)) (jl Wn J3 J3)) (jl JP J3 (qv 2))) (jl WD (qv 2) (qv 1)))))))
def DK (a:All e):Ca e "_law_name" 2 ["script", "k"] (qw e.K Kv):=
 qU a.toAl 10 36 λF=>qo (N:=["script", "k", "cell", "letters", "one", "two"]) (g:=X0) F JO λ_ _ _ _ _ _ c=>by
 have m:=a.m;have b:=(Bt a).mono (k:=1) ();unfold X0;exact(J8 (JS j5 rfl (.inl rfl) (jG b c rfl (J1 (qv 0) (J1 J3 J2)))) (J8 (JS j5 rfl (.inl rfl) V1) (J8 (JS j5 rfl (.inl rfl) (JG (JB c) (qv 3) (jl Qq (jl QZ (qv 2) J3) J3) (λ_ _=>rfl) (λ_ _=>rfl))) (J8 (JS j5 rfl (.inl rfl) (JG (JB c) (qv 3) (jl Qq (jl QZ (qv 2) J3) J3) (λ_ _=>rfl) (λ_ _=>rfl))) (J7 (JL (JG (JB c) (j4 (Kz (J1 (jl JP (qv 4) (Xe (x:= "str") Df rfl (JA m) XI (J1 (qv 1) J2))) (J1 (jl JP (jl JP (qv 4) (Xe (x:= "str") Df rfl (JA m) XI (J1 (qv 1) J2))) (qv 5)) (J1 (jl JP (jl JP (qv 4) (qv 5)) (Xe (x:= "str") Df rfl (JA m) XI (J1 (qv 1) J2))) J2))))) (jl Qq (qv 2) J3) (λ_ _=>rfl) (λ_ _=>rfl))))))))
def rW (a:All e):Ca e "_law_book" 3 ["script", "plans"] (zj e.K Bd):=
 qU a.toAl 11 40 λF=>y7 (N:=["script", "plans", "made", "plan", "givens"]) (g:=Bc) F JO λ_ _ _ _ _ _ h=>by
 have m:=a.m;have f:=(DK a).mono (k:=2) ();have b:=rZ a;have c:=su a;unfold Bc;exact(J8 (Kf j5 rfl (.inl rfl) (Kz J2)) (J8 (Qk PassesOwn.never rfl (JX (qv 1)) (JT (JW j5 rfl (.inl rfl))) (J8 (Gd ["k", "script"] [none,some 0] j5 rfl (.inl rfl) rfl rfl (KD rfl (JA m) (J1 (JG (JB h) (qv 3) J3 (λ_ _=>rfl) (λ_ _=>rfl)) J2)) (λ_ _ _ _ _=>(JT (xI 0 j5))) (λ_ _ _ _ _=>(jG f h rfl (J1 (qv 1) (J1 (jl JP J3 (qv 0)) J2))))) (J7 (KN (pv 2) (j4 (Hr c (h.mono ()) rfl (J1 (JG (JB h) (qv 3) J3 (λ_ _=>rfl) (λ_ _=>rfl)) (J1 (qv 4) (J1 (j4 (Kl (x:= "list") KC rfl (JA m) Ke (J1 (JG (JB h) (qv 3) J3 (λ_ _=>rfl) (λ_ _=>rfl)) J2))) J2))))) (λi l=>Kw Yy Yz YA K9 i l))))) (J7 (WC [2] (XX (Hr b (h.mono ()) rfl (J1 (qv 2) J2)))))))
def uY (a:All e):Ca e "fits_in" 1 ["row", "waits"] (qw e.K vt):=
 qU a.toAl 12 5 λF=>qo (N:=["row", "waits", "thing", "wait"]) (g:=vr) F JO λ_ _ _ _ _ _ b=>by
 unfold vr;exact(J8 (Qk PassesOwn.never rfl (JX (qv 0)) (Wp [2,3] (We rfl (QD (JW j5 rfl (.inl rfl)) (QD (JW j5 rfl (.inl rfl)) Wd)))) (J7 (Qa (yW (Ch (FP b.units (qv 2) (qv 1)) (Cg (Qx vi (qv 3) (JG (JB b) (qv 1) (qv 2) (λ_ _=>rfl) (λ_ _=>rfl)) (Qm _))))) (J7 (JL Qw)) Qe))) (J7 (JL Qw)))
def Ln (a:All e):Ca e "is_covered" 2 ["row", "kept"] (qw e.K xj):=
 qU a.toAl 13 9 λF=>qo (N:=["row", "kept", "waits", "other"]) (g:=wG) F JO λ_ _ _ _ _ _ c=>by
 have m:=a.m;have b:=(uY a).mono (k:=1) ();unfold wG;exact(J8 (JS j5 rfl (.inl rfl) (j4 (Kl (x:= "dict") (FW rfl) rfl (JA m) E9 (J1 (qv 0) J2)))) (J8 (Qk PassesOwn.never rfl (JX (qv 1)) (JT (JW j5 rfl (.inl rfl))) (J7 (Qa (QJ (jG b c rfl (J1 (qv 3) (J1 (qv 2) J2)))) (J7 (JL Qw)) Qe))) (J7 (JL Qw))))
def uX (a:All e):Ca e "joined" 1 ["row", "other"] (qw e.K zn):=
 qU a.toAl 14 6 λF=>qo (N:=["row", "other", "waits", "thing", "wait"]) (g:=wJ) F JO λ_ _ _ _ _ _ b=>by
 have m:=a.m;unfold wJ;exact(J8 (Kf j5 rfl (.inl rfl) (Kl (x:= "dict") (FW rfl) rfl (JA m) E9 (J1 (qv 0) J2))) (J8 (Qk PassesOwn.never rfl (JX (qv 1)) (Wp [3,4] (We rfl (QD (JW j5 rfl (.inl rfl)) (QD (JW j5 rfl (.inl rfl)) Wd)))) (J7 (OZ (JB b) (pv 2) (qv 3) (JU (x:= "max") (OO rfl) rfl (JA m) ZV (J1 (qv 4) (J1 (XV [2] (OY (JB b) (qv 2) (qv 3) (qv 4) ⟨rfl,rfl,rfl,rfl⟩)) J2)))))) (J7 (WC [2] (JL (Xe (x:= "tuple") Cz rfl (JA m) XJ (J1 (Ph (λh=>ZP (Oq rfl) rfl (JA m) BO (Wf (MY PySem.F.plainAttrs_dict PySem.F.slot_dict_items PySem.F.type_dict_items Op h) W0)) (qv 2)) J2)))))))
def sw (a:All e):Ca e "each_joined" 3 ["form", "other"] (zj e.K Z7):=
 qU a.toAl 15 17 λF=>y7 (N:=["form", "other", "rows", "rest", "row"]) (g:=Be) F JO λ_ _ _ _ _ _ c=>by
 have m:=a.m;have b:=(Ln a).mono (k:=2) ();have f:=(uX a).mono (k:=2) ();unfold Be;exact(J8 (Kf j5 rfl (.inl rfl) (u0 S6 (j4 (C4 ["row", "other"] [none,some 1] rfl rfl (JX (qv 0)) (λ_ _ _ _ _=>(JT (xI 0 j5))) (λ_ _ _ _ _=>(QJ (jG b c rfl (J1 (qv 0) (J1 (qv 1) J2))))) (λ_ _ _ _ _=>(qv 0)))) (j4 (C4 ["row", "form"] [none,some 0] rfl rfl (JX (qv 1)) (λ_ _ _ _ _=>(JT (xI 0 j5))) (λ_ _ _ _ _=>(QJ (jG b c rfl (J1 (qv 0) (J1 (qv 1) J2))))) (λ_ _ _ _ _=>(qv 0)))))) (J8 (Pq ["row", "form"] [none,some 0] j5 rfl (.inl rfl) rfl rfl (JX (qv 1)) (λ_ _ _ _ _=>(JT (xI 0 j5))) (λ_ _ _ _ _=>(Ky (QJ (jG b c rfl (J1 (qv 0) (J1 (qv 1) J2)))))) (λ_ _ _ _ _=>(qv 0))) (J8 (Qk PassesOwn.never rfl (JX (qv 0)) (JT (JW j5 rfl (.inr rfl))) (J7 (Qa (Ky (QJ (jG b c rfl (J1 (qv 4) (J1 (qv 1) J2))))) (J7 (O7 (pv 2) (Wm ["other_row", "row"] [none,some 4] rfl rfl (JX (qv 3)) (λ_ _ _ _ _=>(JT (xI 0 j5))) (λ_ _ _ _ _=>(jG f c rfl (J1 (qv 1) (J1 (qv 0) J2))))) (λh i=>Kw Yy PySem.F.slot_list_extend PySem.F.type_list_extend Na h i))) Qe))) (J7 (Xf (pv 2))))))
def uV (a:All e):Ca e "lowest" 3 ["rows", "enough"] (zj e.K wL):=
 qU a.toAl 16 8 λF=>y7 (N:=["rows", "enough", "kept", "row"]) (g:=wH) F JO λ_ _ _ _ _ _ c=>by
 have m:=a.m;have b:=(Ln a).mono (k:=2) ();unfold wH;exact(J8 (Kf j5 rfl (.inl rfl) (Kz J2)) (J8 (Qk PassesOwn.never rfl (JX (j4 (Sh (λh=>L2.ST.pe_sortLen rfl (JA m) rfl (JA m) h) (J1 (j4 (RW (λh=>ZP (L2.ST.call_sortedSet rfl c.units) rfl (JA m) BO (Wf (B7 (L2.ST.call_setRows rfl c.units) rfl (JA m) L2.bt_set h) W0)) (J1 (qv 0) J2))) J2)))) (JT (JW j5 rfl (.inl rfl))) (J8 (Qa (Qx (qW c.units) (XV [2] (JU (x:= "len") QQ rfl (JA m) QP (J1 (qv 2) J2))) (qv 1) (Qm _)) (J7 O6) Qe) (J7 (Qa (Ky (QJ (XV [2] (jG b c rfl (J1 (qv 3) (J1 (qv 2) J2)))))) (J7 (KN (pv 2) (qv 3) (λf i=>Kw Yy Yz YA K9 f i))) Qe)))) (J7 (Xf (pv 2)))))
def Lo (a:All e):yR e "form_within" 4 ["rows", "most"] (xX e.K QC):=
 xR a.toAl 17 18 λF=>Db (N:=["rows", "most", "kept"]) (g:=Z8) F JO λ_ _ _ _ _ _ f=>by
 have m:=a.m;have c:=(uV a).mono (k:=3) ();have b:=a.x_TooMany;unfold Z8;exact(J8 (JS j5 rfl (.inl rfl) (j4 (YO c f rfl (J1 (qv 0) (J1 (jl JP (qv 1) J3) J2))))) (J8 (Qa (Qx vi (JU (x:= "len") QQ rfl (JA m) QP (J1 (qv 2) J2)) (qv 1) (Qm _)) (J7 (Ss Sk b rfl rfl (u5 (by decide) (qv 1)))) Qe) (J7 (XX (O5 (x:= "sorted") (P1 f.units) rfl (JA m) BO (J1 (qv 2) J2))))))
def Lp (a:All e):yR e "all_of" 5 ["forms", "most"] (xu e.K xG):=
 xR a.toAl 18 14 λF=>AE (N:=["forms", "most", "told", "form"]) (g:=zR) F JO λ_ _ _ _ _ _ f=>by
 have c:=(sw a).mono (k:=4) ();have b:=(Lo a).mono (k:=4) ();unfold zR;exact(J8 (JS j5 rfl (.inl rfl) (j4 (Xq b Kr f rfl (J1 (JG (JB f) (qv 0) J3 (λ_ _=>rfl) (λ_ _=>rfl)) (J1 (qv 1) J2))))) (J8 (Qk Dd rfl (JX (j4 (Go (qv 0) (Gn J3) A7 A7))) (JT (JW j5 rfl (.inl rfl))) (J7 (JS j5 rfl (.inl rfl) (j4 (Xq b Kr f rfl (J1 (j4 (YO c f rfl (J1 (qv 2) (J1 (qv 3) J2)))) (J1 (qv 1) J2))))))) (J7 (JL (qv 2)))))
def Lq (a:All e):yR e "first_of" 5 ["forms", "most"] (xX e.K ya):=
 xR a.toAl 19 13 λF=>Db (N:=["forms", "most", "told", "form"]) (g:=zS) F JO λ_ _ _ _ _ _ c=>by
 have b:=(Lo a).mono (k:=4) ();unfold zS;exact(J8 (Kf j5 rfl (.inl rfl) (Xq b Kr c rfl (J1 (JG (JB c) (qv 0) J3 (λ_ _=>rfl) (λ_ _=>rfl)) (J1 (qv 1) J2)))) (J8 (Qk Dd rfl (JX (j4 (Go (qv 0) (Gn J3) A7 A7))) (JT (JW j5 rfl (.inl rfl))) (J7 (WC [2] (Kf j5 rfl (.inl rfl) (Xq b Kr c rfl (J1 (jl JP (qv 2) (qv 3)) (J1 (qv 1) J2))))))) (J7 (Xf (pv 2)))))
def uW (a:All e):Ca e "shifted" 1 ["row", "wait"] (qw e.K zT):=
 qU a.toAl 20 7 λF=>qo (N:=["row", "wait"]) (g:=wI) F JO λ_ _ _ _ _ _ b=>by
 have m:=a.m;unfold wI;exact(J7 (JL (Xe (x:= "tuple") Cz rfl (JA m) XJ (J1 (j4 (Wm ["thing", "own", "wait"] [none,none,some 1] rfl rfl (JX (qv 0)) (λ_ _ _ _ _=>(Wp [0,1] (We rfl (QD (xI 0 j5) (QD (xI 1 j5) Wd))))) (λ_ _ _ _ _=>(Xd (J1 (qv 0) (J1 (jl JP (qv 1) (qv 2)) J2)))))) J2))))
def Lr (a:All e):Ca e "waited" 2 ["form", "wait"] (zj e.K yD):=
 qU a.toAl 21 12 λF=>y7 (N:=["form", "wait"]) (g:=wF) F JO λ_ _ _ _ _ _ c=>by
 have b:=(uW a).mono (k:=1) ();unfold wF;exact(J7 (XX (Wm ["row", "wait"] [none,some 1] rfl rfl (JX (qv 0)) (λ_ _ _ _ _=>(JT (xI 0 j5))) (λ_ _ _ _ _=>(jG b c rfl (J1 (qv 0) (J1 (qv 1) J2)))))))
def s0 (a:All e):yR e "put_into_row" 6 ["row", "forms", "most"] (xu e.K Kj):=
 xR a.toAl 22 16 λF=>AE (N:=["row", "forms", "most"]) (g:=Bi) F JO λ_ _ _ _ _ _ f=>by
 have b:=(Lp a).mono (k:=5) ();have c:=(Lr a).mono (k:=5) ();unfold Bi;exact(J7 (JL (YN b Kr f rfl (J1 (j4 (Wm ["thing", "wait", "forms"] [none,none,some 1] rfl rfl (JX (qv 0)) (λ_ _ _ _ _=>(Wp [0,1] (We rfl (QD (xI 0 j5) (QD (xI 1 j5) Wd))))) (λ_ _ _ _ _=>(j4 (YO c f rfl (J1 (JG (JB f) (qv 2) (qv 0) (λ_ _=>rfl) (λ_ _=>rfl)) (J1 (qv 1) J2))))))) (J1 (qv 2) J2)))))
def uT (a:All e):yR e "put_into" 7 ["form", "forms", "most"] (xX e.K xB):=
 xR a.toAl 23 15 λF=>Db (N:=["form", "forms", "most"]) (g:=zm) F JO λ_ _ _ _ _ _ f=>by
 have c:=(Lq a).mono (k:=6) ();have b:=(s0 a).mono (k:=6) ();unfold zm;exact(J7 (XX (Xq c Kr f rfl (J1 (j4 (SE ["row", "forms", "most"] [none,some 1,some 2] rfl rfl (JX (qv 0)) (λ_ _ _ _ _=>(JT (xI 0 j5))) (λ_ _ _ _ _ h=>(YN b (SC rfl rfl rfl SA h) f rfl (J1 (qv 0) (J1 (qv 1) (J1 (qv 2) J2))))))) (J1 (qv 2) J2)))))
def uU (a:All e):Ca e "thing_form" 1 ["thing"] (zj e.K wK):=
 qU a.toAl 25 11 λF=>y7 (N:=["thing"]) (g:=vq) F JO λ_ _ _ _ _ _ b=>by
 unfold vq;exact(J7 (XX (Kz (J1 (Xd (J1 (Xd (J1 (qv 0) (J1 J3 J2))) J2)) J2))))
def Ls (a:All e)(c:yR e "forms_knowing" (7+k) ["book", "name", "most", "known"] (Ks e.K (QM j))):yR e "made_form" (7+k+1) ["book", "how", "forms", "most", "known"] (Ks e.K (Qu j)):=
 xR a.toAl 24 27 λF=>HC (N:=["book", "how", "forms", "most", "known"]) (g:=(Wb (QM j))) F JO λ_ _ _ _ _ _ b=>by
 have f:=(Lp a).mono (k:=(7+k)) ();have h:=(Lq a).mono (k:=(7+k)) ();have i:=(uT a).mono (k:=(7+k)) ();unfold Wb;exact(Hz (HE (Qx (qW b.units) (qv 1) V1 (Qm _))) (AK (Xt (YN f Kr b rfl (J1 (qv 2) (J1 (qv 3) J2))))) (Hz (HE (Qx (qW b.units) (qv 1) V1 (Qm _))) (AK (Xt (j4 (Xq h Kr b rfl (J1 (qv 2) (J1 (qv 3) J2)))))) (AL (m:=none) (uA (Td [4] (FP b.units (qv 1) (qv 4))) (Hw (Th (JB b) (qv 4) (qv 1) (SQ kl (HD c Kr b rfl (J1 (qv 0) (J1 (qv 1) (J1 (qv 3) (J1 (qv 4) J2))))) (Xt (xO KO J3)) (λ_ _=>rfl)))) SI) (AK (Tc (yk.d i) Kr b rfl (Dk (Te (JB b) (qv 4) (qv 1) (λ_ _=>rfl)) (Dk (Xt (qv 2)) (Dk (Xt (qv 3)) SS))))))))
def sK (a:All e)(c:yR e "made_form" (7+k) ["book", "how", "forms", "most", "known"] (Ks e.K (Qu j))):yR e "forms_knowing" (7+k+1) ["book", "name", "most", "known"] (Ks e.K (QM (j+1))):=
 xR a.toAl 26 26 λF=>HC (N:=["book", "name", "most", "known", "plan", "told", "made", "how", "items", "forms"]) (g:=(ZD (Qu j))) F JO λ_ _ _ _ _ _ h=>by
 have m:=a.m;have f:=(Li a).mono (k:=(7+k)) ();have i:=(uU a).mono (k:=(7+k)) ();have l:=(Lr a).mono (k:=(7+k)) ();have b:=a.k_Plan;unfold ZD;exact(AL (m:=none) (Di (JS j5 rfl (.inl rfl) (u4 f h rfl (J1 (qv 0) (J1 (qv 1) J2))))) (AL (m:=none) (Di (Kf j5 rfl (.inr rfl) (Wm ["thing"] [none] rfl rfl (KD rfl (JA m) (J1 (JU (x:= "len") QQ rfl (JA m) QP (J1 (YP b (by decide) (qv 4)) J2)) J2)) (λ_ _ _ _ _=>(JT (xI 0 j5))) (λ_ _ _ _ _=>(j4 (YO i h rfl (J1 (qv 0) J2))))))) (AL (m:=none) (SL Dd rfl (JX (YP b (by decide) (qv 4))) (Wp [6,7,8] (We rfl (QD (JW j5 rfl (.inl rfl)) (QD (JW j5 rfl (.inl rfl)) (QD (JW j5 rfl (.inl rfl)) Wd))))) (SJ (Di (HB ["thing", "wait", "told"] [none,none,some 5] 2 j5 rfl (.inl rfl) rfl rfl (JX (qv 8)) (λ_ _ _ _ _=>(Wp [0,1] (We rfl (QD (xI 0 j5) (QD (xI 1 j5) Wd))))) (λ_ _ _ _ _=>(j4 (YO l h rfl (J1 (C9 (JB h) (pv 2) (qv 0) (λ_ _=>rfl) (λ_ _=>rfl)) (J1 (qv 1) J2))))))) (Hw (SW (pv 5) (HD c Kr h rfl (J1 (qv 0) (J1 (qv 7) (J1 (qv 9) (J1 (qv 2) (J1 (qv 3) J2)))))) (λn o=>Kw Yy Yz YA K9 n o))))) (SY (AK (Xt (qv 5)))))))
theorem Lu (a:All e):∀j,yR e "forms_knowing" (7+2*j) ["book", "name", "most", "known"] (Ks e.K (QM j))
 | 0=>xR a.toAl 26 26 λ_=>Tl
 |j+1=>sK (k:=2*j+1) a (Ls (k:=2*j+0) a (Lu a j))
def Lv (a:All e):yR e "forms_knowing" 15 ["book", "name", "most", "known"] (Ks e.K (QM 4)):=Lu a 4
def ms (a:All e):yR e "made_form" 16 ["book", "how", "forms", "most", "known"] (Ks e.K (Qu 4)):=Ls (k:=8) a (Lv a)
def Lw (a:All e):yR e "forms_of" 16 ["book", "name", "most"] (xu e.K KZ):=
 xR a.toAl 27 24 λF=>AE (N:=["book", "name", "most"]) (g:=Bl) F JO λ_ _ _ _ _ _ c=>by
 have b:=(Lv a).mono (k:=15) ();unfold Bl;exact(J7 (JL (u3 b Kr c rfl (Dn (qv 0) (Dn (qv 1) (Dn (qv 2) (Tk (d0:=.dct [] []) OX)))))))
def sr (a:All e):Ca e "_law_forms" 17 ["book", "name"] (qw e.K Uk):=
 qU a.toAl 28 46 λF=>qo (N:=["book", "name", "found"]) (g:=ZF) F JO λ_ _ _ _ _ _ f=>by
 have c:=(Lw a).mono (k:=16) ();have b:=a.x_TooMany;unfold ZF;exact(J8 (JS j5 rfl (.inl rfl) Fx) (J8 (S0 rfl rfl j5 rfl (.inl rfl) c f rfl (J1 (qv 0) (J1 (qv 1) (J1 J3 J2))) b rfl (λ_=>(J7 (JS j5 rfl (.inl rfl) Fx)))) (J7 (JL (qv 2)))))
def si (a:All e):Ca e "_law_number" 1 ["cell"] (qw e.K WR):=
 qU a.toAl 29 35 λF=>qo (N:=["cell", "far"]) (g:=X3) F JO λ_ _ _ _ _ _ b=>by
 unfold X3;exact(J8 (Qa (Qx (qW b.units) (jl Qq (qv 0) J3) J3 (Qm _)) (J8 (JS j5 rfl (.inl rfl) (jl Qq (jl WD (jl QZ (qv 0) J3) (jl JP (jl Wn J3 J3) J3)) (jl Wn J3 J3))) (J7 (JL (JG (JB b) (j4 (Kz (J1 (qv 1) (J1 (xO KO (qv 1)) J2)))) (jl Qq (jl QZ (qv 0) J3) J3) (λ_ _=>rfl) (λ_ _=>rfl))))) Qe) (J7 (JL (jl Ax (jl Qq (jl QZ (qv 0) J3) J3) J3))))
def sf (a:All e):Ca e "_law_hours" 2 ["script", "cell", "at", "many"] (zj e.K ZG):=
 qU a.toAl 30 44 λF=>y7 (N:=["script", "cell", "at", "many", "hours", "k", "own"]) (g:=Bm) F JO λ_ _ _ _ _ _ f=>by
 have m:=a.m;have b:=(Bt a).mono (k:=1) ();have c:=(si a).mono (k:=1) ();unfold Bm;exact(J8 (Kf j5 rfl (.inl rfl) (Kz J2)) (J8 (Qk PassesOwn.never rfl (KD rfl (JA m) (J1 (qv 3) J2)) (JT (JW j5 rfl (.inl rfl))) (J8 (JS j5 rfl (.inl rfl) (jG b f rfl (J1 (qv 0) (J1 (jl JP (jl JP (qv 2) J3) (qv 5)) J2)))) (J7 (KN (pv 4) (jG c f rfl (J1 (jl Qq (jl JP (jl WD (jl JP (qv 1) (qv 6)) J3) (jl WD J3 (qv 5))) (jl JP (jl Wn J3 J3) J3)) J2)) (λh i=>Kw Yy Yz YA K9 h i))))) (J7 (Xf (pv 4)))))
def sF (a:All e):Ca e "_law_corner" 1 ["form", "row", "many"] (zj e.K ZH):=
 qU a.toAl 31 45 λF=>y7 (N:=["form", "row", "many", "far", "one", "pair", "hours"]) (g:=Bn) F JO λ_ _ _ _ _ _ b=>by
 have m:=a.m;unfold Bn;exact(J8 (JS j5 rfl (.inr rfl) J3) (J8 (Qk PassesOwn.never rfl (JX (qv 0)) (JT (JW j5 rfl (.inl rfl))) (J7 (Qk PassesOwn.never rfl (JX (qv 4)) (JT (JW j5 rfl (.inl rfl))) (J7 (JS j5 rfl (.inr rfl) (jl JP (qv 3) (JU (x:= "abs") fj rfl (JA m) P3 (J1 (JG (JB b) (qv 5) J3 (λ_ _=>rfl) (λ_ _=>rfl)) J2)))))))) (J8 (Pp ["k", "far"] [none,some 3] j5 rfl (.inl rfl) rfl rfl (KD rfl (JA m) (J1 (qv 2) J2)) (λ_ _ _ _ _=>(JT (xI 0 j5))) (λ_ _ _ _ _=>(qv 1))) (J8 (Qk PassesOwn.never rfl (JX (qv 1)) (JT (JW j5 rfl (.inl rfl))) (J7 (Gp (pv 6) (JG (JB b) (qv 5) J3 (λ_ _=>rfl) (λ_ _=>rfl)) (xO KO (JG (JB b) (qv 5) J3 (λ_ _=>rfl) (λ_ _=>rfl)))))) (J7 (Xf (pv 6)))))))
def sD (a:All e):Ca e "_law_needed" 15 ["plans", "p", "book", "form"] (qw e.K ZI):=
 qU a.toAl 32 48 λF=>qo (N:=["plans", "p", "book", "form", "row", "hours", "pair", "later"]) (g:=Bo) F JO λ_ _ _ _ _ _ b=>by
 have m:=a.m;have h:=(sF a).mono (k:=14) ();have c:=(DI a).mono (k:=14) ();have f:=(DJ a).mono (k:=14) ();unfold Bo;exact(J8 (Qk PassesOwn.never rfl (JX (qv 3)) (JT (JW j5 rfl (.inl rfl))) (J8 (JS j5 rfl (.inl rfl) (j4 (An h b rfl (J1 (qv 3) (J1 (qv 4) (J1 (JG (JB b) (JG (JB b) (qv 0) (qv 1) (λ_ _=>rfl) (λ_ _=>rfl)) J3 (λ_ _=>rfl) (λ_ _=>rfl)) J2)))))) (J8 (Qa (Ky (QJ (jG c b rfl (J1 (jG f b rfl (J1 (qv 2) (J1 (JG (JB b) (JG (JB b) (qv 0) (qv 1) (λ_ _=>rfl) (λ_ _=>rfl)) J3 (λ_ _=>rfl) (λ_ _=>rfl)) (J1 (j4 (Kl (x:= "list") KC rfl (JA m) Ke (J1 (qv 5) J2))) J2)))) (J1 J3 J2))))) (J7 (JL Qw)) Qe) (J7 (Qk PassesOwn.never rfl (JX (qv 4)) (JT (JW j5 rfl (.inl rfl))) (J8 (Kf j5 rfl (.inl rfl) (Kl (x:= "list") KC rfl (JA m) Ke (J1 (qv 5) J2))) (J8 (Gp (pv 7) (JG (JB b) (qv 6) J3 (λ_ _=>rfl) (λ_ _=>rfl)) (jl JP (C9 (JB b) (pv 7) (JG (JB b) (qv 6) J3 (λ_ _=>rfl) (λ_ _=>rfl)) (λ_ _=>rfl) (λ_ _=>rfl)) J3)) (J7 (Qa (Ky (QJ (jG c b rfl (J1 (XV [7] (jG f b rfl (J1 (qv 2) (J1 (JG (JB b) (JG (JB b) (qv 0) (qv 1) (λ_ _=>rfl) (λ_ _=>rfl)) J3 (λ_ _=>rfl) (λ_ _=>rfl)) (J1 (qv 7) J2))))) (J1 J3 J2))))) (J7 (JL Qw)) Qe))))))))) (J7 (JL Qw)))
def rY (a:All e):Ca e "_law_wait" 1 ["cell"] (qw e.K X4):=
 qU a.toAl 33 37 λF=>qo (N:=["cell", "far"]) (g:=ZJ) F JO λ_ _ _ _ _ _ b=>by
 unfold ZJ;exact(J8 (Qa (Qx (qW b.units) (jl Qq (qv 0) J3) J3 (Qm _)) (J8 (JS j5 rfl (.inl rfl) (jl Qq (jl WD (jl QZ (qv 0) J3) (jl JP (jl Wn J3 J3) J3)) (jl Wn J3 J3))) (J7 (JL (JG (JB b) (j4 (Kz (J1 (qv 1) (J1 (xO KO (qv 1)) (J1 (jl Ax (jl Wn J3 J3) J3) (J1 (jl Ax J3 (jl Wn J3 J3)) J2)))))) (jl Qq (jl QZ (qv 0) J3) J3) (λ_ _=>rfl) (λ_ _=>rfl))))) Qe) (J7 (JL (jl Ax (jl Qq (jl QZ (qv 0) J3) J3) J3))))
def sm (a:All e):Ca e "_law_made" 3 ["script", "at", "k", "things", "plans"] (qw e.K X5):=
 qU a.toAl 34 38 λF=>qo (N:=["script", "at", "k", "things", "plans", "cell", "how", "size", "part", "items", "j", "own"]) (g:=WS) F JO λ_ _ _ _ _ _ c=>by
 have m:=a.m;have b:=(Bt a).mono (k:=2) ();have f:=(DK a).mono (k:=2) ();have h:=(rY a).mono (k:=2) ();unfold WS
 exact(J8 (JS j5 rfl (.inl rfl) (jG b c rfl (J1 (qv 0) (J1 (qv 1) J2)))) (J8 (JS j5 rfl (.inl rfl) (JG (JB c) (j4 (Kz (J1 V1 (J1 V1 J2)))) (jl Qq (qv 5) J3) (λ_ _=>rfl) (λ_ _=>rfl))) (J8 (JS j5 rfl (.inl rfl) (jl JP J3 (jl Qq (jl QZ (qv 5) J3) J3))) (J8 (Qa (yW (O4 (Qx vi (JU (x:= "len") QQ rfl (JA m) QP (J1 (qv 4) J2)) J3 (Qm _)) (O3 (Qx (qW c.units) (jl Qq (jl QZ (qv 5) J3) J3) J3 (Qm _))))) (J8 (JS j5 rfl (.inl rfl) (JG (JB c) (qv 4) (jl Qq (jl QZ (qv 5) J3) (JU (x:= "len") QQ rfl (JA m) QP (J1 (qv 4) J2))) (λ_ _=>rfl) (λ_ _=>rfl))) (J8 (JS j5 rfl (.inl rfl) (JG (JB c) (qv 8) J3 (λ_ _=>rfl) (λ_ _=>rfl))) (J7 (JS j5 rfl (.inl rfl) (JG (JB c) (qv 8) J3 (λ_ _=>rfl) (λ_ _=>rfl)))))) Qe) (J8 (Kf j5 rfl (.inl rfl) (Kz J2)) (J8 (Qk PassesOwn.never rfl (KD rfl (JA m) (J1 (qv 7) J2)) (JT (JW j5 rfl (.inl rfl))) (J8 (JS j5 rfl (.inl rfl) (jG b c rfl (J1 (qv 0) (J1 (jl JP (jl JP (qv 1) J3) (qv 10)) J2)))) (J7 (KN (pv 9) (Xd (J1 (jl Qq (qv 11) (qv 3)) (J1 (jG h c rfl (J1 (jl QZ (qv 11) (qv 3)) J2)) J2))) (λi l=>Kw Yy Yz YA K9 i l))))) (J7 (WC [9] (JL (Xd (J1 (jG f c rfl (J1 (qv 0) (J1 (jl JP J3 (qv 2)) J2))) (J1 (qv 6) (J1 (Xe (x:= "tuple") Cz rfl (JA m) XJ (J1 (qv 9) J2)) J2)))))))))))))
def sg (a:All e):Ca e "_law_plans" 4 ["script"] (zj e.K Bq):=
 qU a.toAl 35 39 λF=>y7 (N:=["script", "plans", "p", "at", "many", "rows", "k"]) (g:=Bp) F JO λ_ _ _ _ _ _ h=>by
 have m:=a.m;have b:=(Bt a).mono (k:=3) ();have c:=(sm a).mono (k:=3) ();have f:=(DK a).mono (k:=3) ();unfold Bp;exact(J8 (Kf j5 rfl (.inl rfl) (Kz J2)) (J8 (Qk PassesOwn.never rfl (KD rfl (JA m) (J1 (jl JP J3 (jl Qq (jG b h rfl (J1 (qv 0) (J1 J3 J2))) J3)) J2)) (JT (JW j5 rfl (.inl rfl))) (J8 (JS j5 rfl (.inl rfl) (jl JP J3 (jl WD J3 (qv 2)))) (J8 (JS j5 rfl (.inl rfl) (jl JP J3 (jl Qq (jG b h rfl (J1 (qv 0) (J1 (jl JP J3 (qv 2)) J2))) J3))) (J8 (Kf j5 rfl (.inl rfl) (Kz J2)) (J8 (Qk PassesOwn.never rfl (KD rfl (JA m) (J1 (jl JP J3 (jl Qq (jl QZ (jG b h rfl (J1 (qv 0) (J1 (jl JP J3 (qv 2)) J2))) J3) J3)) J2)) (JT (JW j5 rfl (.inl rfl))) (J7 (KN (pv 5) (Tn [1] (jG c h rfl (J1 (qv 0) (J1 (jl JP (qv 3) (jl WD J3 (qv 6))) (J1 (qv 6) (J1 (jl JP (qv 4) (qv 6)) (J1 (qv 1) J2))))))) (λi l=>Kw Yy Yz YA K9 i l)))) (J7 (WC [5] (KN (pv 1) (Xd (J1 (jG f h rfl (J1 (qv 0) (J1 (qv 2) J2))) (J1 (qv 4) (J1 (qv 5) J2)))) (λi l=>Kw Yy Yz YA K9 i l))))))))) (J7 (Xf (pv 1)))))
def sJ (a:All e):yR e "told_form" 17 ["book", "name", "most"] (xu e.K X6):=
 xR a.toAl 36 25 λF=>AE (N:=["book", "name", "most"]) (g:=Br) F JO λ_ _ _ _ _ _ c=>by
 have b:=(Lw a).mono (k:=16) ();unfold Br;exact(J7 (JL (JG (JB c) (YN b Kr c rfl (J1 (qv 0) (J1 (qv 1) (J1 (qv 2) J2)))) (xO KO J3) (λ_ _=>rfl) (λ_ _=>rfl))))
def sE (a:All e){f:Addr}{fd:FuncData}(F:Fun e.K "law" "law" (wg 49) f fd):FnOk e.P e.w e.K e.mg e.base yr 18 f fd ["script"] (qw e.K wY):=
 qo (N:=["script", "plans", "book", "forms", "p", "turn", "cell", "hours"]) (g:=X7) F JO λ_ _ _ _ _ _ b=>by
 have m:=a.m;have c:=(sC a).mono (k:=17) ();have h:=(rW a).mono (k:=17) ();have i:=(sr a).mono (k:=17) ();have l:=(sf a).mono (k:=17) ();have n:=(sD a).mono (k:=17) ();have o:=(sg a).mono (k:=17) ();have p:=(DI a).mono (k:=17) ();have q:=(sJ a).mono (k:=17) ();unfold X7
 exact(J8 (JS j5 rfl (.inl rfl) (j4 (An o b rfl (J1 (qv 0) J2)))) (J8 (JS j5 rfl (.inr rfl) (j4 (An h b rfl (J1 (qv 0) (J1 (qv 1) J2))))) (J8 (Gd ["plan", "book"] [none,some 2] j5 rfl (.inl rfl) rfl rfl (JX (qv 1)) (λ_ _ _ _ _=>(JT (xI 0 j5))) (λ_ _ _ _ _=>(jG i b rfl (J1 (qv 1) (J1 (JG (JB b) (qv 0) J3 (λ_ _=>rfl) (λ_ _=>rfl)) J2))))) (J8 (Qk PassesOwn.never rfl (KD rfl (JA m) (J1 (JU (x:= "len") QQ rfl (JA m) QP (J1 (qv 1) J2)) J2)) (JT (JW j5 rfl (.inl rfl))) (J7 (Qa (Pm (JG (JB b) (qv 3) (qv 4) (λ_ _=>rfl) (λ_ _=>rfl))) (J8 (Qa (Ky (QJ (jG n b rfl (J1 (qv 1) (J1 (qv 4) (J1 (qv 2) (J1 (JG (JB b) (JG (JB b) (qv 3) (qv 4) (λ_ _=>rfl) (λ_ _=>rfl)) (xO KO J3) (λ_ _=>rfl) (λ_ _=>rfl)) J2))))))) (J7 (JL Qw)) Qe) (J7 (Qa (Ky (QJ (jG p b rfl (J1 (YN q Sj b rfl (J1 (qv 2) (J1 (JG (JB b) (JG (JB b) (qv 1) (qv 4) (λ_ _=>rfl) (λ_ _=>rfl)) J3 (λ_ _=>rfl) (λ_ _=>rfl)) (J1 J3 J2)))) (J1 (JG (JB b) (JG (JB b) (qv 3) (qv 4) (λ_ _=>rfl) (λ_ _=>rfl)) (xO KO J3) (λ_ _=>rfl) (λ_ _=>rfl)) J2))))) (J7 (JL Qw)) Qe))) Qe))) (J8 (JS j5 rfl (.inl rfl) J3) (J8 (Qk PassesOwn.never rfl (JX (jl JP (j4 (Kz (J1 J3 J2))) (j4 (Kl (x:= "list") KC rfl (JA m) Ke (J1 (qv 0) J2))))) (JT (JW j5 rfl (.inl rfl))) (J8 (JS j5 rfl (.inl rfl) (jl Qq (qv 5) (JU (x:= "len") QQ rfl (JA m) QP (J1 (qv 1) J2)))) (J8 (JS j5 rfl (.inl rfl) (j4 (An l b rfl (J1 (qv 0) (J1 (qv 6) (J1 (qv 5) (J1 (JG (JB b) (JG (JB b) (qv 1) (qv 4) (λ_ _=>rfl) (λ_ _=>rfl)) J3 (λ_ _=>rfl) (λ_ _=>rfl)) J2))))))) (J8 (Qa (Ky (QJ (jG c b rfl (J1 (qv 1) (J1 (qv 4) (J1 (qv 2) (J1 (JG (JB b) (qv 3) (qv 4) (λ_ _=>rfl) (λ_ _=>rfl)) (J1 (qv 7) J2)))))))) (J7 (JL Qw)) Qe) (J7 (JS j5 rfl (.inl rfl) (jl JP (qv 5) J3))))))) (J7 (JL Qw))))))))
end
def Bu (K:W.Frag):Sp:=λb H Q _=>∃(a:Addr) (ns:Yh),b=[.ref a]/\xb K H a (ns.map V.int)/\ns.length<=63/\∀c,Q (.bl true) c
def sO (K:W.Frag)(b:YF)(H:Hp)(Q:VK)(E:XK)(h:Bu K b H Q E):qw K wY b H Q E:=by
 obtain⟨a,ns,rfl,c,f,q⟩:=h;refine⟨H,[.scr ns],jm.refl _,jd.mk (qj.mpr ⟨a,rfl,c⟩) .nil,?_⟩;rw[zE ns f];intro v j g e i;rw[jp.mp i];exact q g
def all_mk {l:W.OpenLaw}{w:World}{K:W.Frag}{h:Heap}{mg:Ye}{N:Addr}(X:K.In h)(G:h.Ns mainGlobals mg)(L:mg "law" = some (.ref N))
 {a:Addr}
 (d:v4 K wg tbl) (z:Nn K bl) (dl:wM K "law" (wg 49))
 (b:W.nsIn K mainGlobals "TooMany" = some (some (.ref a))) (i:W.excIn K a [.type "ValueError",.type "Exception",.type "BaseException",.type "object"] "ValueError.__new__" = true)
 (x:Hs K "Book" "Book.__init__" ["plans"] (ZR (wg 21) 0))
 (y:Hs K "Plan" "Plan.__init__" ["name", "givens", "rows"] (ZR (wg 20) 0)):
 ∃fd:FuncData,(∀(s:Shared) (v:Value),BindsTo s fd ⟨[v],[]⟩ [("script",v)])/\∀c:Heap,K.In c->c.Ns mainGlobals mg->FnOk l.prog w K mg c yr 18 N fd ["script"] (Bu K):=by
 obtain⟨M,A,E,wY⟩:=dl;cases L.symm.trans (W.mg_of X G E);obtain⟨B,I,F,f,j,m,o,p⟩:=x;obtain⟨C,J,H,g,q,r,t,u⟩:=y;exact⟨A,(by obtain⟨_,_,_,_,_,_,_,_,_,rfl,_,_⟩:=id wY.ex;exact λs v=>.of_eq rfl),λc _ _=>(sE (e:=⟨l.prog,w,K,mg,c,λn=>[a,B,C].getD n 0,λn=>[].getD n default⟩) ⟨⟨⟨h,X,G⟩,d,HG X G z⟩,⟨b,W.mg_of X G b,i⟩,⟨f,W.mg_of X G f,j,m⟩,⟨_,_,o,p⟩,⟨g,W.mg_of X G g,q,r⟩,⟨_,_,t,u⟩⟩ wY).imp (sO K)⟩
def walk {l:W.OpenLaw}{q:Program}{c:Yk}{j:(Ye)->Heap->Prop}{g:World->Heap->Prop}{d:DefRec}{K:Params->W.Frag}(m:l.most=some 63)(e:d.params.defaults=[])
 (o:∀(w:World) (h:Heap),g w h->(K w.params).In h)
 (F:∀(w:World) (mg:Ye) (i:Addr) (h:Heap),(K w.params).In h->h.Ns mainGlobals mg->mg d.name=some (.ref i) ->
  ∃fd:FuncData,(∀(s:Shared) (u:Value),BindsTo s fd ⟨[u],[]⟩ [("script",u)])/\∀b:Heap,(K w.params).In b->b.Ns mainGlobals mg->FnOk l.prog w (K w.params) mg b yr 18 i fd ["script"] (Bu (K w.params))):
 W.WalkO q c j g l.row.toRowW d [] (λf p=>PySem.call f p):=
 L2.walk_of (n:=63) (k:=18) (x:= "script") (CX:=λ_=>yr) (sp:=λw=>Bu (K w.params)) m (by decide) e ⟨rfl,by decide,by decide⟩ o F (λ_ _ a ns r _ t=>⟨a,ns,rfl,t,r,λ_=>rfl⟩) λ_ _ _ _ _ z=>z
end My
end
open PySem PySem.W PyProof.Rows
def PySem.W.Fast.tw1154964041673857324:=()
def PySem.W.Fast.tw14331291111871317464:=()
def PySem.W.Fast.tw7525565642541958319:=()
def PySem.W.Fast.tw12518054323765614205:=()
def PySem.W.Fast.tw570508489255798236:=()
def PySem.W.Fast.tw3942888638419404798:=()
def PySem.W.Fast.tw16692959463072917388:=()
def PySem.W.Fast.tw12863357707333299313:=()
def PySem.W.Fast.tw6157021483971150966:=()
def PySem.W.Fast.tw8779164931676075723:=()
def PySem.W.Fast.tw17407813281523898751:=()
def PySem.W.Fast.tw10669097945133602265:=()
def PySem.W.Fast.tw3126013974382054631:=()
def PySem.W.Fast.tw7941541055421602447:=()
def PySem.W.Fast.tw3539744106033993787:=()
def PySem.W.Fast.tw8919966635082338691:=()
def PySem.W.Fast.tw12347373391635747866:=()
def PySem.W.Fast.tw8524554649607186813:=()
def PySem.W.Fast.tw7373811518676707184:=()
def PySem.W.Fast.tw8818375424205503414:=()
def PySem.W.Fast.tw187311418507616365:=()
def PySem.W.Fast.tw7462202672996365697:=()
def PySem.W.Fast.tw6473782965294179683:=()
def PySem.W.Fast.tw12728118558967063905:=()
def PySem.W.Fast.tw3495206549042045732:=()
def PySem.W.Fast.tw16163354211316386789:=()
def PySem.W.Fast.tw10840585716593750476:=()
def PySem.W.Fast.tw8573700654620737492:=()
def PySem.W.Fast.tw13197537370412154523:=()
def PySem.W.Fast.tw2713935766564537960:=()
def PySem.W.Fast.tw329443562713130359:=()
def PySem.W.Fast.tw11751098163777182889:=()
def PySem.W.Fast.tw14214815029642604165:=()
def PySem.W.Fast.tw1618124036001299582:=()
def PySem.W.Fast.tw4037777516456176392:=()
def PySem.W.Fast.tw5182032633323887292:=()
def PySem.W.Fast.tw439766862514504991:=()
def PySem.W.Fast.tw6295027346190627862:=()
def PySem.W.Fast.tw15598916527040977554:=()
def PySem.W.Fast.tw14858656058811530312:=()
def PySem.W.Fast.tw9421873406642435587:=()
def PySem.W.Fast.tw13817956424879793365:=()
def PySem.W.Fast.tw16992092166073025310:=()
def PySem.W.Fast.tw18228231829574764237:=()
def PySem.W.Fast.tw14093376669227603695:=()
def PySem.W.Fast.tw16985309308453907268:=()
def PySem.W.Fast.tw6913643394849657494:=()
def PySem.W.Fast.tw6336208800728815246:=()
def PySem.W.Fast.tw6389010712058501774:=()
def PySem.W.Fast.tw12124921401663068180:=()
def PySem.W.Fast.tw13222267981037546587:=()
def PySem.W.Fast.tw5138646597457580325:=()
def PySem.W.Fast.tw917912046602033192:=()
def PySem.W.Fast.tw6541170879338976539:=()
def PySem.W.Fast.tw1568524045151146574:=()
def PySem.W.Fast.tw3593526098818458713:=()
def PySem.W.Fast.tw7281765722508348977:=()
def PySem.W.Fast.tw4511498235121082699:=()
def PySem.W.Fast.tw14485730673560950401:=()
def PySem.W.Fast.tw12845029345829907733:=()
def PySem.W.Fast.tw12131702075247888143:=()
def PySem.W.Fast.tw11541155572508446599:=()
def PySem.W.Fast.tw6991921769342302339:=()
def PySem.W.Fast.tw17772842761022974490:=()
def PySem.W.Fast.tw8136877371052738073:=()
def PySem.W.Fast.tw8416911628706884097:=()
def PySem.W.Fast.tw16271085142048606438:=()
def PySem.W.Fast.tw12427791870740569311:=()
def PySem.W.Fast.tw4352718095321118783:=()
def PySem.W.Fast.tw550763871618314715:=()
def PySem.W.Fast.tw4455838916965825864:=()
def PySem.W.Fast.tw9671854326919947252:=()
def PySem.W.Fast.tw1061760796960984299:=()
def PySem.W.Fast.tw6317020083957060032:=()
def PySem.W.Fast.tw3398495762629511830:=()
def PySem.W.Fast.tw7250115846343350304:=()
def PySem.W.Fast.tw492905985450518107:=()
def PySem.W.Fast.tw5225544038381469316:=()
def PySem.W.Fast.tw5278517595742066268:=()
def PySem.W.Fast.tw10049785671618985735:=()
def PySem.W.Fast.tw2661154176690870117:=()
def PySem.W.Fast.tw4887701397109641260:=()
def PySem.W.Fast.tw10647326752598817053:=()
def PySem.W.Fast.tw438880383285078263:=()
def PySem.W.Fast.tw9687713429178029447:=()
def PySem.W.Fast.tw6421870502801655722:=()
def PySem.W.Fast.tw4906480350286825576:=()
def PySem.W.Fast.tw16699348852647488353:=()
def PySem.W.Fast.tw13312278214633441943:=()
def PySem.W.Fast.tw5755581891558982773:=()
def PySem.W.Fast.tw10419010678853245136:=()
def PySem.W.Fast.tw14259432370178314730:=()
def PySem.W.Fast.tw7245827759369994356:=()
def PySem.W.Fast.tw16152641950175114607:=()
def PySem.W.Fast.tw7059593433314238806:=()
def PySem.W.Fast.tw18063715583966796173:=()
def PySem.W.Fast.tw15521275112521515629:=()
def PySem.W.Fast.tw15327822778621179724:=()
def PySem.W.Fast.tw7245909917434309143:=()
def PySem.W.Fast.tw2120921441451218058:=()
def PySem.W.Fast.tw9285970099797484735:=()
def PySem.W.Fast.tw13570660120760117207:=()
def PySem.W.Fast.tw14926908609091606036:=()
def PySem.W.Fast.tw1636686359928695352:=()
def PySem.W.Fast.tw770916326556913219:=()
def PySem.W.Fast.tw11921130065974955470:=()
def PySem.W.Fast.tw4999409769507372527:=()
def PySem.W.Fast.tw7092569513427995246:=()
def PySem.W.Fast.tw2666042721136508495:=()
def PySem.W.Fast.tw7391655115712975621:=()
def PySem.W.Fast.tw7872173925883792670:=()
def PySem.W.Fast.tw13677489700768338348:=()
def PySem.W.Fast.tw14704686267658087280:=()
def PySem.W.Fast.tw9197503942103113249:=()
def PySem.W.Fast.tw6635793859757276904:=()
def PySem.W.Fast.tw15326478371358477148:=()
def PySem.W.Fast.tw9085039332608123739:=()
def PySem.W.Fast.tw3871050700502763524:=()
def PySem.W.Fast.tw4756941699671449260:=()
def PySem.W.Fast.tw13089028548369676053:=()
def PySem.W.Fast.tw13120423007924111753:=()
def PySem.W.Fast.tw16371922240687751025:=()
def PySem.W.Fast.tw13222189519013365444:=()
def PySem.W.Fast.tw394130443755496989:=()
def PySem.W.Fast.tw7247804783862748843:=()
def PySem.W.Fast.tw5466092063617112914:=()
def PySem.W.Fast.tw4242905752393422529:=()
def PySem.W.Fast.tw5884112035442302731:=()
def PySem.W.Fast.tw1181036376546032883:=()
def PySem.W.Fast.tw8135420135278270996:=()
def PySem.W.Fast.tw16851241115682851606:=()
def PySem.W.Fast.tw12708617938389940539:=()
def PySem.W.Fast.tw12982680622267649450:=()
def PySem.W.Fast.tw9266539426687488581:=()
def PySem.W.Fast.tw3841879294358670528:=()
def PySem.W.Fast.tw17200470119968615854:=()
def PySem.W.Fast.tw15352849315456061395:=()
def PySem.W.Fast.tw7856909514783013159:=()
def PySem.W.Fast.tw5998167781603008254:=()
def PySem.W.Fast.tw12833827885938614416:=()
def PySem.W.Fast.tw3005764237066915508:=()
def PySem.W.Fast.tw16921658600640665876:=()
def PySem.W.Fast.tw1782948558224161180:=()
def PySem.W.Fast.tw8888368812603263945:=()
def PySem.W.Fast.tw15441672021141775387:=()
def PySem.W.Fast.tw82615137529495652:=()
def PySem.W.Fast.tw77141657652914968:=()
def PySem.W.Fast.tw14104429756997756564:=()
def PySem.W.Fast.tw11458561992294011009:=()
def PySem.W.Fast.tw1682512942898614928:=()
def PySem.W.Fast.tw8899842666245137921:=()
def PySem.W.Fast.tw14315419558900367368:=()
def PySem.W.Fast.tw15824627682605786591:=()
def PySem.W.Fast.tw16190907021029454898:=()
def PySem.W.Fast.tw8294164283087249832:=()
def PySem.W.Fast.tw12815832634099184760:=()
def PySem.W.Fast.tw4085159005037050599:=()
def PySem.W.Fast.tw11116610091735007984:=()
def PySem.W.Fast.tw13632443948260011341:=()
def PySem.W.Fast.tw427177488955909485:=()
def PySem.W.Fast.tw14204337054334398686:=()
def PySem.W.Fast.tw8512875529067991135:=()
def PySem.W.Fast.tw12453254729739887174:=()
def PySem.W.Fast.tw9592771792162900278:=()
def PySem.W.Fast.tw2274563605652308741:=()
def PySem.W.Fast.tw14769829461168750413:=()
def PySem.W.Fast.tw5580487145909461732:=()
def PySem.W.Fast.tw10129823018092860246:=()
def PySem.W.Fast.tw8996248652116423802:=()
def PySem.W.Fast.tw1942479411866597480:=()
def PySem.W.Fast.tw654857269247618325:=()
def PySem.W.Fast.tw15069655775083409286:=()
def PySem.W.Fast.tw10075812344474361983:=()
def PySem.W.Fast.tw5578429121137631129:=()
def PySem.W.Fast.tw10065781927489746047:=()
def PySem.W.Fast.tw1429220904450122752:=()
def PySem.W.Fast.tw5161642250162722447:=()
def PySem.W.Fast.tw11333253359295861735:=()
def PySem.W.Fast.tw11383119225817925005:=()
def PySem.W.Fast.tw11411190173100136533:=()
def PySem.W.Fast.tw6992139357855640630:=()
def PySem.W.Fast.tw14322423731155497537:=()
def PySem.W.Fast.tw15347498159164569127:=()
def PySem.W.Fast.tw17382101426589923773:=()
set_option maxRecDepth 100000 in
set_option maxHeartbeats 0 in
theorem PySem.Challenge.cw_allfirst_k64_whole_plan_and_form_holds : PySem.Challenge.rw_allfirst_k64_whole_plan_and_form.Holds := by
 w_on;o_law;k_head;(case hw=>w_witness2)
 k_fill
 refine My.walk (l:=PySem.Challenge.rw_allfirst_k64_whole_plan_and_form) rfl rfl (fun w h Y=>PySem.W.kIn_of Y) ?F
 case F =>
  intro w mg fa h KX G hmg;refine' My.all_mk KX G hmg ?d ?z ?dl ?a_TooMany ?q_TooMany ?l_Book ?l_Plan
  (case d =>
   repeat (apply L2.DL.dfs_cons;focus (refine' ⟨_,_,?a,L2.fun_mk ?l ?c ?k⟩;(case a=>k_is);(case l=>k_is);(case c=>k_is);(case k=>k_is)))
   exact True.intro)
  (case z =>
   repeat (apply L2.DL.nn_cons;focus k_is)
   exact True.intro)
  (case dl=>refine' ⟨_,_,?a,L2.fun_mk ?l ?c ?k⟩;(case a=>k_is);(case l=>k_is);(case c=>k_is);(case k=>k_is))
  (case a_TooMany=>k_is)
  (case q_TooMany=>k_exc)
  (case l_Book=>refine' ⟨_,_,_,?ua,⟨?up,?uh,?uo,?us⟩,List.forall_mem_cons.mpr ⟨?uf0,List.forall_mem_nil _⟩,⟨?um,?ui,?un,?ue⟩,L2.fun_mk ?ul ?uc ?uk⟩;(case ua=>k_is);(case ui=>k_is);(case ul=>k_is);(case uc=>k_is);(case uk=>k_is);(case up=>k_is);(case uh=>k_is);(case uo=>k_is);(case us=>k_is);(case um=>k_is);(case un=>k_is);(case ue=>k_is);(case uf0=>show PySem.W.findIn _ _ _=_;k_is))
  (case l_Plan=>refine' ⟨_,_,_,?ua,⟨?up,?uh,?uo,?us⟩,List.forall_mem_cons.mpr ⟨?uf0,List.forall_mem_cons.mpr ⟨?uf1,List.forall_mem_cons.mpr ⟨?uf2,List.forall_mem_nil _⟩⟩⟩,⟨?um,?ui,?un,?ue⟩,L2.fun_mk ?ul ?uc ?uk⟩;(case ua=>k_is);(case ui=>k_is);(case ul=>k_is);(case uc=>k_is);(case uk=>k_is);(case up=>k_is);(case uh=>k_is);(case uo=>k_is);(case us=>k_is);(case um=>k_is);(case un=>k_is);(case ue=>k_is);(case uf0=>show PySem.W.findIn _ _ _=_;k_is);(case uf1=>show PySem.W.findIn _ _ _=_;k_is);(case uf2=>show PySem.W.findIn _ _ _=_;k_is))
