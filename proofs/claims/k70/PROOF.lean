import PyProof.Rows.All
import Wide.All
import OpenK.AllK
import Wide.FinOn
import Lean
import PyProof.EqAt
import PyProof.EqKinds
import PyProof.TupleCall
import PyProof.P3Eq
import PyProof.NeData
import PySem.Challenge.RW_allfirst_k70_whole_windows_by_runs
set_option autoImplicit true
set_option relaxedAutoImplicit true
set_option Elab.async false
set_option linter.all false
set_option maxRecDepth 100000
open PySem PySem.Spec PyProof.Rows
theorem Zqi.{u} {α:Type u}{a b:α}(h:some a=some b):a=b:=Option.some.inj h
theorem Zqg.{u} {α:Type u}{l:List α}{i:Nat}(h:i<l.length):l[i]? = some l[i]:=List.getElem?_eq_getElem h
theorem Zqs.{u} {α:Type u}{a:α}{l:List α}:a∈a::l:=List.mem_cons_self
theorem Zqm.{u} {α:Type u}(y:α){a:α}{l:List α}(h:a∈l):a∈y::l:=List.mem_cons_of_mem y h
theorem Zql.{u,v} {α:Type u}{β:Type v}{l:List α}(f:α->β):(l.map f).length=l.length:=List.length_map f
abbrev Za:=@wpAny_bind
abbrev Zb:=@wpAny_pure
abbrev Zc:=@wpAny_mono
abbrev Zd:=@if_pos
abbrev Ze:=@if_neg
abbrev Zf:=@Nat.le_refl
abbrev Zg:=@Nat.lt_of_lt_of_le
abbrev Zh:=@Nat.le_trans
abbrev Zi:=@Nat.ne_of_lt
abbrev Zj:=@Bool.false_ne_true
abbrev Zk:=@Heap.lt_size
abbrev Zl:=@List.map_cons
abbrev Zm:=@List.size_toArray
abbrev Zn:=@absurd
abbrev Zo:=@decide_eq_false
abbrev Zp:=@decide_eq_true
abbrev Zq:=@Heap.get?_push_of_some
abbrev Zr:=@Heap.get?_push_size
abbrev Zs:=@iff_of_false
abbrev Zt:=@congrArg
abbrev Zu:=@List.length_cons
abbrev Zv:=@List.getElem?_map
abbrev Zw:=@List.map_map
abbrev Zx:=@List.getElem?_set_ne
abbrev Zy:=@Nat.lt_irrefl
abbrev Zz:=@Nat.le_of_lt
abbrev ZB:=@List.append_nil
abbrev ZC:=@List.length_range
abbrev ZD:=@List.length_nil
set_option maxHeartbeats 4000000
abbrev Ya:=PySem.Value->PySem.Shared->Prop
abbrev Yb:=List (PySem.Addr×PySem.Obj)
abbrev Yc:=List (Nat×Nat×Nat)
abbrev Yd:=Nat->Nat->Bool
abbrev Ye:=PySem.Str->Option PySem.Value
abbrev Yf:=List PySem.Value
abbrev Yg:=Option PySem.Value
abbrev Yh:=List Int
abbrev Yi:=Array Nat
abbrev Yj:=List Nat
abbrev Yk:=List PySem.Str
abbrev Yl:=List PySem.Addr
abbrev Ym:=List PySem.Expr
abbrev Yn:=Array PySem.Value
abbrev Yo:=@PyProof.Rows.wpS_bind
abbrev Yp:=@PyProof.Rows.wpS_pure
abbrev Yq:=@PyProof.Rows.wpS_mono
abbrev Yr:=@PyProof.Rows.wpS_forRange
abbrev Ys:=@beq_iff_eq
abbrev Yt:=@Unit.unit
abbrev Yu:=@Bool.eq_false_iff
abbrev Yv:=@Nat.lt_of_not_le
abbrev Yw:=@Nat.one_pos
abbrev Yx:=@Nat.le_of_eq
abbrev Yy:=@PySem.F.plainAttrs_list
abbrev Yz:=@PySem.F.slot_list_append
abbrev YA:=@PySem.F.type_list_append
abbrev YB:=PyProof.Rows.SortSt->Prop
abbrev YC:=PySem.Shared->Prop
abbrev YD:=PySem.SetTable
noncomputable section
local macro_rules | `(tactic| trivial) => `(tactic| first|exact .inl rfl|exact .inr rfl|assumption)
local macro_rules | `(()) => `(by first|lia|omega|(simp;done)|grind|simp_all)
local macro_rules | `(~~~$x) => `(some (.val $x))
abbrev Ua:=@Nat.zero_le
abbrev Ub:=@List.length_append
abbrev Uc:=@List.map_append
abbrev Ud:=@Bool.and_eq_true
abbrev Ue:=@Sum.inl
abbrev Uf:=@Nat.lt_trans
abbrev Ug:=@List.mem_of_getElem?
abbrev Uh:=@List.append_assoc
abbrev Ui:=@Array.length_toList
abbrev Uj:=@List.length_singleton
abbrev Ul:=@Nat.le_add_right
abbrev Uo:=@Array.size_map
abbrev Uq:=@Nat.le_of_lt_succ
abbrev Ur:=@List.getD_eq_getElem?_getD
abbrev Us:=@List.mem_cons
abbrev Ut:=@List.mem_append_right
abbrev Uu:=@List.drop_eq_getElem_cons
abbrev Uv:=@List.length_take
abbrev Uw:=@List.getElem_mem
abbrev Uy:=@List.not_mem_nil
abbrev Uz:=@Nat.le_of_succ_le
abbrev UA:=@Array.getElem?_eq_getElem
abbrev UB:=@List.getElem_of_mem
abbrev UC:=@Nat.mod_lt
abbrev UD:=@Nat.lt_of_le_of_ne
abbrev UE:=@Nat.lt_succ_of_lt
abbrev UF:=@Bool.false_eq_true
abbrev UG:=@List.length_set
abbrev UH:=@Nat.blt
abbrev UI:=@Nat.lt_succ_self
abbrev UJ:=@Nat.lt_of_le_of_lt
abbrev UK:=@List.take_append_drop
abbrev UL:=@Nat.succ.inj
abbrev UM:=@Int.le_refl
abbrev UN:=@Sum.inr
abbrev UO:=@List.getElem?_set_self
abbrev UP:=@Array.getElem?_map
abbrev UQ:=@Nat.not_lt_zero
abbrev UR:=@List.getElem?_append_left
abbrev US:=@List.getElem?_append_right
abbrev UT:=@List.map_congr_left
abbrev UU:=@Nat.blt_eq
abbrev UV:=@Nat.mod_eq_of_lt
abbrev UW:=@List.pairwise_map
abbrev UX:=@List.filterMap_cons
abbrev UY:=@List.take_of_length_le
abbrev UZ:=@Nat.lt_of_succ_lt
abbrev U0:=@List.any_eq_true
abbrev U4:=@List.all_cons
abbrev U5:=@List.length_filter_le
abbrev U6:=@Nat.ne_of_gt
abbrev U7:=@Nat.sub_le
abbrev U8:=@Nat.exists_eq_add_of_le
abbrev U9:=@List.drop_length
abbrev Va:=@Nat.succ_pos
abbrev Vb:=@Nat.lt_trichotomy
abbrev Vc:=@Nat.lt_or_ge
abbrev Vd:=@Int.emod_lt_of_pos
abbrev Ve:=@Nat.mul_le_mul
abbrev Vf:=@Bool.eq_iff_iff
abbrev Vg:=@List.drop_eq_nil_of_le
abbrev Vh:=@List.foldl_cons
abbrev Vi:=@Nat.min_eq_left
abbrev Vj:=@Array.ext'
abbrev Vk:=@Nat.le_succ_of_le
abbrev Vl:=@Array.getElem?_toList
abbrev Vm:=@Nat.eq_zero_or_pos
abbrev Vn:=@List.all_eq_true
abbrev Vo:=@Array.forIn_toList
abbrev Vp:=@List.foldl_append
abbrev Vq:=@Int.emod_nonneg
abbrev Vr:=@List.any_eq_false
abbrev Vs:=@List.of_mem_zip
abbrev Vt:=@List.zip_cons_cons
abbrev Vu:=@Bool.or_eq_true
abbrev Vv:=@List.take_succ
abbrev Vw:=@Nat.add_sub_of_le
abbrev Vx:=@List.Perm.trans
abbrev Vy:=@Nat.succ_le_succ
abbrev Vz:=@List.Perm.refl
abbrev VA:=@Nat.lt_of_add_lt_add_left
abbrev VB:=@List.nodup_nil
abbrev VC:=@List.getElem?_eq_none
abbrev VD:=@Int.le_trans
abbrev VE:=@Int.ediv_nonneg
abbrev VF:=@Int.ediv_le_self
abbrev VG:=@Array.swapIfInBounds_def
abbrev VH:=@List.pairwise_append
abbrev VI:=@Array.size_extract
abbrev VJ:=@Nat.add_sub_cancel_left
abbrev VL:=@List.getElem_map
abbrev VM:=@Array.mem_toList_iff
abbrev VN:=@Array.getElem_mem
abbrev VO:=@List.take_length
abbrev VP:=@List.getElem?_replicate
abbrev VQ:=@List.getElem?_take_of_lt
abbrev VR:=@List.getElem?_zip_eq_some
abbrev VS:=@List.extract_eq_drop_take
abbrev VT:=@Nat.le_of_add_le_add_left
abbrev VU:=@Array.getElem?_eq_none
abbrev VV:=@List.pairwise_singleton
abbrev VW:=@Array.getD_eq_getD_getElem?
abbrev VX:=@Classical.byContradiction
abbrev VY:=@List.Nodup.length_le_of_subset
abbrev Ja:=@List.mem_map
abbrev Jb:=@List.mem_append
abbrev Jc:=@List.getElem?_eq_some_iff
abbrev Jd:=@List.mem_singleton
abbrev Je:=@List.map_eq_nil_iff
abbrev Jf:=@List.mem_filter
abbrev Jg:=@List.mem_range
abbrev Jh:=@Option.bind_eq_some_iff
abbrev Ji:=@List.pairwise_cons
abbrev Jj:=@List.pairwise_iff_getElem
abbrev Jk:=@Option.map_eq_some_iff
abbrev Jl:=@List.nodup_cons
abbrev Jm:=@List.mem_iff_getElem?
abbrev Jn:=@Nat.lt_succ_iff
abbrev Jo:=@List.length_eq_zero_iff
abbrev Jp:=@Array.perm_iff_toList_perm
abbrev Jq:=@List.mem_flatMap
abbrev Jr:=@List.mem_filterMap
abbrev Js:=@Option.isSome_iff_exists
abbrev Jt:=@Bool.and_eq_true_iff
abbrev Ju:=@List.mem_iff_getElem
abbrev Jv:=@Array.getElem?_eq_some_iff
abbrev Jw:=@List.find?_range_eq_none
abbrev Jx:=@List.append_eq_nil_iff
abbrev Jy:=List (Int×Int)
abbrev Jz:=List Jy
namespace L2
abbrev jC:=Sum Int Str
def W8:jC->Value->Bool
 | .inl k,v=>Value.isInt k v
 | .inr x,v=>Value.isStrOf x v
def nt (w:World):jC->Int
 | .inl k=>hashInt k
 | .inr x=>hashStr w x
def KJ:∀{k:jC} {v:Value},W8 k v=true->(∃i t,k=Ue i/\v=Value.int i t)\/(∃x t,k=UN x/\v=Value.str x t)
 | .inl i,v,h=>by
  obtain⟨t,e⟩:=Value.isInt_shape h;exact .inl ⟨i,t,rfl,e⟩
 | .inr x,v,h=>by
  obtain⟨t,e⟩:=Value.isStrOf_shape h;exact .inr ⟨x,t,rfl,e⟩
def Ey (i)(t):W8 (.inl i) (.int i t)=true:=by simp[W8,Value.isInt]
def M3 (x)(t):W8 (.inr x) (.str x t)=true:=by simp[W8,Value.isStrOf]
def M4 (a b):decide ((Ue a:jC)=Ue b)=(a == b):=()
def M5 (a b):decide ((UN a:jC)=UN b)=decide (a=b):=()
def M6 (a)(b):decide ((Ue a:jC)=UN b)=false:=rfl
def M7 (a)(b):decide ((UN a:jC)=Ue b)=false:=rfl
def Qx (prog:Program)(w:World):PySem.KeyKind prog w jC where
 is:=W8
 hash:=nt w
 inj:=λv a b g f=>by
  rcases KJ g with ⟨i,t,rfl,rfl⟩|⟨x,t,rfl,rfl⟩
  .rcases KJ f with ⟨j,u,rfl,e⟩|⟨y,u,rfl,e⟩
   .injection e with e1 _;rw[e1]
   .exact nomatch e
  .rcases KJ f with ⟨j,u,rfl,e⟩|⟨y,u,rfl,e⟩
   .exact nomatch e
   .injection e with e1 _;rw[e1]
 byValue:=λk v h=>by
  rcases KJ h with ⟨i,t,rfl,rfl⟩|⟨x,t,rfl,rfl⟩<;>rfl
 pyHash:=λc h=>by
  rcases KJ c with ⟨i,t,rfl,rfl⟩|⟨x,t,rfl,rfl⟩
  .exact wpAny_pyHash_int h
  .exact wpAny_pyHash_str h
 eqBool:=λl c h=>by
  rcases KJ l with ⟨i,t,rfl,rfl⟩|⟨x,t,rfl,rfl⟩
  .rcases KJ c with ⟨j,u,rfl,rfl⟩|⟨y,u,rfl,rfl⟩
   .rw[M4] at h;exact wpAny_eqBool_int h
   .rw[M6] at h;exact SeqAt.EqAt.int_str i t y u _ _ _ _ h
  .rcases KJ c with ⟨j,u,rfl,rfl⟩|⟨y,u,rfl,rfl⟩
   .rw[M7] at h;exact SeqAt.EqAt.str_int x t j u _ _ _ _ h
   .rw[M5] at h;exact wpAny_eqBool_str h
 «strs»:=λk x t v h=>by
  rcases KJ h with ⟨i,u,rfl,e⟩|⟨y,u,rfl,e⟩
  .exact nomatch e
  .injection e with e1 _
   subst e1;cases v<;>rfl
def M8 (prog)(w)(i)(t):(Qx prog w).is (.inl i) (.int i t)=true:=Ey i t
def M9 (prog)(w)(x)(t):(Qx prog w).is (.inr x) (.str x t)=true:=M3 x t
inductive V where
 |non|bl (b:Bool)|int (i:Int)|str (x:Str)|byt (b:Array UInt8)|flt (b:UInt64)|ref (a:Addr)|ty (n:String)
 deriving DecidableEq
abbrev _root_.YE:=List V
abbrev _root_.YF:=Option V
def ju:V->Value->Prop
 | .non,u=>u=Value.none
 | .bl b,u=>u=Value.bool b
 | .int i,u=>∃t,u=Value.int i t
 | .str x,u=>∃t,u=Value.str x t
 | .byt b,u=>∃t,u=Value.bytes b t
 | .flt b,u=>∃t,u=Value.float b t
 | .ref a,u=>u=Value.ref a
 | .ty n,u=>u=Value.type n
abbrev js:YE->List Value->Prop:=Paired ju
theorem js.length {a:YE}{b:Yf}(r:js a b):a.length=b.length:=Paired.length r
theorem js.get:∀{a:YE} {b:Yf} {i:Nat} {x:V},js a b->a[i]? = some x->∃u,b[i]? = some u/\ju x u
 |_,_,_,_,.nil,e=>by simp at e
 |_,_,0,_,.cons r _,e=>by simp_all
 |_,_,i+1,x,.cons _ t,e=>by
  obtain⟨u,c,f⟩:=js.get t (by simpa using e)
  simp_all
theorem js.set {x:V}{u:Value}(r:ju x u):∀{a:YE} {b:Yf} i,js a b->js (a.set i x) (b.set i u)
 |_,_,_,.nil=>.nil
 |_,_,0,.cons _ t=>.cons r t
 |_,_,i+1,.cons q t=>.cons q (js.set r i t)
def js.append:∀{a ys:YE} {b ws:Yf},js a b->js ys ws->js (a++ys) (b++ws):=λh s=>by
 induction h with
 |nil=>exact s
 |cons r _ c=>exact .cons r c
def js.none_of:∀{a:YE} {b:Yf} {i:Nat},js a b->a[i]? = none->b[i]? = none:=λ{a b i} r e=>by
 have c:=r.length
 simp_all
def xk:YF->Option Value->Prop
 |some v,some u=>ju v u
 |none,none=>True
 |_,_=>False
def KV {κ: Type}:List (κ × V)->List (κ × Value)->Prop:=Paired λ(p:κ × V) (q:κ × Value)=>p.1=q.1/\ju p.2 q.2
def kV:jC->V
 | .inl i=>.int i
 | .inr x=>.str x
inductive HO where
 |lst (xs:YE)
 |tup (xs:YE)
 |dK (kvs:List (jC×V))|dT (kvs:List (List jC×V))
 |set (S:Int->Bool) (n:Nat)
 |ins (C dx:Addr) (fs:List (Str×V))
 |own (x:Addr)
 |xd (fs:List (Str×V))
 |met (f x:Addr)
 |rng (lo hi:Int)
 |frz (o:Obj) (u:HO)
 |tbl (ps:Yn)
 |ext (φ: Heap->Prop)
abbrev Hp:=Addr->Option HO
def upd (H:Hp)(a:Addr)(o:HO):Hp:=λb=>if b=a then some o else H b
def JM {H:Hp}{a:Addr}{o:HO}:upd H a o a=some o:=by simp_all [upd]
def JF {H:Hp}{a b:Addr}{o:HO}(h:b≠a):upd H a o b=H b:=by simp_all [upd]
def Kf {H:Hp}{a b:Addr}{o:HO}(h:H a=some o)(h':H b=none):a≠b:=()
section
variable (P:Program)(w:World)
def xZ (H:Hp)(h:Heap)(a:Addr):HO->Prop
 | .lst b=>b.length<=sizeLine/\∃(its:Yf) (n:Nat),js b its/\h.get? a=some { cls:=.type "list",data:=.seq its.toArray n }
 | .tup b=>(b.length<=sizeLine/\∃o,h.get? a=some o/\o.dict=none)/\∃its:Yf,js b its/\IsTup h a its.toArray
 | .dK kvs=>kvs.length<=sizeLine/\(a == sysModules)=false/\∃c,KV kvs c/\h.DictOf (Qx P w) a c
 | .dT kvs=>kvs.length<=sizeLine/\(a == sysModules)=false/\∃b:List (List jC×Addr×Value),
  Paired (λ(p:List jC×V) (q:List jC×Addr×Value)=>p.1=q.1/\H q.2.1=some (.tup (p.1.map kV))/\ju p.2 q.2.2) kvs b /\
  ∃o es ep,h.get? a=some o/\o.ExactDict/\o.data=.dict es ep/\es.toList=b.map (entryOfKey (tupleKind (Qx P w)))/\(b.map (·.1)).Nodup
 | .set S n=>h.SetOf (intKind P w) a S n
 | .ins C dx fs=>H dx=some (.own a)/\fs.length<=1000/\dx≠a/\h.get? a=some (W.instObj C dx) /\
  ∃mA,h.Ns1 dx mA/\(∀f,xk (fs.lookup f) (mA f))/\PySem.Within mA (fs.map (·.1))
 | .own _=>∃o,h.get? a=some o
 | .xd fs=>∃mA,h.Ns1 a mA/\∀f,xk (fs.lookup f) (mA f)
 | .rng lo hi=>∃t u v,h.get? a=some { cls:=.type "range",data:=.fields #[.int lo t,.int hi u,.int 1 v] }
 | .frz o u=>h.get? a=some o/\xZ H h a u
 | .tbl ps=>h.get? a=some { cls:=.none,data:=.fields ps }
 | .met f x=>h.get? a=some (W.methodObj (.ref f) (.ref x))
 | .ext φ => φ h/\(∃o,h.get? a=some o)/\∀e g:Heap,φ e->(∀o,e.get? a=some o->g.get? a=some o) -> φ g
def qK (H:Hp)(h:Heap):Prop:=∀a o,H a=some o->xZ P w H h a o
end
section
variable {P:Program}{w:World}{H H':Hp}{h h':Heap}{a:Addr}{o:HO}
theorem xZ.lt (x:xZ P w H h a o):a<h.objs.size:=by
 cases o with
 |lst c=>obtain⟨_,_,_,_,e⟩:=x;exact Zk e
 |tup c=>obtain⟨_,_,_,p⟩:=x;exact p.lt
 |dK b=>obtain⟨_,_,_,_,o,_,_,e,_⟩:=x;exact Zk e
 |dT b=>obtain⟨_,_,_,_,o,_,_,e,_⟩:=x;exact Zk e
 |set S n=>obtain⟨o,_,_,_,e,_⟩:=x;exact Zk e
 |ins C g fs=>exact Zk x.2.2.2.1
 |own y=>obtain⟨_,e⟩:=x;exact Zk e
 |xd fs=>obtain⟨_,⟨_,_,_,e,_⟩,_⟩:=x;exact Zk e
 |rng lo i=>obtain⟨_,_,_,e⟩:=x;exact Zk e
 |frz j u=>exact Zk x.1
 |tbl ps=>exact Zk (x)
 |met f y=>exact Zk (x)
 |ext φ => obtain⟨_,⟨_,e⟩,_⟩:=x;exact Zk e
def xB {α β: Type}{F G:α -> β -> Prop}:∀{l₁:List α} {l₂:List β},Paired F l₁ l₂->(∀a b,F a b->G a b)->Paired G l₁ l₂:=λh f=>by
 induction h with
 |nil=>exact .nil
 |cons r _ c=>exact .cons (f _ _ r) c
def xZ.stay (x:xZ P w H h a o)(k:∀b u,(b=a\/H b=some (.own a))->h.get? b=some u->h'.get? b=some u)
 (m:∀b,H b=some (.own a)->H' b=some (.own a)) (E:∀b i,H b=some (.tup i)->H' b=some (.tup i)):xZ P w H' h' a o:=by
 induction o with
 |lst i=>obtain⟨z,its,n,r,e⟩:=x;exact⟨z,its,n,r,k _ _ (.inl rfl) e⟩
 |tup i=>obtain⟨⟨z,j,F,dd⟩,its,r,g,e,c⟩:=x;exact⟨(),its,r,g,k _ _ (.inl rfl) e,c⟩
 |dK l=>have ⟨z,y,s,r,g,es,ep,e,c⟩:=x;exact⟨z,y,s,r,g,es,ep,k _ _ (.inl rfl) e,c⟩
 |dT l =>
  obtain⟨z,y,i,r,g,es,ep,e,c⟩:=x;exact⟨z,y,i,xB r (),g,es,ep,k _ _ (.inl rfl) e,c⟩
 |set S n=>have ⟨g,es,ep,t,e,c⟩:=x;exact⟨g,es,ep,t,k _ _ (.inl rfl) e,c⟩
 |ins C G fs =>
  obtain⟨d,z,ne,e,mA,⟨j,es,ep,A,c⟩,r⟩:=x;exact⟨m _ d,z,ne,k _ _ (.inl rfl) e,mA,⟨j,es,ep,k _ _ (.inr d) A,c⟩,r⟩
 |own y=>have ⟨g,e⟩:=x;exact⟨g,k _ _ (.inl rfl) e⟩
 |xd fs=>obtain⟨mA,⟨j,es,ep,e,c⟩,r⟩:=x;exact⟨mA,⟨j,es,ep,k _ _ (.inl rfl) e,c⟩,r⟩
 |rng lo I=>have ⟨t,u,v,e⟩:=x;exact⟨t,u,v,k _ _ (.inl rfl) e⟩
 |frz g u B=>exact⟨k _ _ (.inl rfl) x.1,B x.2⟩
 |tbl ps =>
  exact k a _ (.inl rfl) x
 |met f y =>
  exact k a _ (.inl rfl) x
 |ext φ => have ⟨p,⟨o,e⟩,st⟩:=x;exact⟨st _ _ p λo q=>k _ _ (.inl rfl) q,⟨o,k _ _ (.inl rfl) e⟩,st⟩
theorem qK.lt (x:qK P w H h)(e:H a=some o):a<h.objs.size:=(x a o e).lt
def qK.fresh (x:qK P w H h)(e:h.objs.size<=a):H a=none:=by
 cases q:H a with
 |none=>rfl
 |some u=>exact Zn (Zg (x.lt q) e) (Zy _)
def qK.kept (x:qK P w H h)(k:∀b u,h.get? b=some u->h'.get? b=some u):qK P w H h':=λa o e =>
 (x a o e).stay () (λ_ q=>q) λ_ _ q=>q
def qK.laid (x:qK P w H h)(k:∀b u,h.get? b=some u->h'.get? b=some u)(hp:h.objs.size<=a)(new:xZ P w (upd H a o) h' a o):qK P w (upd H a o) h':=λb u e=>by
 have f:=x.fresh hp;by_cases g:b=a
 .simp_all [JM]
 .rw[JF g] at e;exact(x b u e).stay () (λc q=>by rwa [JF (Kf q f)]) λc i q=>by rwa [JF (Kf q f)]
end
def Rd (H:Hp)(a:Addr)(u:HO):Prop:=H a=some u\/∃o,H a=some (.frz o u)
def Rd.ok {P:Program}{w:World}{H:Hp}{h:Heap}{a:Addr}{u:HO}(r:Rd H a u)(x:qK P w H h):xZ P w H h a u:=by
 rcases r with r|⟨o,r⟩
 .exact x a u r
 .obtain⟨_,q⟩:=x a _ r;exact q
def hB:Option HO->Prop
 |some (.lst _)=>True
 |some (.dK _)=>True
 |some (.dT _)=>True
 |some (.set _ _)=>True
 |some (.ins _ _ _)=>True
 |some (.ext _)=>True
 |_=>False
section
variable {P:Program}{w:World}{H:Hp}{h h':Heap}{x e:Addr}{o':HO}
def qK.write (ok:qK P w H h)(l:hB (H x))(o:e=x\/H e=some (.own x))(k:∀b u,b≠e->h.get? b=some u->h'.get? b=some u)(i:∃u,h'.get? e=some u)
 (new:xZ P w (upd H x o') h' x o'):qK P w (upd H x o') h':=λb u q=>by
 have a:∀c y,H c=some (.own y)->c≠x:=λc y r z=>by subst z;rwa [r] at l
 have f:∀c g,H c=some (.tup g)->c≠x:=λc g r z=>by subst z;rwa [r] at l
 by_cases n:b=x
 .simp_all [JM]
 .rw[JF n] at q;by_cases j:b=e
  .have m:H b=some (.own x):=by
    simp_all
   rw[q] at m;cases m;obtain⟨v,p⟩:=i;exact⟨v,by rwa [j]⟩
  .refine(ok b u q).stay (λc v s r=>k c v ?_ r) (λc r=>by rwa [JF (a c b r)]) λc g r=>by rwa [JF (f c g r)]
   grind
end
structure Un (fs ex:Yl)(H H':Hp)(h h':Heap):Prop where
 keep:∀b o,h.get? b=some o->H b=none->b∉fs->b∉ex->h'.get? b=some o
 slot:∀b o,h.get? b=some o->H b=none->b∈fs->b∉ex->∃sl,h'.get? b=some { o with slots:=sl }
 free:∀b o,h.get? b=some o->H b=none->b∉ex->H' b=none
 there:∀b o,h.get? b=some o->b∉ex->∃o',h'.get? b=some o'
 tups:∀b xs,H b=some (.tup xs)->H' b=some (.tup xs)
 frzs:∀b o u,H b=some (.frz o u)->H' b=some (.frz o u)
 tbls:∀b ps,H b=some (.tbl ps)->∃more,H' b=some (.tbl (ps++more))
section
variable {fs fs' ex ex':Yl}{H H1 H2:Hp}{h h1 h2 h':Heap}{a x e:Addr}{o:HO}
def Un.any (u:Un fs ex H H1 h h1){b:Addr}{c:Obj}(q:h.get? b=some c)(n:H b=none)(f:b∉ex):∃i,h1.get? b=some { c with slots:=i }:=by
 by_cases g:b∈fs
 .exact u.slot b c q n g f
 .exact⟨c.slots,u.keep b c q n g f⟩
def Un.kept (k:∀b u,h.get? b=some u->h'.get? b=some u):Un fs ex H H h h':=
 ⟨(),λb c q _ _ _=>⟨c.slots,k b c q⟩,λ_ _ _ n _=>n,(),λ_ _ q=>q,λ_ _ _ q=>q,λ_ ps q=>⟨#[],by rw[q];simp⟩⟩
theorem Un.refl:Un fs ex H H h h:=Un.kept λ_ _ q=>q
def Un.laid (k:∀b u,h.get? b=some u->h'.get? b=some u)(hp:h.objs.size<=a)(c:H a=none):Un fs ex H (upd H a o) h h' where
 keep:=by grind
 slot:=λb u q _ _ _=>⟨u.slots,k b u q⟩
 free:=λb u q n _=>by rwa [JF (Zi (Zg (Zk q) hp))]
 there:=by grind
 tups:=λb f q=>by rwa [JF (Kf q c)]
 frzs:=λb u f q=>by rwa [JF (Kf q c)]
 tbls:=λb ps q=>⟨#[],by rw[JF (Kf q c),q];simp⟩
def Un.write (f:hB (H x))(m:e=x\/H e=some (.own x))(k:∀b u,b≠e->h.get? b=some u->h'.get? b=some u)(g:∃u,h'.get? e=some u):Un fs ex H (upd H x o) h h':=by
 have i:∀b,H b=none->b≠x:=λb n z=>by subst z;rwa [n] at f
 have j:∀b,H b=none->b≠e:=by grind
 have c:∀b u,H b=some u->¬hB (some u)->b≠x:=by grind
 refine⟨(),λb u q n _ _=>⟨u.slots,k b u (j b n) q⟩,λb u q n _=>by rwa [JF (i b n)],λb u q _=>?_,
  λb l q=>by rwa [JF (c b _ q λz=>z)],λb u l q=>by rwa [JF (c b _ q λz=>z)],λb ps q=>⟨#[],by rw[JF (c b _ q λz=>z),q];simp⟩⟩
 grind
end
def trk (h:Heap)(H:Hp):Yl:=(List.range h.objs.size).filter λa=>(H a).isSome
def yz (h:Heap)(H:Hp):Heap:=W.hideAll h (trk h H)
def MA (h)(H):(yz h H).objs.size=h.objs.size:=W.hideAll_size _ _
def MB {h:Heap}{H:Hp}{b:Addr}{o:Obj}(e:h.get? b=some o)(n:H b=none):(yz h H).get? b=some o:=
 W.hideAll_get _ e λa=>by
  have q:=(Jf.mp a).2
  simp_all
def MC {h:Heap}{H:Hp}{b:Addr}{o:Obj}(e:(yz h H).get? b=some o):h.get? b=some o/\H b=none:=by
 have a:=W.of_hideAll (trk h H) e;refine⟨a,?_⟩;cases q:H b with
 |none=>rfl
 |some x =>
  have c:b∈trk h H:=Jf.mpr ⟨Jg.mpr (Zk a),by simp[q]⟩;have z:(yz h H).get? b=none:=W.hideAll_none (trk h H) c
  simp_all
structure Mod (K:W.Frag)(mg:Ye)(base:Heap):Prop where
 kin:K.In base
 glob:base.Ns mainGlobals mg
 blt:∃mb,base.Ns builtinsNs mb/\∀x:Str,x ≠ "__name__" -> mb x=bootBuiltins x
 nolimit:base.NoLimit
structure Cx where
 prog:Program
 w:World
 K:W.Frag
 mg:Ye
 base:Heap
 A:Around
 N:Yk
 s₀:Shared
 H₀:Hp
 env:Env
 outer:List Env
 stack:List Env
 ex:Yl
 fn:Str->Bool
 calm:Bool
 pn:Yb
 xe:Ya
abbrev _root_.YI(X:Cx){α:Type}(m:Sem α):=wpAny (model X.prog X.w) X.A m
abbrev _root_.YJ(P:Program)(w:World)(A:Around){α:Type}(m:Sem α):=wpAny (model P w) A m
abbrev _root_.YK(P:Program)(w:World)(A:Around)(E:Value->Shared->Prop)(s:Shared){α:Type}(m:StateT PyProof.Rows.SortSt Sem α):=PyProof.Rows.wpS (model P w) A E s m
def xf (l:List Env):Yl:=l.filterMap (·.frame)
abbrev Cx.fs (X:Cx):Yl:=xf X.outer
def bT (a:Scope)(x:Str):Prop:=a.names.lookup x=some .local\/a.names.lookup x=some .cell\/a.names.lookup x=some .free
def yT (a:Scope)(x:Str):Prop:=a.names.lookup x=some .local\/a.names.lookup x=some .cell
def r9 (env:Env)(h:Heap)(m:Ye)(x:Str)(u:Value):Prop:=
 (env.kindOf x=some .local/\m x=some u)\/((env.kindOf x=some .cell\/env.kindOf x=some .free)/\∃c,env.cells.lookup x=some c/\h.IsCell c (some u))
structure Cx.Ok (X:Cx):Prop where
 mod:Mod X.K X.mg X.base
 kind:X.env.scope.kind=.function
 glob:X.env.globals=mainGlobals
 blt:X.env.builtins=builtinsNs
 above:X.s₀.heap.objs.size<=X.env.locals
 inj:∀x y c,X.env.cells.lookup x=some c->X.env.cells.lookup y=some c->x=y
 has:∀x,(X.env.kindOf x=some .cell\/X.env.kindOf x=some .free)->∃c,X.env.cells.lookup x=some c
 cab:∀x c,X.fn x=true->X.env.cells.lookup x=some c->X.s₀.heap.objs.size<=c
 hd:X.calm=true->X.A.handled=none
 frames:X.A.frames=some X.stack
 stk:X.stack=X.outer\/(X.stack=X.env::X.outer/\X.env.frame=some X.env.locals)
 exf:∀b∈X.ex,b≠X.env.locals/\∀x c,X.env.cells.lookup x=some c->c≠b
 bs:∀b o,X.base.get? b=some o->X.s₀.heap.get? b=some o/\X.H₀ b=none
 bsz:X.base.objs.size<=X.s₀.heap.objs.size
 noex:∀b o,X.base.get? b=some o->b∉X.ex
 exfs:∀b∈X.ex,b∉X.fs
 funs:X.s₀.heap.FunFrames X.base X.outer
 frf:∀b∈X.fs,X.H₀ b=none
structure Inv (X:Cx)(Y:Yb)(Z: List YF)(H:Hp)(s:Shared):Prop where
 ok:X.Ok
 os:s.os=X.s₀.os
 bare:AllBare s.gens
 base:Un X.fs X.ex X.H₀ H X.s₀.heap s.heap
 loc:∃m,s.heap.Ns X.env.locals m/\∀(i:Nat) (x:Str) (v:V),X.N[i]? = some x -> Z[i]? = some (some v)->bT X.env.scope x->∃u,ju v u/\r9 X.env s.heap m x u
 cell:∀x c,X.env.cells.lookup x=some c->∃v,s.heap.IsCell c v
 free:H X.env.locals=none
 freeC:∀x c,X.env.cells.lookup x=some c->H c=none
 pin:∀p∈X.pn++Y,s.heap.get? p.1=some p.2/\H p.1=none/\p.1≠X.env.locals/\p.1∉X.fs/\∀v,p.2.data ≠ .cell v
 hok:qK X.prog X.w H s.heap
 len:Z.length=X.N.length
section
variable {X:Cx}{Y:Yb}{Z: List YF}{H H':Hp}{s:Shared}{h':Heap}
def Cx.Ok.nofr (ok:X.Ok){b:Addr}{o:Obj}(e:X.base.get? b=some o):b∉X.fs:=λa=>by
 have:=(ok.funs.mem a).1
 simp_all
theorem Inv.bs (I:Inv X Y Z H s):∀b o,X.base.get? b=some o->s.heap.get? b=some o/\H b=none:=λb o e =>
 ⟨I.base.keep b o (I.ok.bs b o e).1 (I.ok.bs b o e).2 (I.ok.nofr e) (I.ok.noex b o e),I.base.free b o (I.ok.bs b o e).1 (I.ok.bs b o e).2 (I.ok.noex b o e)⟩
def Inv.bk (I:Inv X Y Z H s):∀b o,X.base.get? b=some o->s.heap.get? b=some o:=λb o e=>(I.bs b o e).1
theorem Inv.mod (I:Inv X Y Z H s):Mod X.K X.mg X.base:=I.ok.mod
def Inv.kIn (I:Inv X Y Z H s):X.K.In s.heap:=I.ok.mod.kin.keeps I.bk
theorem Inv.lt (I:Inv X Y Z H s):X.env.locals<s.heap.objs.size:=let ⟨_,hn,_⟩:=I.loc;hn.lt
theorem Inv.sz (I:Inv X Y Z H s):X.s₀.heap.objs.size<=s.heap.objs.size:=Zh I.ok.above (Zz I.lt)
def Inv.nofs (I:Inv X Y Z H s){a:Addr}(h:s.heap.objs.size<=a):a∉X.fs:=λb=>by
 obtain⟨_,o,c,_⟩:=I.ok.funs.mem b;exact Zn (Zg (Zk c) (Zh I.sz h)) (Zy _)
def Inv.cne (I:Inv X Y Z H s):∀x c,X.env.cells.lookup x=some c->c≠X.env.locals:=λx c e z=>by
 obtain⟨v,o,f,g⟩:=I.cell x c e;obtain⟨m,⟨h,es,ep,a,b,_⟩,_⟩:=I.loc
 simp_all
theorem Inv.funs (I:Inv X Y Z H s):s.heap.FunFrames X.base X.outer:=by
 have all:∀l,(∀b∈xf l,b∈X.fs)->X.s₀.heap.FunFrames X.base l->s.heap.FunFrames X.base l:=by
  intro l
  induction l with
  |nil=>intro _ _;trivial
  |cons env r f =>
   intro hs g;obtain⟨h,⟨L,o,i,j,m,n⟩,p⟩:=g;have a:L∈X.fs:=hs L (by simp_all [xf,UX]);obtain⟨q,e⟩:=I.base.slot L o m (I.ok.frf L a) a λz=>I.ok.exfs L z a;exact⟨h,⟨L,_,i,j,e,n⟩,f (λb c=>hs b (by simp_all [xf,UX])) p⟩
 exact all X.outer (λ_ c=>c) I.ok.funs
theorem Inv.stack (I:Inv X Y Z H s):s.heap.FunFrames X.base X.stack:=by
 rcases I.ok.stk with e|⟨e,hf⟩
 .rw[e];exact I.funs
 .rw[e];have ⟨m,a,_⟩:=I.loc;exact .cons (by rw[I.ok.kind];decide) hf a (Heap.get?_none_of_le (Zh I.ok.bsz I.ok.above)) I.funs
def Inv.stkSub (I:Inv X Y Z H s):∀b∈xf X.stack,b∈X.env.locals::X.fs:=λb a=>by
 rcases I.ok.stk with e|⟨e,hf⟩
 .simp_all
 simp_all [xf]
def Inv.stkFree (I:Inv X Y Z H s):∀b∈xf X.stack,H b=none:=λb hb=>by
 rcases Us.mp (I.stkSub b hb) with e|hb
 .rw[e];exact I.free
 .obtain⟨_,o,a,_⟩:=I.ok.funs.mem hb;exact I.base.free b o a (I.ok.frf b hb) λz=>I.ok.exfs b z hb
def Inv.step {P:Array GenState}{t':Nat}{T:Drawn}{ch:Yl}(I:Inv X Y Z H s)
 (y:∀b∈ch,(b∈X.ex\/X.s₀.heap.objs.size<=b)/\b≠X.env.locals/\(∀x c,X.env.cells.lookup x=some c->c≠b)/\∀p∈X.pn++Y,p.1≠b)
 (keep:∀b o,b≠X.env.locals->b∉X.fs->b∉ch->s.heap.get? b=some o->H b=none->h'.get? b=some o)
 (j:∀b o,b≠X.env.locals->b∈X.fs->b∉ch->s.heap.get? b=some o->H b=none->∃K,h'.get? b=some { o with slots:=K }) (free:∀b o,b∉ch->s.heap.get? b=some o->H b=none->H' b=none)
 (A:∀b o,b∉ch->s.heap.get? b=some o->∃E,h'.get? b=some E)
 (F:∀b t,H b=some (.tup t)->H' b=some (.tup t)) (G:∀b o u,H b=some (.frz o u)->H' b=some (.frz o u)) (Q:∀b ps,H b=some (.tbl ps)->∃more,H' b=some (.tbl (ps++more)))
 (ns:∀m,s.heap.Ns X.env.locals m->h'.Ns X.env.locals m) (L:qK X.prog X.w H' h') (U:AllBare P):
 Inv X Y Z H' { s with heap:=h',gens:=P,drawn:=T,toks:=t' }:=by
 have J:∀b o,X.s₀.heap.get? b=some o->b≠X.env.locals:=λb o e=>Zi (Zg (Zk e) I.ok.above);have h:∀b o,X.s₀.heap.get? b=some o->b∉X.ex->b∉ch:=λb o e a B=>by
  rcases(y b B).1 with z|z
  .exact a z
  .exact Zn (Zg (Zk e) z) (Zy _)
 have f:∀x c,X.env.cells.lookup x=some c->∀v,s.heap.IsCell c v->h'.IsCell c v:=λx c e v zh=>by
  obtain⟨o,C,M⟩:=zh;have g:c∉ch:=by grind
  by_cases R:c∈X.fs
  .obtain⟨K,q⟩:=j c o (I.cne x c e) R g C (I.freeC x c e);exact⟨_,q,M⟩
  .exact⟨o,keep c o (I.cne x c e) R g C (I.freeC x c e),M⟩
 refine⟨I.ok,I.os,U,⟨λb o e n B a=>?_,λb o e n B a=>?_,λb o e n a=>?_,λb o e a=>?_,λb t e=>F b t (I.base.tups b t e),λb o t e=>G b o t (I.base.frzs b o t e),λb ps e=>?_⟩,?_,λx c e=>?_,?_,λx c e=>?_,λp hp=>?_,L,I.len⟩
 .exact keep b o (J b o e) B (h b o e a) (I.base.keep b o e n B a) (I.base.free b o e n a)
 .obtain⟨K,w⟩:=I.base.slot b o e n B a;obtain⟨N,O⟩:=j b _ (J b o e) B (h b o e a) w (I.base.free b o e n a);exact⟨N,O⟩
 .obtain⟨E,w⟩:=I.base.there b o e a;exact free b E (h b o e a) w (I.base.free b o e n a)
 .obtain⟨E,w⟩:=I.base.there b o e a;exact A b E (h b o e a) w
 .obtain⟨m1,w⟩:=I.base.tbls b ps e
  grind
 .obtain⟨m,hn,hl⟩:=I.loc;refine⟨m,ns m hn,λi x v w O e3=>?_⟩;obtain⟨u,r,l⟩:=hl i x v w O e3;refine⟨u,r,?_⟩;rcases l with l|⟨k,c,e,z⟩
  .exact .inl l
  .exact .inr ⟨k,c,e,f x c e _ z⟩
 .obtain⟨v,z⟩:=I.cell x c e;exact⟨v,f x c e v z⟩
 .obtain⟨m,⟨o,_,_,C,_⟩,_⟩:=I.loc;exact free _ o (λz=>(y _ z).2.1 rfl) C I.free
 .obtain⟨v,o,C,M⟩:=I.cell x c e;exact free c o () C (I.freeC x c e)
 .obtain⟨e,n,ne,S,d⟩:=I.pin p hp;have g:=λz=>(y p.1 z).2.2.2 p hp rfl;exact⟨keep p.1 p.2 ne S g e n,free p.1 p.2 g e n,ne,S,d⟩
def Inv.un {t':Nat}(I:Inv X Y Z H s)(u:Un X.fs [] H H' s.heap h')(c:qK X.prog X.w H' h'):Inv X Y Z H' { s with heap:=h',toks:=t' }:=have ⟨m,⟨o,es,ep,h,r⟩,_⟩:=id I.loc;have ⟨p,i⟩:=u.any h I.free ();I.step (ch:=[]) () (λb o _ f _ e n=>u.keep b o e n f ()) (λb o _ f _ e n=>u.slot b o e n f ()) (λb o _ e n=>u.free b o e n ()) (λb o _ e=>u.there b o e ()) u.tups u.frzs u.tbls (λq j=>by
 obtain⟨t,es',g,a,l⟩:=j;rw[h] at a;cases a;exact⟨_,es',g,i,l⟩) c I.bare
def Inv.call {l:Array GenState}{t':Nat}{t:Drawn}{ch:Yl}(I:Inv X Y Z H s)(u:Un (xf X.stack) ch H H' s.heap h')(g:qK X.prog X.w H' h')(v:AllBare l)
 (h:∀b∈ch,(b∈X.ex\/X.s₀.heap.objs.size<=b)/\b≠X.env.locals/\(∀x c,X.env.cells.lookup x=some c->c≠b)/\∀p∈X.pn++Y,p.1≠b):
 Inv X Y Z H' { s with heap:=h',gens:=l,drawn:=t,toks:=t' }:=have ⟨m,⟨o,es,ep,q,r⟩,_⟩:=id I.loc;have ⟨B,i⟩:=u.any q I.free ();I.step h (λb o i w a e n=>u.keep b o e n (λz=>(Us.mp (I.stkSub b z)).elim i w) a) (λb o _ _ a e n=>u.any e n a) (λb o a e n=>u.free b o e n a) (λb o a e=>u.there b o e a) u.tups u.frzs u.tbls (λC y=>by
 obtain⟨E,es',j,f,A⟩:=y;rw[q] at f;cases f;exact⟨_,es',j,i,A⟩) g v
def Inv.turned {t':Nat}{it:Addr}(I:Inv X Y Z H s)(k:∀b o,b≠it->s.heap.get? b=some o->h'.get? b=some o)(i:H it=none)(f:it≠X.env.locals)
 (j:it∈X.ex\/X.s₀.heap.objs.size<=it) (l:∀x c,X.env.cells.lookup x=some c->c≠it) (t:∀p∈X.pn++Y,p.1≠it):Inv X Y Z H { s with heap:=h',toks:=t' }:=by
 refine I.step (ch:=[it]) (λb w=>?_) () (λb o _ _ a e _=>⟨o.slots,k b o (λz=>a (by simp[z])) e⟩) (λ_ _ _ _ n=>n)
  () (λ_ _ e=>e) (λ_ _ _ e=>e) (λb ps e=>⟨#[],by rw[e];simp⟩) (λm g=>?_) (λb u e=>?_) I.bare
 .grind
 .have ⟨o,es,ep,h,r⟩:=g;exact⟨o,es,ep,k _ o (Ne.symm f) h,r⟩
 .refine(I.hok b u e).stay (λc v a q=>k c v ?_ q) (λ_ q=>q) λ_ _ q=>q
  grind
def Inv.tok (I:Inv X Y Z H s)(t):Inv X Y Z H { s with toks:=t }:=I.un Un.refl I.hok
theorem Inv.kept {t':Nat}(I:Inv X Y Z H s)(k:∀b u,s.heap.get? b=some u->h'.get? b=some u):Inv X Y Z H { s with heap:=h',toks:=t' }:=I.un (Un.kept k) (I.hok.kept k)
theorem Inv.laid {a:Addr}{o:HO}{t':Nat}(I:Inv X Y Z H s)(k:∀b u,s.heap.get? b=some u->h'.get? b=some u)(hp:s.heap.objs.size<=a)(new:xZ X.prog X.w (upd H a o) h' a o):
 Inv X Y Z (upd H a o) { s with heap:=h',toks:=t' }:=I.un (Un.laid k hp (I.hok.fresh hp)) (I.hok.laid k hp new)
theorem Inv.write {x e:Addr}{o:HO}{t':Nat}(I:Inv X Y Z H s)(c:hB (H x))(f:e=x\/H e=some (.own x))(k:∀b u,b≠e->s.heap.get? b=some u->h'.get? b=some u)(a:∃u,h'.get? e=some u)
 (new:xZ X.prog X.w (upd H x o) h' x o):Inv X Y Z (upd H x o) { s with heap:=h',toks:=t' }:=I.un (Un.write c f k a) (I.hok.write c f k a new)
def Inv.pins_of {Y':Yb}(I:Inv X Y Z H s)(h:∀p∈Y',s.heap.get? p.1=some p.2/\H p.1=none/\p.1≠X.env.locals/\p.1∉X.fs/\∀v,p.2.data ≠ .cell v):Inv X Y' Z H s:=
 ⟨I.ok,I.os,I.bare,I.base,I.loc,I.cell,I.free,I.freeC,λp hp=>(Jb.mp hp).elim (λz=>I.pin p ()) (h p),I.hok,I.len⟩
def Ez {N:Yk}(c:N.Nodup){i j:Nat}{x:Str}(a:N[i]? = some x)(b:N[j]? = some x):i=j:=by
 obtain⟨g,e⟩:=Jc.mp a;obtain⟨h,f⟩:=Jc.mp b;exact(List.getElem_inj c).mp (e.trans f.symm)
def ME {M:Model}{A:Around}{E:Ya}{i:Nat}{x:Str}{v:V}{u:Value}{Q:Unit->YC}(I:Inv X Y Z H s)(hN:X.N.Nodup)(B:X.N[i]? = some x)(l:yT X.env.scope x)(r:ju v u)
 (h:∀s',Inv X Y (Z.set i (some v)) H s'->(∃a,Heap.SameBut a s.heap s'.heap/\(a=X.env.locals\/X.env.cells.lookup x=some a))->Q Yt s') (hf:X.fn x=true\/X.env.scope.names.lookup x=some .local:=by trivial):wpAny M A (storeName X.env x u) Q E s:=by
 obtain⟨m,R,hl⟩:=id I.loc;have J:(X.env.scope.kind == .class||(X.env.scope.kind == .module&&X.env.locals != X.env.globals))=false:=by rw[I.ok.kind];rfl
 have hiσ: i < Z.length:=by rw[I.len];exact(Jc.mp B).1
 have cne:=I.cne;have f:∀{a:Addr} {h':Heap},(∃o,s.heap.get? a=some o/\H a=none)->Heap.SameBut a s.heap h'->qK X.prog X.w H h':=λ{a h'} ha hs b ob e=>by
  obtain⟨_,_,S⟩:=ha;refine(I.hok b ob e).stay (λc O t q=>(hs.2 c ?_).trans q) (λ_ q=>q) λ_ _ q=>q
  grind
 rcases l with hk|hk
 .refine wpAny_storeName_local hk R (λh' T hs=>?_) J;obtain⟨oL,_,_,U,_⟩:=id R;refine h _ ⟨I.ok,I.os,I.bare,⟨λb o e n C l=>?_,λb o e n C l=>?_,I.base.free,λb o e l=>?_,I.base.tups,I.base.frzs,I.base.tbls⟩,⟨_,T,λj y v' g w e3=>?_⟩,λy c e=>?_,I.free,I.freeC,λp hp=>?_,f ⟨oL,U,I.free⟩ hs,by simpa using I.len⟩ ⟨_,hs,.inl rfl⟩
  .exact(hs.2 b (Zi (Zg (Zk e) I.ok.above))).trans (I.base.keep b o e n C l)
  .obtain⟨sl,g⟩:=I.base.slot b o e n C l;exact⟨sl,(hs.2 b (Zi (Zg (Zk e) I.ok.above))).trans g⟩
  .obtain⟨o',g⟩:=I.base.there b o e l;exact⟨o',(hs.2 b (Zi (Zg (Zk e) I.ok.above))).trans g⟩
  .by_cases F:j=i
   .subst F;rw[B] at g;cases g;rw[UO hiσ] at w;cases w;exact⟨u,r,.inl ⟨hk,()⟩⟩
   .rw[Zx (Ne.symm F)] at w;obtain⟨u',r',q⟩:=hl j y v' g w e3;refine⟨u',r',?_⟩;rcases q with ⟨k,e⟩|⟨k,c,e,z⟩
    .refine .inl ⟨k,?_⟩;have:y≠x:=λe=>F (Ez hN g (e ▸ B));simp[this,e]
    .exact .inr ⟨k,c,e,z.sameBut hs (cne y c e)⟩
  .obtain⟨O,z⟩:=I.cell y c e;exact⟨O,z.sameBut hs (cne y c e)⟩
  .obtain⟨e,n,ne,nf,d⟩:=I.pin p hp;exact⟨(hs.2 p.1 ne).trans e,n,ne,nf,d⟩
 .have G:X.fn x=true:=by
   rcases hf with z|z
   .exact z
   .rw[z] at hk;cases hk
  obtain⟨c,t⟩:=I.ok.has x (.inl hk);obtain⟨O,z⟩:=I.cell x c t;refine wpAny_storeName_cell I.ok.kind hk t z (λh' K hs=>?_);obtain⟨oc,L,hocd⟩:=id z;refine h { s with heap:=h' } ⟨I.ok,I.os,I.bare,⟨λb o e n C l=>?_,λb o e n C l=>?_,I.base.free,λb o e l=>?_,I.base.tups,I.base.frzs,I.base.tbls⟩,⟨m,R.sameBut hs (Ne.symm (cne x c t)),λj y v' g w e3=>?_⟩,λy P e=>?_,I.free,I.freeC,λp hp=>?_,f ⟨oc,L,I.freeC x c t⟩ hs,by simpa using I.len⟩ ⟨c,hs,.inr t⟩
  .exact(hs.2 b (Zi (Zg (Zk e) (I.ok.cab x c G t)))).trans (I.base.keep b o e n C l)
  .obtain⟨sl,g⟩:=I.base.slot b o e n C l;exact⟨sl,(hs.2 b (Zi (Zg (Zk e) (I.ok.cab x c G t)))).trans g⟩
  .obtain⟨o',g⟩:=I.base.there b o e l;exact⟨o',(hs.2 b (Zi (Zg (Zk e) (I.ok.cab x c G t)))).trans g⟩
  .by_cases F:j=i
   .subst F;rw[B] at g;cases g;rw[UO hiσ] at w;cases w;exact⟨u,r,.inr ⟨.inl hk,c,t,K⟩⟩
   .rw[Zx (Ne.symm F)] at w;obtain⟨u',r',q⟩:=hl j y v' g w e3;refine⟨u',r',?_⟩;rcases q with q|⟨k,P,e,z'⟩
    .exact .inl q
    .refine .inr ⟨k,P,e,z'.sameBut hs ?_⟩;rintro rfl;exact F (Ez hN g (I.ok.inj _ _ _ e t ▸ B))
  .by_cases N:P=c
   .subst N;exact⟨_,K⟩
   .obtain⟨w2,z2⟩:=I.cell y P e;exact⟨w2,z2.sameBut hs N⟩
  .obtain⟨e,n,ne,nf,d⟩:=I.pin p hp;refine⟨(hs.2 p.1 ?_).trans e,n,ne,nf,d⟩;intro q;rw[q,L] at e;have q':=Zqi e;exact d O (by rwa [<- q'])
def Am {M:Model}{A:Around}{E:Ya}{i:Nat}{x:Str}{v:V}{u:Value}{Q:Unit->YC}(I:Inv X Y Z H s)(a:X.N.Nodup)(b:X.N[i]? = some x)(c:yT X.env.scope x)(r:ju v u)
 (h:∀s',Inv X Y (Z.set i (some v)) H s'->Q Yt s') (e:X.fn x=true\/X.env.scope.names.lookup x=some .local:=by trivial):wpAny M A (storeName X.env x u) Q E s:=
 ME I a b c r (λs' f _=>h s' f) e
def Inv.call' {s':Shared}{ch:Yl}(I:Inv X Y Z H s)(f:s'.os=s.os)(u:Un (xf X.stack) ch H H' s.heap s'.heap)(a:qK X.prog X.w H' s'.heap)(g:AllBare s'.gens)
 (e:∀b∈ch,(b∈X.ex\/X.s₀.heap.objs.size<=b)/\b≠X.env.locals/\(∀x c,X.env.cells.lookup x=some c->c≠b)/\∀p∈X.pn++Y,p.1≠b):Inv X Y Z H' s':=by
 obtain⟨h',h,i,t',j⟩:=s';subst f;exact I.call u a g e
end
abbrev XK:=Value->Option Addr->Hp->Prop
abbrev St:=List YF
abbrev VK:=V->Hp->Prop
abbrev TE:=St->Hp->VK->Prop
abbrev TT:=St->Hp->(Bool->Hp->Prop)->Prop
abbrev TA:=St->Hp->(YE->Hp->Prop)->Prop
structure Ends where
 nx:St->Hp->Prop
 rt:VK
 bk:St->Hp->Prop:=λ_ _=>False
 ct:St->Hp->Prop:=λ_ _=>False
abbrev TS:=Ends->St->Hp->Prop
def EP (X:Cx)(Y:Yb)(Z: St)(Q:VK)(u:Value)(s':Shared):Prop:=∃v a,Inv X Y Z a s'/\ju v u/\Q v a
def TP (X:Cx)(Y:Yb)(Z: St)(Q:Bool->Hp->Prop)(b:Bool)(s':Shared):Prop:=∃a,Inv X Y Z a s'/\Q b a
def AP (X:Cx)(Y:Yb)(Z: St)(Q:YE->Hp->Prop)(c:Yf)(s':Shared):Prop:=∃a b,Inv X Y Z b s'/\js a c/\Q a b
def SP (X:Cx)(Y:Yb)(D:Ends)(f:Flow)(s':Shared):Prop:=
 match f with
 | .next=>∃b a,Inv X Y b a s'/\D.nx b a
 | .brk=>∃b a,Inv X Y b a s'/\D.bk b a
 | .cont=>∃b a,Inv X Y b a s'/\D.ct b a
 | .ret u=>∃v b a,Inv X Y b a s'/\ju v u/\D.rt v a
def PE (X:Cx)(e:Expr)(t:TE):Prop:=
 ∀(Y:Yb) (s:Shared) (Z: St) (H:Hp) (Q:VK),Inv X Y Z H s->t Z H Q->YI X (eval e X.env) (EP X Y Z Q) X.xe s
def PT (X:Cx)(e:Expr)(t:TT):Prop:=
 ∀(Y:Yb) (s:Shared) (Z: St) (H:Hp) (Q:Bool->Hp->Prop),Inv X Y Z H s->t Z H Q->YI X (isTrue e X.env (eval e X.env)) (TP X Y Z Q) X.xe s
def PW (X:Cx)(e:Expr)(t:TT):Prop:=
 ∀(a:Sem Value) (Y:Yb) (s:Shared) (Z: St) (H:Hp) (Q:Bool->Hp->Prop),Inv X Y Z H s->t Z H Q->YI X (isTrue e X.env a) (TP X Y Z Q) X.xe s
def vw {X:Cx}{e:Expr}{t:TT}(h:PW X e t):PT X e t:=h _
def PA (X:Cx)(es:Ym)(t:TA):Prop:=
 ∀(a:Pos) (Y:Yb) (s:Shared) (Z: St) (H:Hp) (Q:YE->Hp->Prop),Inv X Y Z H s->t Z H Q->YI X (spliced (backTo a (starEach es X.env))) (AP X Y Z Q) X.xe s
def PS (X:Cx)(st:Stmt)(t:TS):Prop:=
 ∀(Y:Yb) (s:Shared) (Z: St) (H:Hp) (D:Ends),Inv X Y Z H s->t D Z H->YI X (exec st X.env) (SP X Y D) X.xe s
def qI (X:Cx)(st:List Stmt)(t:TS):Prop:=
 ∀(Y:Yb) (s:Shared) (Z: St) (H:Hp) (D:Ends),Inv X Y Z H s->t D Z H->YI X (execs st X.env) (SP X Y D) X.xe s
def jH {α: Type}{t:Sem α}{Q b: α -> YC}{M:Model}{A:Around}{E:Ya}{s:Shared}(h:wpAny M A t Q E s)(c:∀a s,Q a s->b a s):wpAny M A t b E s:=Zc h c λ_ _ x=>x
section
variable {X:Cx}
def yc (i:Nat):TE:=λZ H Q=>∃v,Z[i]? = some (some v)/\Q v H
def tC (v:V):TE:=λ_ H Q=>Q v H
def MF {i:Nat}{x:Str}{f:Pos}(o:X.N[i]? = some x)(p:bT X.env.scope x)(g:(x == ("__debug__" : Str))=false:=by decide)(j:(x == ("__classdict__" : Str))=false:=by decide):PE X (.Name x f) (yc i):=by
 intro Y s Z H Q I h;obtain⟨v,e,h⟩:=h;obtain⟨m,q,t⟩:=I.loc;obtain⟨u,r,l⟩:=t i x v o e p;have b:EP X Y Z Q u s:=⟨v,H,I,r,h⟩;rcases l with ⟨hk,w⟩|⟨hk,c,n,a⟩
 .exact wpAny_Name (wpAny_loadName_local I.ok.kind hk q w b) g
 .rcases hk with hk|hk
  .exact wpAny_Name (wpAny_loadName_cell I.ok.kind hk n a b) g
  .exact wpAny_Name (wpAny_loadName_free I.ok.kind hk n a b j) g
def MG {i j pos}:PE X (.Constant (.int i) j pos) (tC (.int i)):=λ_ _ _ H _ I h=>wpAny_Constant_int ⟨.int i,H,I.tok _,⟨_,rfl⟩,h⟩
def kj {b j pos}:PE X (.Constant (.bool b) j pos) (tC (.bl b)):=λ_ _ _ H _ I h=>Constant_bool ⟨.bl b,H,I,rfl,h⟩
def MI {j pos}:PE X (.Constant .none j pos) (tC .non):=λ_ _ _ H _ I h=>Constant_none ⟨.non,H,I,rfl,h⟩
def E1 {x j pos}:PE X (.Constant (.str x) j pos) (tC (.str x)):=λ_ _ _ H _ I h=>Calls.Constant_str ⟨.str x,H,I.tok _,⟨_,rfl⟩,h⟩
def Gl (X:Cx)(x:Str):Prop:=X.env.kindOf x=some .globalImplicit
def Xh {E:Ya}{Y:Yb}{s:Shared}{Z: St}{H:Hp}{x:Str}{u:Value}{a:Pos}{Q:Ya}(I:Inv X Y Z H s)(b:Gl X x)(c:X.mg x=some u)(h:Q u s)
 (e:(x == ("__debug__" : Str))=false:=by decide):YI X (eval (.Name x a) X.env) Q E s:=
 Calls.Name_function_global I.ok.kind b (Calls.loadGlobal_global (by rw[I.ok.glob];exact I.mod.glob.keeps I.bk) c h) e
def Xi {E:Ya}{Y:Yb}{s:Shared}{Z: St}{H:Hp}{x:Str}{u:Value}{a:Pos}{Q:Ya}(I:Inv X Y Z H s)(b:Gl X x)(c:X.mg x=none)(e:bootBuiltins x=some u)(h:Q u s)
 (f:x ≠ "__name__" := by decide) (g:(x == ("__debug__" : Str))=false:=by decide):YI X (eval (.Name x a) X.env) Q E s:=by
 obtain⟨l,i,j⟩:=I.mod.blt;exact Calls.Name_function_global I.ok.kind b (Calls.loadGlobal_builtin (by rw[I.ok.glob];exact I.mod.glob.keeps I.bk) c (by rw[I.ok.blt];exact i.keeps I.bk) ((j x f).trans e) h) g
variable {a b:Expr}{ta tb:TE}{pos:Pos}
def PC (X:Cx)(op:CmpOp)(a b:Expr)(t:TE):Prop:=
 ∀(Y:Yb) (s:Shared) (Z: St) (H:Hp) (Q:VK),Inv X Y Z H s->t Z H Q ->
  YI X (eval a X.env) (λv s₁=>YI X (eval b X.env) (λu s₂=>YI X (compareOp op v u) (EP X Y Z Q) X.xe s₂) X.xe s₁) X.xe s
def MJ (b){op:CmpOp}(h:op ≠ .In)(c:op ≠ .NotIn):behindInMarks op b=false:=by
 cases b<;>first|rfl|(show(_&&(_||_)&&_)=false;simp_all)
def E2 (ta:TE):TE:=λZ H Q=>ta Z H λx c=>Q (.bl (!decide (x=.non))) c
def ju.none_iff {x:V}{v:Value}(r:ju x v):(v == Value.none)=decide (x=.non):=by
 cases x with
 |non=>cases r;rfl
 |bl _=>cases r;rfl
 |int _=>obtain⟨t,rfl⟩:=r;rfl
 |str _=>obtain⟨t,rfl⟩:=r;rfl
 |byt _=>obtain⟨t,rfl⟩:=r;rfl
 |flt _=>obtain⟨t,rfl⟩:=r;rfl
 |ref _=>cases r;rfl
 |ty _=>cases r;rfl
def MK {j pos'}(c:PE X a ta):PC X .IsNot a (.Constant .none j pos') (E2 ta):=λY s Z H Q I h=>jH (c Y s Z H _ I h) λv l ⟨x,e,f,g,i⟩=>(Constant_none (isnot_none_gen ⟨.bl _,e,f,by rw[g.none_iff];rfl,i⟩))
def tB (t:TE):TT:=λZ H Q=>t Z H λx e=>∃c,x=.bl c/\Q c e
def E3 {op:CmpOp}{t:TE}(h:PC X op a b t)(e:behindInMarks op b=false:=by first|exact MJ _ (by decide) (by decide)|rfl):PT X (.Compare a [op] [b] pos) (tB t):=by
 intro Y s Z H Q I f;refine wpAny_isTrue_Compare1 (jH (h Y s Z H _ I f) λv n e=>jH e λu o g=>jH g λc p ⟨x,i,j,l,m⟩=>?_) e;obtain⟨d,rfl,q⟩:=m;cases l;exact wpAny_truthy_bool ⟨i,j,q⟩
def E4 {e:Expr}{t:TE}(h:PE X e t)(f:∀c,isTrue e X.env c=(do let v <- c;standAt e.pos;holding [v] (truthy v)):=by intro _;rfl):PT X e (tB t):=by
 intro Y s Z H Q I g;refine isTrue_plain (jH (h Y s Z H _ I g) λv n ⟨x,i,j,l,m⟩=>?_) (f _);obtain⟨d,rfl,q⟩:=m;cases l;exact wpAny_truthy_bool ⟨i,j,q⟩
variable {tA tB':TT}{rest:Ym}
def m7 (t u:TT):TT:=λZ H Q=>t Z H λc e=>if c=true then u Z e Q else Q false e
def pA (t u:TT):TT:=λZ H Q=>t Z H λc e=>if c=true then Q true e else u Z e Q
def mu (t:TT):TT:=λZ H Q=>t Z H λc e=>Q (!c) e
def E5 (f:PT X a tA):PW X (.BoolOp .And [a] pos) tA:=by
 intro g Y s Z H Q I h;refine isTrue_and (jH (f Y s Z H Q I h) λc i e=>?_)
 grind[isTrue_and_nil]
def ML (f:PT X a tA):PW X (.BoolOp .Or [a] pos) tA:=by
 intro g Y s Z H Q I h;refine isTrue_or (jH (f Y s Z H Q I h) λc i e=>?_)
 grind[isTrue_or_nil]
def E6 (i:PT X a tA)(j:PW X (.BoolOp .And (b::rest) pos) tB'):PW X (.BoolOp .And (a::b::rest) pos) (m7 tA tB'):=by
 intro l Y s Z H Q I h;refine isTrue_and (jH (i Y s Z H _ I h) λc m ⟨e,f,g⟩=>?_);cases c with
 |true=>exact j l Y m Z e Q f g
 |false=>exact⟨e,f,g⟩
def ke (i:PT X a tA)(j:PW X (.BoolOp .Or (b::rest) pos) tB'):PW X (.BoolOp .Or (a::b::rest) pos) (pA tA tB'):=by
 intro l Y s Z H Q I h;refine isTrue_or (jH (i Y s Z H _ I h) λc m ⟨e,f,g⟩=>?_);cases c with
 |true=>exact⟨e,f,g⟩
 |false=>exact j l Y m Z e Q f g
def E7 (e:PT X a tA):PT X (.UnaryOp .Not a pos) (mu tA):=λY s Z H Q I h=>isTrue_not (e Y s Z H (λc f=>Q (!c) f) I h)
def uH (ta tb:TE):TE:=λZ H Q=>ta Z H λx e=>∃c,x=.bl c/\if c=true then tb Z e Q else Q (.bl false) e
def MM {op}{t:TE}(h:PE X a t):PE X (.BoolOp op [a] pos) t:=λY s Z H Q I c=>BoolOp_one (h Y s Z H Q I c)
def MN (i:PE X a ta)(j:PE X (.BoolOp .And (b::rest) pos) tb):PE X (.BoolOp .And (a::b::rest) pos) (uH ta tb):=by
 intro Y s Z H Q I h;refine BoolOp_and (jH (i Y s Z H _ I h) λv l ⟨x,f,g,m,e⟩=>?_);obtain⟨c,rfl,e⟩:=e;cases m;refine wpAny_truthy_bool ?_;cases c with
 |true=>exact j Y l Z f Q g e
 |false=>exact⟨.bl false,f,g,rfl,e⟩
end
def qy (K:W.Frag)(H:Hp)(a:Addr)(b:YE):Prop:=
 Rd H a (.lst b) \/
  ∃(o:Obj) (its:Yn) (n:Nat),K.lookup a=some o/\o.cls=.type "list" /\ o.dict=none/\o.data=.seq its n/\its.size<=sizeLine/\js b its.toList
def y9 (K:W.Frag)(H:Hp)(a:Addr)(b:YE):Prop:=
 Rd H a (.tup b) \/
  ∃(o:Obj) (its:Yn) (n:Nat),K.lookup a=some o/\o.cls=.type "tuple" /\ o.data=.seq its n/\its.size<=sizeLine/\js b its.toList
def rq:Value->YF
 | .none=>some .non
 | .bool b=>some (.bl b)
 | .int i _=>some (.int i)
 | .str x _=>some (.str x)
 | .bytes b _=>some (.byt b)
 | .float b _=>some (.flt b)
 | .ref a=>some (.ref a)
 | .type n=>some (.ty n)
 |_=>none
def ju.abs {x:V}{u:Value}(r:ju x u):rq u=some x:=by
 cases x with
 |non=>cases r;rfl
 |bl _=>cases r;rfl
 |int _=>obtain⟨t,rfl⟩:=r;rfl
 |str _=>obtain⟨t,rfl⟩:=r;rfl
 |byt _=>obtain⟨t,rfl⟩:=r;rfl
 |flt _=>obtain⟨t,rfl⟩:=r;rfl
 |ref _=>cases r;rfl
 |ty _=>cases r;rfl
def ju.inj {x y:V}{u:Value}(r:ju x u)(q:ju y u):x=y:=Zqi (r.abs.symm.trans q.abs)
theorem js.inj:∀{a ys:YE} {b:Yf},js a b->js ys b->a=ys:=λ{a ys b} g h=>by
 induction g generalizing ys with
 |nil=>cases h;rfl
 |cons r _ c =>
  cases h with
  |cons e t'=>rw[r.inj e,c t']
section
variable {X:Cx}{Y:Yb}{Z: St}{H:Hp}{s:Shared}{a:Addr}{xs ys:YE}
def qy.of {K:W.Frag}(h:H a=some (.lst xs)):qy K H a xs:=.inl (.inl h)
def y9.of {K:W.Frag}(h:H a=some (.tup xs)):y9 K H a xs:=.inl (.inl h)
def Inv.list (I:Inv X Y Z H s)(h:qy X.K H a xs):∃its:Yf,js xs its/\PlainL s.heap a its.toArray/\xs.length<=sizeLine:=by
 rcases h with h|⟨o,its,n,hk,hc,hd,hs,hz,r⟩
 .obtain⟨z,its,n,r,e⟩:=h.ok I.hok;exact⟨its,r,⟨_,n,e,rfl,rfl,rfl⟩,z⟩
 .refine⟨its.toList,r,⟨o,n,I.kIn a o hk,hc,hd,()⟩,?_⟩;have e:=r.length
  simp_all
def Inv.tuple (I:Inv X Y Z H s)(h:y9 X.K H a xs):∃its:Yf,js xs its/\IsTup s.heap a its.toArray/\xs.length<=sizeLine:=by
 rcases h with h|⟨o,its,n,hk,hc,hs,hz,r⟩
 .obtain⟨z,its,r,p⟩:=h.ok I.hok;exact⟨its,r,p,z.1⟩
 .refine⟨its.toList,r,⟨o,I.kIn a o hk,hc,n,()⟩,?_⟩;have e:=r.length
  simp_all
def Inv.list_inj (I:Inv X Y Z H s)(h:qy X.K H a xs)(h':qy X.K H a ys):xs=ys:=by
 obtain⟨its,r,⟨o,n,e,_,_,d⟩,_⟩:=I.list h;obtain⟨b,c,⟨f,g,i,_,_,j⟩,_⟩:=I.list h';have:its=b:=by simp_all
 subst this;exact r.inj c
def Inv.tuple_inj (I:Inv X Y Z H s)(h:y9 X.K H a xs)(h':y9 X.K H a ys):xs=ys:=by
 obtain⟨its,r,⟨o,e,_,n,d⟩,_⟩:=I.tuple h;obtain⟨b,c,⟨f,g,_,i,j⟩,_⟩:=I.tuple h';have:its=b:=by simp_all
 subst this;exact r.inj c
end
abbrev Cx.wish (X:Cx)(E:Ya):Cx:={ X with xe:=E }
abbrev Cx.nox (X:Cx):Cx:=X.wish λ_ _=>False
theorem Cx.Ok.wish {X:Cx}(ok:X.Ok)(E:Ya):(X.wish E).Ok:=
 ⟨ok.mod,ok.kind,ok.glob,ok.blt,ok.above,ok.inj,ok.has,ok.cab,ok.hd,ok.frames,ok.stk,ok.exf,ok.bs,ok.bsz,ok.noex,ok.exfs,ok.funs,ok.frf⟩
def Cx.Ok.unwish {X:Cx}{E:Ya}(ok:(X.wish E).Ok):X.Ok:=
 ⟨ok.mod,ok.kind,ok.glob,ok.blt,ok.above,ok.inj,ok.has,ok.cab,ok.hd,ok.frames,ok.stk,ok.exf,ok.bs,ok.bsz,ok.noex,ok.exfs,ok.funs,ok.frf⟩
section
variable {X:Cx}{Y:Yb}{Z: St}{H:Hp}{s:Shared}{E:Ya}
theorem Inv.wish (I:Inv X Y Z H s)(E):Inv (X.wish E) Y Z H s:=⟨I.ok.wish E,I.os,I.bare,I.base,I.loc,I.cell,I.free,I.freeC,I.pin,I.hok,I.len⟩
theorem Inv.unwish (I:Inv (X.wish E) Y Z H s):Inv X Y Z H s:=⟨I.ok.unwish,I.os,I.bare,I.base,I.loc,I.cell,I.free,I.freeC,I.pin,I.hok,I.len⟩
theorem SP.unwish {D:Ends}{f:Flow}{s':Shared}(h:SP (X.wish E) Y D f s'):SP X Y D f s':=by
 cases f with
 |next=>obtain⟨a,b,I,q⟩:=h;exact⟨a,b,I.unwish,q⟩
 |brk=>obtain⟨a,b,I,q⟩:=h;exact⟨a,b,I.unwish,q⟩
 |cont=>obtain⟨a,b,I,q⟩:=h;exact⟨a,b,I.unwish,q⟩
 |ret u=>obtain⟨v,a,b,I,r,q⟩:=h;exact⟨v,a,b,I.unwish,r,q⟩
theorem qI.nox {st:List Stmt}{t:TS}(h:qI X.nox st t):qI X st t:=λY s Z H D I a =>
 Zc (h Y s Z H D (I.wish _) a) (λ_ _ q=>q.unwish) ()
end
section
variable {X:Cx}{st:Stmt}{rest:List Stmt}{t u:TS}{e:Expr}{te:TE}{pos:Pos}
def u3:TS:=λD Z H=>D.nx Z H
def mr (t u:TS):TS:=λD Z H=>t { D with nx:=u D } Z H
def An:qI X [] u3:=λ_ _ Z H _ I h=>wpAny_execs_nil ⟨Z,H,I,h⟩
def XN (a:PS X st t)(b:qI X rest u):qI X (st::rest) (mr t u):=by
 intro Y s Z H D I h;refine wpAny_execs_cons (jH (a Y s Z H { D with nx:=u D } I h) λf c q=>?_);cases f with
 |next =>
  obtain⟨g,i,j,q⟩:=q;exact b Y c g i D j q
 |ret v=>exact q
 |brk=>exact q
 |cont=>exact q
def Cf (a:PS X st t):qI X [st] t:=by
 intro Y s Z H D I h;refine wpAny_execs_cons (jH (a Y s Z H D I h) λf b q=>?_)
 grind[wpAny_execs_nil]
def MO:TS:=λD Z H=>D.bk Z H
def MP:PS X (.Break pos) MO:=λ_ _ Z H _ I h=>wpAny_Break ⟨Z,H,I,h⟩
def Inv.quiet {Y:Yb}{Z: St}{H:Hp}{s:Shared}(I:Inv X Y Z H s):interactive X.env=false:=by simp[interactive,I.ok.kind]
def uA (te:TE):TS:=λD Z H=>te Z H λ_ a=>D.nx Z a
def Cg (a:PE X e te)(hs:swapsWith e none pos.line X.env=pure false:=by rfl):PS X (.Expr e pos) (uA te):=λY s Z H D I h=>wpAny_Expr_any (jH (a Y s Z H _ I h) λv g ⟨x,b,c,i,f⟩=>⟨Z,b,c,f⟩) I.quiet hs
def ms (te:TE):TS:=λD Z H=>te Z H D.rt
def Ao (a:PE X e te):PS X (.Return (some e) pos) (ms te):=λY s Z H D I h=>wpAny_Return_some (jH (a Y s Z H _ I h) λv i ⟨x,b,c,f,g⟩=>⟨x,Z,b,c,f,g⟩)
def mv (c:TT)(t u:TS):TS:=λD Z H=>c Z H λb a=>if b=true then t D Z a else u D Z a
def Ap {c:Expr}{a b:List Stmt}{f:TT}(m:PT X c f)(n:qI X a t)(o:qI X b u):PS X (.If c a b pos) (mv f t u):=by
 intro Y s Z H D I h;refine wpAny_If (jH (m Y s Z H _ I h) λd g ⟨i,j,l⟩=>?_);cases d with
 |true=>exact n Y g Z i D j l
 |false=>exact o Y g Z i D j l
end
abbrev TG:=V->St->Hp->(St->Hp->Prop)->Prop
abbrev vt:=YE->St->Hp->(St->Hp->Prop)->Prop
def PG (X:Cx)(a:Expr)(t:TG):Prop:=
 ∀(Y:Yb) (s:Shared) (Z: St) (H:Hp) (v:V) (u:Value) (Q:St->Hp->Prop),Inv X Y Z H s->ju v u->t v Z H Q ->
  YI X (assign a X.env u) (λ_ s'=>∃b c,Inv X Y b c s'/\Q b c) X.xe s
def bV (X:Cx)(f:Ym)(t:vt):Prop:=
 ∀(Y:Yb) (s:Shared) (Z: St) (H:Hp) (a:YE) (b:Yf) (Q:St->Hp->Prop),Inv X Y Z H s->js a b->t a Z H Q ->
  YI X (assignInOrder ((assignEach f X.env).map (·.2)) b) (λ_ s'=>∃c e,Inv X Y c e s'/\Q c e) X.xe s
abbrev vB:=V->V->V->Hp->(Hp->Prop)->Prop
def fY (X:Cx)(t:vB):Prop:=
 ∀(Y:Yb) (s:Shared) (Z: St) (H:Hp) (o i v:V) (a b u:Value) (Q:Hp->Prop),Inv X Y Z H s->ju o a->ju i b->ju v u->t o i v H Q ->
  YI X (setItem a b u) (λ_ s'=>∃c,Inv X Y Z c s'/\Q c) X.xe s
section
variable {X:Cx}{pos:Pos}
def KR (i:Nat):TG:=λv Z H Q=>Q (Z.set i (some v)) H
def JZ {i:Nat}{x:Str}(a:X.N.Nodup)(b:X.N[i]? = some x)(c:yT X.env.scope x)(e:X.fn x=true\/X.env.scope.names.lookup x=some .local:=by trivial):PG X (.Name x pos) (KR i):=λY s Z H v u Q I r h=>wpAny_assign_Name (Am I a b c r (λs' f=>⟨_,H,f,h⟩) e)
def gn:vt:=λa Z H Q=>a=[]/\Q Z H
def E8 (t:TG)(u:vt):vt:=λa Z H Q=>∃v r,a=v::r/\t v Z H λb c=>u r b c Q
def QY:bV X [] gn:=λY s Z H a b Q I r h=>have ⟨e,h⟩:=h;assignInOrder_nil ⟨Z,H,I,h⟩
def JX {e:Expr}{es:Ym}{t:TG}{u:vt}(a:PG X e t)(b:bV X es u)
 (hs:(assignEach (e::es) X.env).map (·.2)=assign e X.env::(assignEach es X.env).map (·.2):=by rfl):bV X (e::es) (E8 t u):=by
 intro Y s Z H n o Q I r h;obtain⟨v,p,c,h⟩:=h;subst c;cases r with
 |cons r f =>
  rw[hs];exact assignInOrder_cons (jH (a Y s Z H _ _ _ I r h) λ_ g ⟨i,j,l,m⟩=>(b Y g i j _ _ Q l f m))
def gj (K:W.Frag)(n:Nat)(t:vt):TG:=λv Z H Q=>∃a b,v=.ref a/\y9 K H a b/\b.length=n/\t b Z H Q
def QZ {es:Ym}{k:Nat}{t:vt}{n:Nat}(g:X.calm=true)(h:bV X es t)
 (i:(assignEach es X.env).length=n:=by rfl) (c:(assignEach es X.env).findIdx? (·.1)=none:=by rfl):PG X (.Tuple es k pos) (gj X.K n t):=by
 intro Y s Z H v u Q I r f;obtain⟨a,j,l,m,p,f⟩:=f;subst l;cases r;obtain⟨its,q,w,hz⟩:=I.tuple m;refine assign_Tuple_tuple (I.ok.hd g) w (by simp[i,<- p,q.length]) c λh' x=>?_;have y:Inv X Y Z H { s with heap:=h' }:=I.kept λb o e=>x b o (Zi (Zk e)) e;exact h Y _ Z H j _ Q y () f
def y0 (a b:TE)(t:vB):TG:=λv Z H Q=>a Z H λo c=>b Z c λi e=>t o i v e λf=>Q Z f
def MQ {o i:Expr}{c e:TE}{t:vB}(f:PE X o c)(g:PE X i e)(hs:fY X t)
 (G:∀v,assign (.Subscript o i pos) X.env v=(do
  let a <- holding [v] (eval o X.env)
  let b <- holding [v,a] (eval i X.env)
  standAt pos
  holding [v,a,b] (setItem a b v)
  release [v,a,b] []):=by intro _;rfl):PG X (.Subscript o i pos) (y0 c e t):=λY s Z H v u Q I r h=>Za (wpAny_holding (jH (f Y s Z H _ I h) λa j ⟨x,l,m,n,p⟩=>(Za (wpAny_holding (jH (g Y j Z l _ m p) λb q ⟨y,w,z,A,B⟩=>(Za (wpAny_standAt (Za (wpAny_holding (jH (hs Y q Z w x y v a b u _ z n A r B) λ_ J ⟨C,E,F⟩=>(wpAny_release ⟨Z,C,E,F⟩)))))))))))
def zJ (a:TE)(g:TG):TS:=λD Z H=>a Z H λx b=>g x Z b D.nx
def E9 {tg e:Expr}{a:TE}{g:TG}(b:PE X e a)(c:PG X tg g)(hs:swapsWithSole [tg] e pos.line X.env=pure false:=by rfl)(f:swappedStores [tg] e X.env=pure none:=by rfl)
 (i:(assignEach [tg] X.env).map (·.2)=[assign tg X.env]:=by rfl):PS X (.Assign [tg] e pos) (zJ a g):=by
 intro Y s Z H D I h;refine wpAny_Assign_stores (jH (b Y s Z H _ I h) λv j ⟨x,l,m,n,o⟩=>?_) hs f;rw[i];exact jH (c Y j Z l x v _ m n o) λ_ p q=>q
def Ch {i:Nat}{x:Str}{e:Expr}{b:TE}{a:Pos}(c:X.N.Nodup)(f:X.N[i]? = some x)(g:yT X.env.scope x)(j:PE X e b)(hs:swapsWith e (some (.Name x a)) pos.line X.env=pure false:=by rfl)(l:X.fn x=true\/X.env.scope.names.lookup x=some .local:=by trivial):
 PS X (.Assign [.Name x a] e pos) (zJ b (KR i)):=λY s Z H D I h=>wpAny_Assign_Name (jH (j Y s Z H _ I h) λv r ⟨y,m,n,o,p⟩=>(Am n c f g o (λt q=>⟨_,m,q,p⟩) l)) hs
end
structure It where
 go:Nat->Hp->Prop
 yld:Nat->Hp->V->Hp->Prop
 stop:Nat->Hp->Prop
def xc (X:Cx)(Y:Yb)(H:Hp)(b:Addr):Prop:=
 H b=none/\b≠X.env.locals/\b∉X.fs/\(b∈X.ex\/X.s₀.heap.objs.size<=b)/\(∀x c,X.env.cells.lookup x=some c->c≠b)/\∀p∈X.pn++Y,p.1≠b
def Inv.fpOk {X:Cx}{Y:Yb}{Z: St}{H f:Hp}{s:Shared}{b:Addr}(I:Inv X Y Z H s)(a:s.heap.objs.size<=b)(g:f b=none):xc X Y f b:=by
 refine⟨g,U6 (Zg I.lt a),I.nofs a,.inr (Zh I.sz a),λx c e z=>?_,λp hp z=>?_⟩
 .obtain⟨v,q⟩:=I.cell x c e;exact Zn (Zg q.lt (by rwa [z])) (Zy _)
 .exact Zn (Zg (Zk (I.pin p hp).1) (by rwa [z])) (Zy _)
structure Turn (P:Program)(w:World)(K:W.Frag)(tg:Expr)(J:It)(fp:Yl)(it:Addr)(tn:Nat->Heap->Prop):Prop where
 mem:it∈fp
 obj:∀i h,tn i h->∀b∈fp,∃o,h.get? b=some o/\∀v,o.data ≠ .cell v
 keep:∀i h h',tn i h->(∀b∈fp,∀o,h.get? b=some o->h'.get? b=some o)->tn i h'
 item:∀(X:Cx),X.prog=P->X.w=w->X.K=K->X.calm=true->∀(i:Nat) (Y:Yb) (s:Shared) (Z: St) (H:Hp) (E:Ya),Inv X Y Z H s->(∀b∈fp,xc X Y H b)->tn i s.heap->J.go i H ->
  wpAny (model P w) X.A (pyNext (.ref it)) (λr s1=>∃u,r=some u /\
   wpAny (model P w) X.A (letOwnedTupleGo tg (.ref it) u) (λ_ s2=>∃x H',Inv X Y Z H' s2/\ju x u/\J.yld i H x H'/\tn (i+1) s2.heap/\∀b∈fp,H' b=none) E s1) E s
 done:∀(X:Cx),X.prog=P->X.w=w->X.K=K->X.calm=true->∀(i:Nat) (Y:Yb) (s:Shared) (Z: St) (H:Hp) (E:Ya),Inv X Y Z H s->(∀b∈fp,xc X Y H b)->tn i s.heap->J.stop i H ->
  wpAny (model P w) X.A (pyNext (.ref it)) (λr s1=>r=none/\Inv X Y Z H s1) E s
 self:∀(A:Around) (i:Nat) (s:Shared) (Q:Ya) (E:Ya),tn i s.heap->Q (.ref it) s->wpAny (model P w) A (pyIter (.ref it)) Q E s
abbrev TI:=St->Hp->(It->Hp->Prop)->Prop
def sJ (X:Cx)(Y:Yb)(Z: St)(tg:Expr)(R:It->Hp->Prop)(a:Value)(e:Shared):Prop:=
 ∃(it:Addr) (f:Yl) (g:Nat->Heap->Prop) (J:It) (c:Hp),a=.ref it/\Inv X Y Z c e/\Turn X.prog X.w X.K tg J f it g/\g 0 e.heap/\(∀b∈f,xc X Y c b)/\R J c
def PI (X:Cx)(tg a:Expr)(wi:TI):Prop:=
 ∀(Y:Yb) (s:Shared) (Z: St) (H:Hp) (R:It->Hp->Prop),Inv X Y Z H s->wi Z H R ->
  YI X (eval a X.env) (λv b=>YI X (pyIter v) (sJ X Y Z tg R) X.xe b) X.xe s
def Ci {M:Model}{A:Around}{E:Ya}{s:Shared}{tg:Expr}{it:Addr}{u:Value}{o:Obj}{n:String}{b:Yn}{Q:Unit->YC}(c:s.heap.get? it=some o)(e:o.cls=.type n)(f:o.data=.fields b)
 (g: ["enumerate", "zip", "dict_itemiterator", "dict_reverseitemiterator", "odict_iterator", "itertools.zip_longest", "itertools.pairwise"].contains n=false) (a:Q Yt s):wpAny M A (letOwnedTupleGo tg (.ref it) u) Q E s:=by
 cases tg<;>first
  |exact Zb a
  | (cases u<;>first
   |exact Zb a
   | (
    refine Za (wpAny_load c ?_);rw[e,f];show wpAny M A (if(["enumerate", "zip", "dict_itemiterator", "dict_reverseitemiterator", "odict_iterator", "itertools.zip_longest", "itertools.pairwise"].contains n&&b[0]? == some (rawInt _))=true then _ else _) Q E s;rw[Ze (by intro h;rw[g,Bool.false_and] at h;cases h)];exact Zb a))
def sN (K:W.Frag)(a:Addr):It:=
 ⟨λi H=>∃b x,qy K H a b/\b[i]? = some x,λi H x c=>c=H/\∀b,qy K H a b->b[i]? = some x,λi H=>∃b,qy K H a b/\b.length<=i⟩
def sM (K:W.Frag)(a:Addr):It:=
 ⟨λi H=>∃b x,y9 K H a b/\b[i]? = some x,λi H x c=>c=H/\∀b,y9 K H a b->b[i]? = some x,λi H=>∃b,y9 K H a b/\b.length<=i⟩
def bX (lo:Int)(n:Nat):It:=⟨λi _=>i<n,λi H x a=>a=H/\x=.int (lo+i),λi _=>n<=i⟩
def MS {P:Program}{w:World}{K:W.Frag}{tg:Expr}(a it):Turn P w K tg (sN K a) [it] it (λi h=>h.IsListIter it a i) where
 mem:=by simp
 obj:=λi h st b f=>by
  obtain⟨o,e,c,d⟩:=st
  simp_all
 keep:=λi h h' st k=>st.at λo e=>k it () o e
 item:=by
  intro X m n q C i Y s Z H E I j st r;subst m n q;obtain⟨G,x,l,F⟩:=r;obtain⟨its,t,p,hz⟩:=I.list l;obtain⟨u,R,J⟩:=t.get F;obtain⟨v,y,L,z,A,B⟩:=j it ();refine wpAny_pyNext_list_item st p.isList (x:=u) () λh' g M=>?_;have N:Inv X Y Z H { s with heap:=h' }:=I.turned (λb o f e=>(M.2 b f).trans e) v y z A B;obtain⟨o,e,c,d⟩:=id g;exact⟨u,rfl,Ci e c d (by decide) ⟨x,H,N,J,⟨rfl,λys O=>by rwa [I.list_inj O l]⟩,g,λb f=>(j b f).1⟩⟩
 done:=by
  intro X m n q C i Y s Z H E I j st r;subst m n q;obtain⟨G,l,F⟩:=r;obtain⟨its,t,p,hz⟩:=I.list l;obtain⟨v,y,L,z,A,B⟩:=j it ();have S:=t.length;exact wpAny_pyNext_list_end (I.ok.hd C) st p.isList (by simp;lia) λh' Q=>⟨rfl,I.turned (λb o f e=>Q b o f e) v y z A B⟩
 self:=λ_ _ _ _ _ st h=>wpAny_pyIter_listiter st h
def MT {P:Program}{w:World}{K:W.Frag}{tg:Expr}(a it):Turn P w K tg (sM K a) [it] it (λi h=>h.IsTupleIter it a i) where
 mem:=by simp
 obj:=λi h st b g=>by
  obtain⟨o,e,c,d⟩:=st
  simp_all
 keep:=λi h h' st k=>st.at ()
 item:=by
  intro X l m n C i Y s Z H E I q st r;subst l m n;obtain⟨G,x,j,F⟩:=r;obtain⟨its,t,p,hz⟩:=I.tuple j;obtain⟨u,J,L⟩:=t.get F;obtain⟨v,y,M,z,A,B⟩:=q it ();refine wpAny_pyNext_tuple_item st (p) (by simpa using J) λh' f N=>?_;have O:Inv X Y Z H { s with heap:=h' }:=I.turned (λb o g e=>(N.2 b g).trans e) v y z A B;obtain⟨o,e,c,d⟩:=id f;exact⟨u,rfl,Ci e c d (by decide) ⟨x,H,O,L,⟨rfl,λys Q=>by rwa [I.tuple_inj Q j]⟩,f,()⟩⟩
 done:=by
  intro X l m n C i Y s Z H E I q st r;subst l m n;have ⟨G,j,F⟩:=r;have ⟨its,t,p,hz⟩:=I.tuple j;have ⟨v,y,M,z,A,B⟩:=q it ();have S:=t.length;exact wpAny_pyNext_tuple_end (I.ok.hd C) st (p) (by simp;lia) λh' R=>⟨rfl,I.turned (λb o g e=>R b o g e) v y z A B⟩
 self:=λ_ _ _ _ _ st h=>wpAny_pyIter_tupleiter st h
def MU {P:Program}{w:World}{K:W.Frag}{tg:Expr}(it)(lo)(n):Turn P w K tg (bX lo n) [it] it (λi h=>IsRangeIter h it (lo+(i:Nat)*1) ((n:Int)-(i:Nat)) 1) where
 mem:=by simp
 obj:=by grind
 keep:=by grind
 item:=by
  intro X r u x c i Y s Z H E I f st g;obtain⟨j,l,y,m,p,q⟩:=f it ();refine(Walks.range (I.ok.hd c) it lo 1 n).item i s _ _ g st λv h' tk z a F=>?_;obtain⟨t,rfl⟩:=z;have A:Inv X Y Z H { s with heap:=h',toks:=tk }:=I.turned () j l m p q;refine⟨_,rfl,Ci a rfl rfl (by decide) ⟨.int (lo+i),H,A,⟨t,?_⟩,⟨rfl,rfl⟩,a,()⟩⟩;simp
 done:=by
  intro X r u x c i Y s Z H E I f st g;obtain⟨j,l,y,m,p,q⟩:=f it ();exact wpAny_pyNext_range_end (I.ok.hd c) st (by have:n<=i:=g;lia) λh' B=>⟨rfl,I.turned (λb o C e=>B b o C e) j l m p q⟩
 self:=λ_ _ _ _ _ st h=>wpAny_pyIter_rangeiter st h
section
variable {X:Cx}{tg:Expr}
def gb (K:W.Frag)(c:TE):TI:=λZ H R=>c Z H λx b=>∃a,x=.ref a/\(∃e,qy K b a e)/\R (sN K a) b
def ny (K:W.Frag)(c:TE):TI:=λZ H R=>c Z H λx b=>∃a,x=.ref a/\(∃e,y9 K b a e)/\R (sM K a) b
def MV {l:Expr}{g:TE}(i:PE X l g):PI X tg l (gb X.K g):=by
 intro Y s Z H R I h;refine jH (i Y s Z H _ I h) λv f ⟨x,j,c,m,n⟩=>?_;obtain⟨a,e,⟨u,r⟩,q⟩:=n;subst e;cases m;obtain⟨its,w,p,hz⟩:=c.list r;refine wpAny_pyIter_list p.isList (⟨f.heap.objs.size,[f.heap.objs.size],_,_,j,rfl,c.kept λb o e=>Zq _ e,MS a _,⟨_,Zr _ rfl,rfl,rfl⟩,λb t=>?_,q⟩);have e:b=f.heap.objs.size:=by simpa using t
 subst e;exact c.fpOk (Zf _) (c.hok.fresh (Zf _))
def MW {l:Expr}{g:TE}(i:PE X l g):PI X tg l (ny X.K g):=by
 intro Y s Z H R I h;refine jH (i Y s Z H _ I h) λv f ⟨x,j,c,m,n⟩=>?_;obtain⟨a,e,⟨u,r⟩,q⟩:=n;subst e;cases m;obtain⟨its,w,p,hz⟩:=c.tuple r;refine wpAny_pyIter_tuple (p) (⟨f.heap.objs.size,[f.heap.objs.size],_,_,j,rfl,c.kept λb o e=>Zq _ e,MT a _,⟨_,Zr _ rfl,rfl,rfl⟩,λb t=>?_,q⟩);have e:b=f.heap.objs.size:=by simpa using t
 subst e;exact c.fpOk (Zf _) (c.hok.fresh (Zf _))
def MX {Y:Yb}{Z: St}{H:Hp}{s:Shared}{R:It->Hp->Prop}{E:Ya}{lo a:Int}{t u v:Tok}{tk:Nat}(I:Inv X Y Z H s)(f: -(2 ^ 62)<=lo)(g:lo<2 ^ 62)(h: -(2 ^ 62)<=a)(i:a<2 ^ 62)
 (q:R (bX lo (a-lo).toNat) H):YI X (pyIter (.ref s.heap.objs.size)) (sJ X Y Z tg R) E { s with heap:=s.heap.push { cls:=.type "range",data:=.fields #[.int lo t,.int a u,.int 1 v] },toks:=tk }:=by
 refine wpAny_pyIter_range (IsRange.new ..) (small_one f g h i) ?_;have c:Inv X Y Z H { s with heap:=s.heap.push { cls:=.type "range",data:=.fields #[.int lo t,.int a u,.int 1 v] },toks:=tk }:=I.kept λb o e=>Zq _ e;refine⟨(s.heap.push { cls:=.type "range",data:=.fields #[.int lo t,.int a u,.int 1 v] }).objs.size,[(s.heap.push { cls:=.type "range",data:=.fields #[.int lo t,.int a u,.int 1 v] }).objs.size],_,_,H,rfl,
  c.kept λb o e=>Zq _ e,MU _ lo (a-lo).toNat,?_,λb m=>?_,q⟩
 .have j:lo+((0:Nat):Int)*1=lo:=by simp
  have l:(((a-lo).toNat:Nat):Int)-((0:Nat):Int)=Builtin.Range.rangeSize lo a 1:=by grind[rangeSize_one]
  rw[j,l];exact Zr _ rfl
 .have e:b=(s.heap.push { cls:=.type "range",data:=.fields #[.int lo t,.int a u,.int 1 v] }).objs.size:=by simp_all
  subst e;exact c.fpOk (Zf _) (c.hok.fresh (Zf _))
def kZ (a:TA):TI:=λZ H R=>a Z H λb c=>∃j:Int,b=[.int j] /\ -(2 ^ 62)<=j/\j<2 ^ 62/\R (bX 0 j.toNat) c
def MY {a:Expr}{f:TA}{p b:Pos}(g:Gl X "range")(i:X.mg "range" = none)(l:PA X [a] f)(hs:starEach [a] X.env=[(false,eval a X.env)]:=by rfl):PI X tg (.Call (.Name "range" p) [a] [] b) (kZ f):=by
 intro Y s Z H R I h;refine Call_ (Xi I g i boot_range (PyProof.Rows.callWith_type1 (jH (l b Y s Z H _ I h) λv w ⟨x,y,m,n,c⟩=>?_) hs rfl));obtain⟨j,e,c,o,q⟩:=c;subst e;cases n with
 |cons r u =>
  cases u;obtain⟨t,rfl⟩:=r;exact call_range_1 (MX m () () c o (by simpa using q))
def mw (wi:TI)(g:TG)(e:TS):TS:=λD Z H=>wi Z H λJ f=>∃W:Nat->Nat->St->Hp->Prop,(∃m,W 0 m Z f)/\∀i m Z H,W i m Z H ->
 (J.stop i H/\D.nx Z H)\/(J.go i H/\∃N:St->Hp->Prop,(∀b a,N b a->∃c,c<m/\W (i+1) c b a)/\∀x a,J.yld i H x a->g x Z a λh j=>e { D with nx:=N,ct:=N,bk:=D.nx } h j)
def XO (a:Yl)(h:Heap):Yb:=a.filterMap λb=>(h.get? b).map λo=>(b,o)
def Aq {a:Yl}{h:Heap}{b:Addr}{o:Obj}(c:b∈a)(e:h.get? b=some o):(b,o)∈XO a h:=Jr.mpr ⟨b,c,by rw[e];rfl⟩
def MZ {a:Yl}{h:Heap}{p:Addr×Obj}(hp:p∈XO a h):p.1∈a/\h.get? p.1=some p.2:=by
 obtain⟨b,c,e⟩:=Jr.mp hp;cases q:h.get? b with
 |none=>simp_all
 |some o =>
  grind
def Inv.pinned {Y:Yb}{Z: St}{H:Hp}{s:Shared}{a:Yl}(I:Inv X Y Z H s)(c:∀b∈a,xc X Y H b)(g:∀b∈a,∃o,s.heap.get? b=some o/\∀v,o.data ≠ .cell v):Inv X (Y++XO a s.heap) Z H s:=
 I.pins_of λp hp=>(Jb.mp hp).elim (λz=>I.pin p ()) λz=>by
  obtain⟨f,e⟩:=MZ z;obtain⟨h,i,j,_⟩:=c p.1 f
  grind
def Inv.unpinned {Y pl:Yb}{Z: St}{H:Hp}{s:Shared}(I:Inv X (Y++pl) Z H s):Inv X Y Z H s:=I.pins_of λp hp=>I.pin p ()
def EA {a:Expr}{t:List Stmt}{wi:TI}{g:TG}{S:TS}{L:Pos}(hp:PassesOwn (model X.prog X.w) X.A X.env X.xe)(U:X.calm=true)(hi:PI X tg a wi)(hg:PG X tg g)(c:qI X t S)
 (hs:∀x,foldedSetIterable a X.env x=pure x:=by intro _;rfl):PS X (.For tg a t [] L) (mw wi g S):=by
 intro Y s Z H D I h;refine wpAny_For (jH (hi Y s Z H _ I h) λv s1 h1=>jH h1 λitv s2 h2=>?_) hs;obtain⟨it,y,tn,J,H2,e,I2,T,M,f2,W,⟨m0,w0⟩,z⟩:=h2;subst e;have j:∀{q:Hp},(∀b∈y,q b=none)->∀b∈y,xc X Y q b:=λhn b c=>⟨hn b c,(f2 b c).2⟩;refine codeAny_forLoop_any (λn s'=>∃i A q,Inv X Y A q s'/\tn i s'.heap/\(∀b∈y,q b=none)/\W i n A q) ?_ m0 ⟨0,Z,H2,I2,M,λb c=>(f2 b c).1,w0⟩;rintro n s3 ⟨i,B,K,I3,C,E,w3⟩;rcases z i n B K w3 with ⟨F,qn⟩|⟨go,N,hN,step⟩
 .refine wpAny_passesOwn hp (jH (T.done X rfl rfl rfl U i Y s3 B K X.xe I3 (j E) C F) λr s4 ⟨O,I4⟩=>?_);subst O;exact wpAny_execs_nil ⟨B,K,I4,qn⟩
 .refine wpAny_passesOwn hp (jH (T.item X rfl rfl rfl U i Y s3 B K X.xe I3 (j E) C go) λr s4 ⟨u,O,h4⟩=>?_);subst O;refine wpAny_passesOwn hp (jH h4 λ_ s5 ⟨x,H5,I5,r5,y5,wK,P⟩=>?_);have Q:=I5.pinned (j P) (T.obj _ _ wK);refine wpAny_passesOwn hp (jH (hg _ s5 B H5 x u _ Q r5 (step x H5 y5)) λ_ s6 ⟨Z6,H6,I6,q6⟩=>?_);refine wpAny_passesOwn hp (jH (c _ s6 Z6 H6 _ I6 q6) λf R w=>?_);have again:∀{l:St} {H7:Hp},Inv X (Y++XO y s5.heap) l H7 R->N l H7->∃m,m<n/\∃i A q,Inv X Y A q R/\tn i R.heap/\(∀b∈y,q b=none)/\W i m A q:=λ{l H7} p G=>by
   obtain⟨m',hm,w7⟩:=hN l H7 G;refine⟨m',hm,i+1,l,H7,p.unpinned,T.keep _ _ _ wK λb c o e=>(p.pin (b,o) (Ut _ (Ut _ (Aq c e)))).1,λb c=>?_,w7⟩;obtain⟨o,e,d⟩:=T.obj _ _ wK b c;exact(p.pin (b,o) (Ut _ (Ut _ (Aq c e)))).2.1
  cases f with
  |next=>obtain⟨l,H7,p,G⟩:=w;exact again p G
  |cont=>obtain⟨l,H7,p,G⟩:=w;exact again p G
  |brk=>obtain⟨l,H7,p,w⟩:=w;exact⟨l,H7,p.unpinned,w⟩
  |ret v=>obtain⟨x7,l,H7,p,r7,w⟩:=w;exact⟨x7,l,H7,p.unpinned,r7,w⟩
end
abbrev R2:=V->V->Hp->VK->Prop
def xb (X:Cx)(f:Value->Value->Sem Value)(r:R2):Prop:=
 ∀(Y:Yb) (s:Shared) (Z: St) (H:Hp) (x y:V) (v u:Value) (Q:VK),Inv X Y Z H s->ju x v->ju y u->r x y H Q ->
  YI X (f v u) (EP X Y Z Q) X.xe s
def wW (X:Cx)(f:Value->Sem Value)(r:V->Hp->VK->Prop):Prop:=
 ∀(Y:Yb) (s:Shared) (Z: St) (H:Hp) (x:V) (v:Value) (Q:VK),Inv X Y Z H s->ju x v->r x H Q ->
  YI X (f v) (EP X Y Z Q) X.xe s
def qa (X:Cx)(f:Value)(r:YE->Hp->VK->Prop):Prop:=
 ∀(Y:Yb) (s:Shared) (Z: St) (H:Hp) (a:YE) (b:Yf) (Q:VK),Inv X Y Z H s->js a b->r a H Q ->
  YI X (call f b) (EP X Y Z Q) X.xe s
def vm (r:R2)(a b:TE):TE:=λZ H Q=>a Z H λx c=>b Z c λy e=>r x y e Q
def rM (r:V->Hp->VK->Prop)(a:TE):TE:=λZ H Q=>a Z H λx b=>r x b Q
def rI (C:Int->Int->Prop)(g:Int->Int->V):R2:=λx y H Q=>∃i j,x=.int i/\y=.int j/\C i j/\Q (g i j) H
def vo (g:Int->Int->V):R2:=λx y H Q=>∃i j,x=.int i/\y=.int j/\Q (g i j) H
def rU (g:Int->V):V->Hp->VK->Prop:=λx H Q=>∃i,x=.int i/\Q (g i) H
section
variable {X:Cx}{a b c:Expr}{ta tb tc:TE}{pos:Pos}
def vA (j:PE X a ta)(l:PE X b tb){Y:Yb}{s:Shared}{Z: St}{H:Hp}{R:V->V->Hp->Prop}(I:Inv X Y Z H s)
 (h:ta Z H λx i=>tb Z i λy e=>R x y e) {Q:Ya} {f:Value->Value->Sem Value}
 (m:∀v u g x y e,Inv X Y Z e g->ju x v->ju y u->R x y e->YI X (f v u) Q X.xe g):
 YI X (eval a X.env) (λv s₁=>YI X (eval b X.env) (λu s₂=>YI X (f v u) Q X.xe s₂) X.xe s₁) X.xe s:=jH (j Y s Z H _ I h) λv n ⟨x,i,o,p,q⟩=>(jH (l Y n Z i _ o q) λu g ⟨y,e,r,t,w⟩=>(m v u g x y e r p t w))
def EB {op:Operator}{r:R2}(e:xb X (binaryOp op) r)(f:PE X a ta)(g:PE X b tb):PE X (.BinOp a op b pos) (vm r ta tb):=λY s Z H Q I h=>wpAny_BinOp (vA f g I h λv u i x y j l m n q=>e Y i Z j x y v u Q l m n q)
def ki {op:UnaryOp}{r:V->Hp->VK->Prop}(e:wW X (unaryOp op) r)(f:PE X a ta):PE X (.UnaryOp op a pos) (rM r ta):=λY s Z H Q I h=>UnaryOp_ (jH (f Y s Z H _ I h) λv g ⟨x,i,j,l,m⟩=>e Y g Z i x v Q j l m)
def bi {f:Value->Value->Sem Value}{C:Int->Int->Prop}{g:Int->Int->Int}
 (rule:∀i j t u s Q E,C i j->Q (.int (g i j) s.toks) { s with toks:=s.toks+1 }->YI X (f (.int i t) (.int j u)) Q E s):
 xb X f (rI C λi j=>.int (g i j)):=by
 intro Y s Z H x y v u Q I e l h;obtain⟨i,j,rfl,rfl,m,q⟩:=h;obtain⟨t,rfl⟩:=e;obtain⟨t',rfl⟩:=l;exact rule i j t t' s _ _ m ⟨.int (g i j),H,I.tok _,⟨_,rfl⟩,q⟩
def kA {f:Value->Value->Sem Value}{g:Int->Int->Int}
 (rule:∀i j t u s Q E,Q (.int (g i j) s.toks) { s with toks:=s.toks+1 }->YI X (f (.int i t) (.int j u)) Q E s):
 xb X f (vo λi j=>.int (g i j)):=by
 intro Y s Z H x y v u Q I e l h;obtain⟨i,j,rfl,rfl,q⟩:=h;obtain⟨t,rfl⟩:=e;obtain⟨t',rfl⟩:=l;exact rule i j t t' s _ _ ⟨.int (g i j),H,I.tok _,⟨_,rfl⟩,q⟩
def v6 {f:Value->Value->Sem Value}{g:Int->Int->Bool}
 (rule:∀i j t u s Q E,Q (.bool (g i j)) s->YI X (f (.int i t) (.int j u)) Q E s):
 xb X f (vo λi j=>.bl (g i j)):=by
 intro Y s Z H x y v u Q I e l h;obtain⟨i,j,rfl,rfl,q⟩:=h;obtain⟨t,rfl⟩:=e;obtain⟨t',rfl⟩:=l;exact rule i j t t' s _ _ ⟨.bl (g i j),H,I,rfl,q⟩
def hU (i j:Int):Prop:=0<j/\j<1073741824
def hQ (i j:Int):Prop:=0<=j/\j<=1000000/\i.natAbs<2 ^ 64
def Na:xb X (binaryOp .Add) (vo λi j=>.int (i+j)):=kA λ_ _ _ _ _ _ _ q=>add_int q
def Nb:xb X (binaryOp .Sub) (vo λi j=>.int (i-j)):=kA λ_ _ _ _ _ _ _ q=>sub_int q
def Nc:xb X (binaryOp .FloorDiv) (rI hU λi j=>.int (i / j)):=bi λi j _ _ _ _ _ e q=>have f:=e.1;have g:=e.2;floordiv_int () (by rwa [Int.fdiv_eq_ediv_of_nonneg i ()]) (.inl (PyProof.noPylong_small ()))
def Nd:xb X (binaryOp .Mod) (rI (λ_ j=>0<j) λi j=>.int (i % j)):=bi λi j _ _ _ _ _ e q=>mod_int' () (by rwa [Int.fmod_eq_emod_of_nonneg i ()])
def Nf:xb X (binaryOp .Pow) (rI hQ λi j=>.int (i ^ j.toNat)):=bi λ_ _ _ _ _ _ _ e q=>pow_int_small e.1 e.2.1 e.2.2 q
def p6 {f:Value->Sem Value}{g:Int->Int}
 (rule:∀i t s Q E,Q (.int (g i) s.toks) { s with toks:=s.toks+1 }->YI X (f (.int i t)) Q E s):
 wW X f (rU λi=>.int (g i)):=by
 intro Y s Z H x v Q I e h;obtain⟨i,rfl,q⟩:=h;obtain⟨t,rfl⟩:=e;exact rule i t s _ _ ⟨.int (g i),H,I.tok _,⟨_,rfl⟩,q⟩
def Ng:wW X (unaryOp .USub) (rU λi=>.int (-i)):=p6 λ_ _ _ _ _ q=>neg_int q
end
def scal:V->V->Bool
 | .non,.non=>true | .non,.int _=>true | .int _,.non=>true | .non,.bl _=>true | .bl _,.non=>true | .non,.str _=>true | .str _,.non=>true
 | .int _,.int _=>true | .bl _,.bl _=>true | .str _,.str _=>true | .byt _,.byt _=>true
 | .int _,.str _=>true | .str _,.int _=>true | .bl _,.str _=>true | .str _,.bl _=>true
 |_,_=>false
def pK:R2:=λx y H Q=>scal x y=true/\Q (.bl (decide (x=y))) H
def pI:R2:=λx y H Q=>scal x y=true/\Q (.bl (!decide (x=y))) H
def EC {i j:Int}:decide (V.int i=V.int j)=(i == j):=by
 rw[Vf];simp
def ED {i j:Bool}:decide (V.bl i=V.bl j)=(i == j):=by
 rw[Vf];simp
def EE {i j:Str}:decide (V.str i=V.str j)=(i == j):=by
 rw[Vf];simp
def EF {i j:Array UInt8}:decide (V.byt i=V.byt j)=(i.toList == j.toList):=by
 rw[Vf];simp
section
variable {X:Cx}{a b c:Expr}{ta tb tc:TE}{pos:Pos}
def Qb {Y:Yb}{Z: St}{H:Hp}{s:Shared}{Q:VK}{k f:Bool}(I:Inv X Y Z H s)(q:Q (.bl k) H)(e:k=f):EP X Y Z Q (.bool f) s:=by
 subst e;exact⟨.bl k,H,I,rfl,q⟩
def k9:xb X (compareOp .Eq) pK:=by
 intro Y s Z H x y v u Q I f e h;obtain⟨hs,q⟩:=h;cases x with
 |non =>
  cases f;cases y with
  |non=>cases e;exact PySem.EqNone.eq_none_none (Qb I q ())
  |bl j=>cases e;exact PySem.EqNone.eq_none_bool (Qb I q ())
  |int j=>obtain⟨t',rfl⟩:=e;exact PySem.EqNone.eq_none_int (Qb I q ())
  |str j=>obtain⟨t',rfl⟩:=e;exact PySem.EqNone.eq_none_str (Qb I q ())
  |_=>exact Zn (show false=true from hs) Zj
 |bl i =>
  cases f;cases y with
  |non=>cases e;exact PySem.EqNone.eq_bool_none (Qb I q ())
  |bl j=>cases e;exact eq_bool (Qb I q ED)
  |str j=>obtain⟨t',rfl⟩:=e;exact PySem.EqMixed.eq_bool_str (Qb I q ())
  |_=>exact Zn (show false=true from hs) Zj
 |int i =>
  obtain⟨t,rfl⟩:=f;cases y with
  |non=>cases e;exact PySem.EqNone.eq_int_none (Qb I q ())
  |int j=>obtain⟨t',rfl⟩:=e;exact eq_int (Qb I q EC)
  |str j=>obtain⟨t',rfl⟩:=e;exact PySem.EqMixed.eq_int_str (Qb I q ())
  |_=>exact Zn (show false=true from hs) Zj
 |str i =>
  obtain⟨t,rfl⟩:=f;cases y with
  |non=>cases e;exact PySem.EqNone.eq_str_none (Qb I q ())
  |bl j=>cases e;exact PySem.EqMixed.eq_str_bool (Qb I q ())
  |int j=>obtain⟨t',rfl⟩:=e;exact PySem.EqMixed.eq_str_int (Qb I q ())
  |str j=>obtain⟨t',rfl⟩:=e;exact eq_str (Qb I q EE)
  |_=>exact Zn (hs) Zj
 |byt i =>
  obtain⟨t,rfl⟩:=f;cases y with
  |byt j=>obtain⟨t',rfl⟩:=e;exact W.eq_bytes (Qb I q EF)
  |_=>exact Zn (show false=true from hs) Zj
 |_=>cases y<;>exact Zn (show false=true from hs) Zj
def ku:xb X (compareOp .NotEq) pI:=by
 intro Y s Z H x y v u Q I f e h;obtain⟨hs,q⟩:=h;cases x with
 |non =>
  cases f;cases y with
  |non=>cases e;exact PySem.EqNone.ne_none_none (Qb I q ())
  |bl j=>cases e;exact PySem.EqNone.ne_none_bool (Qb I q ())
  |int j=>obtain⟨t',rfl⟩:=e;exact PySem.EqNone.ne_none_int (Qb I q ())
  |str j=>obtain⟨t',rfl⟩:=e;exact PySem.EqNone.ne_none_str (Qb I q ())
  |_=>exact Zn (show false=true from hs) Zj
 |bl i =>
  cases f;cases y with
  |non=>cases e;exact PySem.EqNone.ne_bool_none (Qb I q ())
  |bl j=>cases e;exact ne_bool (Qb I q (Zt not ED))
  |str j=>obtain⟨t',rfl⟩:=e;exact PySem.EqMixed.ne_bool_str (Qb I q ())
  |_=>exact Zn (show false=true from hs) Zj
 |int i =>
  obtain⟨t,rfl⟩:=f;cases y with
  |non=>cases e;exact PySem.EqNone.ne_int_none (Qb I q ())
  |int j=>obtain⟨t',rfl⟩:=e;exact ne_int (Qb I q (Zt not EC))
  |str j=>obtain⟨t',rfl⟩:=e;exact PySem.EqMixed.ne_int_str (Qb I q ())
  |_=>exact Zn (show false=true from hs) Zj
 |str i =>
  obtain⟨t,rfl⟩:=f;cases y with
  |non=>cases e;exact PySem.EqNone.ne_str_none (Qb I q ())
  |bl j=>cases e;exact PySem.EqMixed.ne_str_bool (Qb I q ())
  |int j=>obtain⟨t',rfl⟩:=e;exact PySem.EqMixed.ne_str_int (Qb I q ())
  |str j=>obtain⟨t',rfl⟩:=e;exact ne_str (Qb I q (Zt not EE))
  |_=>exact Zn (show false=true from hs) Zj
 |byt i =>
  obtain⟨t,rfl⟩:=f;cases y with
  |byt j=>obtain⟨t',rfl⟩:=e;exact W.ne_bytes (Qb I q (Zt not EF))
  |_=>exact Zn (hs) Zj
 |_=>cases y<;>exact Zn (show false=true from hs) Zj
def ky:xb X (compareOp .LtE) (vo λi j=>.bl (decide (i<=j))):=v6 λ_ _ _ _ _ _ _ q=>le_int q
def k7:xb X (compareOp .Gt) (vo λi j=>.bl (decide (j<i))):=v6 λ_ _ _ _ _ _ _ q=>gt_int q
def k8:xb X (compareOp .GtE) (vo λi j=>.bl (decide (j<=i))):=v6 λ_ _ _ _ _ _ _ q=>ge_int q
def Ql (b){op:CmpOp}(h:op ≠ .In:=by decide)(e:op ≠ .NotIn:=by decide):behindInMarks op b=false:=by
 cases b<;>first|rfl|(show(_&&(_||_)&&_)=false;simp_all)
def Nh {op:CmpOp}{r:R2}(e:xb X (compareOp op) r)(f:PE X a ta)(g:PE X b tb)(i:behindInMarks op b=false):PE X (.Compare a [op] [b] pos) (vm r ta tb):=λY s Z H Q I h=>wpAny_Compare1 (vA f g I h λv u j x y l m n o q=>e Y j Z l x y v u Q m n o q) i
def uz (t:TE):TT:=λZ H Q=>t Z H λx e=>∃k,x=.bl k/\Q k e
def EG {op:CmpOp}{r:R2}(f:xb X (compareOp op) r)(g:PE X a ta)(i:PE X b tb)(j:behindInMarks op b=false):PT X (.Compare a [op] [b] pos) (uz (vm r ta tb)):=by
 intro Y s Z H Q I h;refine wpAny_isTrue_Compare1 (jH (g Y s Z H _ I h) λv l ⟨x,m,n,o,p⟩=>jH (i Y l Z m _ n p) λu q ⟨y,t,w,A,B⟩ =>
  jH (f Y q Z t x y v u _ w o A B) λc J ⟨z,C,E,F,k,e,G⟩=>?_) j
 subst e;cases F;exact wpAny_truthy_bool ⟨C,E,G⟩
def Xj:(sizeLine:Nat)<2 ^ 63:=by decide
def Ni:xb X (binaryOp .Add) (λx y H Q=>∃i j,x=.str i/\y=.str j/\i.length+j.length<=sizeLine/\Q (.str (i++j)) H):=by
 intro Y s Z H x y v u Q I e f h;obtain⟨i,j,rfl,rfl,hz,q⟩:=h;obtain⟨t,rfl⟩:=e;obtain⟨t',rfl⟩:=f;exact add_str (λt' tk=>⟨.str (i++j),H,I.tok _,⟨_,rfl⟩,q⟩) hz
def Ka {x:V}{e:Yf}(r:js [x] e):∃u,e=[u]/\ju x u:=by
 cases r with
 |cons f g=>cases g;exact⟨_,rfl,f⟩
def Cj {x y:V}{e:Yf}(r:js [x,y] e):∃u f,e=[u,f]/\ju x u/\ju y f:=by
 cases r with
 |cons g h =>
  cases h with
  |cons i j=>cases j;exact⟨_,_,rfl,g,i⟩
def Nj (g:X.calm=true):qa X (.builtin "max") (λf H Q=>∃i j,f=[.int i,.int j]/\Q (.int (if j > i then j else i)) H):=by
 intro Y s Z H f l Q I r h;obtain⟨i,j,rfl,q⟩:=h;obtain⟨u,m,rfl,⟨t,rfl⟩,⟨t',rfl⟩⟩:=Cj r;refine max_two_ints (I.ok.hd g) λh' tk k=>⟨_,H,I.kept k,?_,q⟩;by_cases e:j > i
 .rw[Zd e,Zd e];exact⟨_,rfl⟩
 .rw[Ze e,Ze e];exact⟨_,rfl⟩
def Nk:qa X (.type "str") (λe H Q=>∃i,e=[.int i]/\i.natAbs.log2<1920/\Q (.str (toString i)) H):=by
 intro Y s Z H e f Q I r h;obtain⟨i,rfl,hz,q⟩:=h;obtain⟨u,rfl,t,rfl⟩:=Ka r;exact PySem.P.str_of_int hz ⟨.str _,H,I.tok _,⟨_,rfl⟩,q⟩
end
structure ObjM (h:Heap)(x dx C:Addr)(mA:Ye):Prop where
 obj:h.get? x=some (W.instObj C dx)
 ns:h.Ns1 dx mA
 ne:dx≠x
def Nl {h:Heap}{c:Addr}{mA:Ye}(n:h.Ns1 c mA):∃f,h.get? c=some f/\∀name,W.lookIn name f=some (mA name):=by
 obtain⟨o,es,ep,g,i,j,_,l⟩:=n;refine⟨o,g,λname=>?_⟩;have e:=l name;unfold nsFind findBy at e;rw[<- Array.find?_toList] at e;unfold W.lookIn;rw[i];dsimp only
 split
 .simp_all
 .have a:es.toList.any (·.refKey)=false:=by
   rw[Vr];intro y m;have ⟨z,t,b⟩:=j y ();simp[DictEntry.refKey,b]
  simp_all
def ObjM.look {h:Heap}{x b C:Addr}{mA:Ye}(I:ObjM h x b C mA):∃a,W.InstAt h x (W.instObj C b) C (some a)/\∀name,W.lookIn name a=some (mA name):=
 let ⟨a,ho,hl⟩:=Nl I.ns
 ⟨a,⟨I.obj,rfl,rfl,ho⟩,hl⟩
section
variable {prog:Program}{w:World}{A:Around}{E:Ya}{s:Shared}{K:W.Frag}{x dx C f:Addr}{mA:Ye}{name:Str}{v:Value}
def Nm {a:Bool}{Q:Ya}(X:K.In s.heap)(I:ObjM s.heap x dx C mA)(c:W.plainGet K C name=true)(e:W.hasDictIn K C=true)
 (g:W.findIn K (.ref C) name=some none) (i:mA name=some v) (b:W.handedIn v=true) (h:Q v { s with toks:=s.toks+1 }):
 YJ prog w A (getAttr (.ref x) name a) Q E s:=by
 obtain⟨l,J,j⟩:=I.look;exact W.get_value X J (W.plainGet_of c).1 (W.findObj_own e g rfl (by rw[j,i])) b h
def No {ns:Yk}{Q:Unit->YC}(X:K.In s.heap)(I:ObjM s.heap x dx C mA)
 (hs:W.findIn K (.ref C) "__setattr__" = some (some (.builtin "object.__setattr__"))) (hp:W.plainOver K C=true) (j:W.takerIn K C name=some none) (l:W.hasDictIn K C=true)
 (m:PySem.Within mA ns) (hsz:ns.length<=sizeLine)
 (h:∀h',ObjM h' x dx C (λy=>if y=name then some v else mA y)->Heap.SameBut dx s.heap h'->Q Yt { s with heap:=h',toks:=s.toks+2 }):
 YJ prog w A (setAttr (.ref x) name v) Q E s:=by
 obtain⟨r,J,t⟩:=I.look;refine W.set_plain X J hs (W.osa_open X J hp j λb=>?_);obtain⟨u,n,e⟩:=W.any_some l;refine Za (Zb (Za (Za (wpAny_loadPart I.obj (Za (W.Looks.here (W.looks_clsIn X n) ?_))))));rw[e];refine Zb (Za (Zb (Za (wpAny_nsSet1 I.ns λh' a c=>?_))));obtain⟨z,o,p,g,i,q⟩:=a.count (PySem.Within.cons name v m);exact Za (wpAny_lookBehind g (by rw[i];exact pastItsLine_dict ()) (Zb (h _ ⟨(c.2 _ (Ne.symm I.ne)).trans I.obj,a,I.ne⟩ c)))
def Np {R:Result->YC}{b:Yf}{c:List (Str×Value)}(X:K.In s.heap)(e:W.makesIn K C=true)
 (g:W.findIn K (.ref C) "__init__" = some (some (.ref f))) (i:W.typeIn K (.ref f)=some (.type "function"))
 (h:codeAny (model prog w) (A.under (.builtin "type.__call__" ⟨.ref C::b,c⟩)) (.call (.ref f) ⟨.ref (s.heap.objs.size+1)::b,c⟩) (W.InitBack (s.heap.objs.size+1) R)
  { s with heap:=(s.heap.push W.emptyDict).push (W.instObj C s.heap.objs.size) }):
 codeAny (model prog w) A (.call (.ref C) ⟨b,c⟩) R s:=W.make_core (W.makes_of X e) (W.looks_findIn X g) (λa=>W.bind_fn X a i) (.inl rfl) h
end
def qM (f:Str)(v:V):List (Str×V)->List (Str×V)
 | []=>[(f,v)]
 | (g,x)::r=>if g=f then(g,v)::r else(g,x)::qM f v r
theorem EH (f g)(v):∀fs:List (Str×V),(qM f v fs).lookup g=if g=f then some v else fs.lookup g
 | []=>by
  show List.lookup g [(f,v)]=_
  grind
 | (k,x)::r=>by
  have a:=EH f g v r;rw[show qM f v ((k,x)::r)=(if k=f then(k,v)::r else(k,x)::qM f v r) from rfl]
  grind
theorem Ck (f)(v):∀fs:List (Str×V),f∈(qM f v fs).map (·.1)/\∀g,g∈fs.map (·.1)->g∈(qM f v fs).map (·.1)
 | []=>⟨by simp[qM],()⟩
 | (k,x)::r=>by
  have ⟨a,b⟩:=Ck f v r;rw[show qM f v ((k,x)::r)=(if k=f then(k,v)::r else(k,x)::qM f v r) from rfl]
  grind
theorem EI (f)(v):∀fs:List (Str×V),(qM f v fs).length<=fs.length+1
 | []=>by simp[qM]
 | (k,x)::r=>by
  have a:=EI f v r;rw[show qM f v ((k,x)::r)=(if k=f then(k,v)::r else(k,x)::qM f v r) from rfl]
  grind
def qD {v:V}{o:Yg}(r:xk (some v) o):∃u,o=some u/\ju v u:=by
 cases o with
 |none=>exact(r).elim
 |some u=>exact⟨u,rfl,r⟩
def Nq {v:V}{u:Value}(r:ju v u):W.handedIn u=true:=by
 cases v with
 |non=>cases (r);rfl
 |bl b=>cases (r);rfl
 |int i=>have ⟨t,e⟩:=(r);cases e;rfl
 |str x=>have ⟨t,e⟩:=(r);cases e;rfl
 |byt b=>have ⟨t,e⟩:=(r);cases e;rfl
 |flt b=>have ⟨t,e⟩:=(r);cases e;rfl
 |ref a=>cases (r);rfl
 |ty n=>cases (r);rfl
section
variable {P:Program}{w:World}{H H':Hp}{h h':Heap}{a C dx:Addr}{fs fs':List (Str×V)}
def EJ (b:qK P w H h)(e:H a=some (.ins C dx fs)):∃mA,ObjM h a dx C mA/\(∀f,xk (fs.lookup f) (mA f))/\PySem.Within mA (fs.map (·.1))/\fs.length<=1000/\H dx=some (.own a):=have ⟨d,z,ne,c,mA,n,r,q⟩:=(b a _ e);⟨mA,⟨c,n,ne⟩,r,q,z,d⟩
end
structure Cls (K:W.Frag)(C:Addr):Prop where
 pg:W.plainGet K C Str.empty=true
 hd:W.hasDictIn K C=true
 po:W.plainOver K C=true
 sa:W.findIn K (.ref C) "__setattr__" = some (some (.builtin "object.__setattr__"))
def Cls.get {K:W.Frag}{C:Addr}(c:Cls K C)(f):W.plainGet K C f=true:=c.pg
def vk (K:W.Frag)(C:Addr)(f:Str):Prop:=W.findIn K (.ref C) f=some none
def vk.taker {K:W.Frag}{C:Addr}{f:Str}(n:vk K C f):W.takerIn K C f=some none:=by
 unfold W.takerIn;rw[n];rfl
section
variable {X:Cx}{Y:Yb}{Z: St}{H:Hp}{s:Shared}{a C dx:Addr}{fs:List (Str×V)}{f:Str}{v:V}{A:Around}{E:Ya}
def Nr {b:Bool}{Q:Ya}(I:Inv X Y Z H s)(e:H a=some (.ins C dx fs))(c:Cls X.K C)(n:vk X.K C f)(l:fs.lookup f=some v)
 (h:∀u s',Inv X Y Z H s'->ju v u->Q u s'):wpAny (model X.prog X.w) A (getAttr (.ref a) f b) Q E s:=by
 obtain⟨mA,O,r,_,_,_⟩:=EJ I.hok e;obtain⟨u,i,g⟩:=qD (by rw[<- l];exact r f);exact Nm I.kIn O (c.get f) c.hd n i (Nq g) (h u _ (I.tok _) g)
def Nt {y:V}{u:Value}{Q:Unit->YC}(I:Inv X Y Z H s)(e:H a=some (.ins C dx fs))(c:Cls X.K C)(n:vk X.K C f)(w:fs.length<1000)(x:ju y u)
 (h:∀s',Inv X Y Z (upd H a (.ins C dx (qM f y fs))) s'->Q Yt s'):wpAny (model X.prog X.w) A (setAttr (.ref a) f u) Q E s:=by
 obtain⟨mA,O,r,wi,_,j⟩:=EJ I.hok e;have hz:(fs.map (·.1)).length<=sizeLine:=by rw[Zql,sizeLine_eq];lia
 refine No I.kIn O c.sa c.po n.taker c.hd wi hz λh' i l=>h _ ?_;have m:∃o,h'.get? dx=some o:=let ⟨o,_,_,e',_⟩:=i.ns;⟨o,e'⟩
 refine I.write (by rw[e];exact True.intro) (.inr j) (λb q p z=>(l.2 b p).trans z) m ⟨by rwa [JF O.ne],?_,O.ne,i.obj,_,i.ns,λg=>?_,λg t=>?_⟩
 .have:=EI f y fs;lia
 .rw[EH];by_cases q:g=f
  .rwa [Zd q,Zd q]
  simp_all
 .by_cases q:g=f
  .rw[q];exact(Ck f y fs).1
  .refine(Ck f y fs).2 g (wi g λz=>t ?_)
   simp_all
def Inv.made (I:Inv X Y Z H s):Inv X Y Z (upd (upd H s.heap.objs.size (.own (s.heap.objs.size+1))) (s.heap.objs.size+1) (.ins C s.heap.objs.size []))
 { s with heap:=(s.heap.push W.emptyDict).push (W.instObj C s.heap.objs.size) }:=by
 have c:(s.heap.push W.emptyDict).get? s.heap.objs.size=some W.emptyDict:=Zr s.heap rfl;have g:((s.heap.push W.emptyDict).push (W.instObj C s.heap.objs.size)).get? (s.heap.objs.size+1)=some (W.instObj C s.heap.objs.size):=by
  have:=Zr (s.heap.push W.emptyDict) (o:=W.instObj C s.heap.objs.size) rfl
  simp_all
 have h:(s.heap.push W.emptyDict).Ns s.heap.objs.size (λ_=>none):=⟨W.emptyDict,#[],_,c,rfl,(λe i=>Zn i ()),λ_=>rfl⟩;refine(I.laid (o:=.own (s.heap.objs.size+1)) (t':=s.toks) (λb u q=>Zq _ q) (Zf _) ⟨_,c⟩).laid (λb u q=>Zq _ q) () ?_;have ne:s.heap.objs.size≠s.heap.objs.size+1:=()
 refine⟨by rw[JF ne,JM],Ua _,ne,g,λ_=>none,(Heap.Ns1.of_empty h).at λo q=>Zq _ q,λ_=>True.intro,λy j=>Zn rfl j⟩
def Nu {prog:Program}{w:World}{env:Env}{e:Expr}{f:Str}{b:Pos}{s:Shared}{Q:Ya}(c:attributeBase e f env (eval e env)=eval e env)
 (h:YJ prog w A (eval e env) (λo s₁=>YJ prog w A (getAttr o f true) Q E s₁) E s):YJ prog w A (eval (.Attribute e f b) env) Q E s:=
 Attribute_any_ h (by rw[arm_eval_Attribute,c])
end
def my (K:W.Frag)(c:TE)(f:Str):TE:=λZ H Q=>c Z H λx b=>∃a C e fs v,x=.ref a/\b a=some (.ins C e fs)/\Cls K C/\vk K C f/\fs.lookup f=some v/\Q v b
def m9 (K:W.Frag)(e g:TE)(f:Str):TS:=λD Z H=>g Z H λy h=>e Z h λx b=>∃a C c fs,x=.ref a/\b a=some (.ins C c fs)/\Cls K C/\vk K C f/\fs.length<1000 /\
 D.nx Z (upd b a (.ins C c (qM f y fs)))
section
variable {X:Cx}{o e value:Expr}{f:Str}{pos pos' tpos:Pos}{ta tv:TE}
def Nv (b:PE X e ta)(g:attributeBase e f X.env (eval e X.env)=eval e X.env):PE X (.Attribute e f pos) (my X.K ta f):=by
 intro Y s Z H Q I h;refine Nu g (jH (b Y s Z H _ I h) λu y ⟨x,i,j,m,a,C,z,fs,v,p,r,c,n,l,q⟩=>?_);subst p;obtain rfl:=m;exact Nr j r c n l λA B t w=>⟨v,i,t,w,q⟩
def Nw (b:PE X o ta)(g:PE X value tv)(hs:swapsWith value (some (.Attribute o f pos')) pos.line X.env=pure false):PS X (.Assign [.Attribute o f pos'] value pos) (m9 X.K ta tv f):=by
 intro Y s Z H D I h;refine plainObj_wpAny_Assign_Attribute (jH (g Y s Z H _ I h) λu i ⟨y,j,m,p,q⟩=>jH (b Y i Z j _ m q) λB E ⟨x,F,r,t,a,C,G,fs,v,w,c,n,l,z⟩=>?_) hs;subst v;obtain rfl:=t;exact Nt r w c n l p λJ A=>⟨Z,_,A,z⟩
end
structure Room (k:Nat)(A:Around):Prop where
 hd:A.handled=none
 dp:A.depth+3*k+5<recursionLimit
 un:A.units+16*k+200<cLine
def Room.mono {j k:Nat}{A:Around}(r:Room k A)(h:j<=k):Room j A:=⟨r.hd,by have:=r.dp;lia,by have:=r.un;lia⟩
theorem Room.deeper {k:Nat}{A:Around}(r:Room (k+1) A)(env):Room k (A.deeper env):=
 ⟨r.hd,by have:=r.dp;show A.depth+1+3*k+5<_;lia,by have:=r.un;show A.units+3+16*k+200<_;lia⟩
def Nx {A:Around}{C:Addr}{a:Yf}{b:List (Str×Value)}:(A.under (.builtin "type.__call__" ⟨.ref C::a,b⟩)).depth=A.depth+1:=by
 rfl
def Ny {A:Around}{C:Addr}{a:Yf}{b:List (Str×Value)}:(A.under (.builtin "type.__call__" ⟨.ref C::a,b⟩)).units=A.units+1:=by
 rfl
def Room.make {k:Nat}{A:Around}(r:Room (k+1) A)(C)(us)(kw):Room k (A.under (.builtin "type.__call__" ⟨.ref C::us,kw⟩)):=
 ⟨r.hd,by have:=r.dp;rw[Nx];lia,by have:=r.un;rw[Ny];lia⟩
theorem Room.depth {k:Nat}{A:Around}(r:Room k A):A.depth<recursionLimit:=by have:=r.dp;lia
theorem Room.units {k:Nat}{A:Around}(r:Room k A):A.units+64<cLine:=by have:=r.un;lia
def wG:TA:=λ_ H Q=>Q [] H
def Ar (a:TE)(b:TA):TA:=λZ H Q=>a Z H λx c=>b Z c λe f=>Q (x::e) f
section
variable {X:Cx}{e:Expr}{es:Ym}{te:TE}{t:TA}{pos:Pos}
def W9:PA X [] wG:=λ_ _ _ _ H Q I h=>Calls.spliced_nil ⟨[],H,I,.nil,h⟩
def Wh (a:PE X e te)(b:PA X es t)(hs:starEach (e::es) X.env=(false,eval e X.env)::starEach es X.env:=by rfl):PA X (e::es) (Ar te t):=by
 intro pos Y s Z H Q I h;rw[hs];exact Calls.spliced_cons (jH (a Y s Z H _ I h) λu c ⟨x,f,g,i,j⟩=>(jH (b pos Y c Z f _ g j) λq r ⟨l,m,n,o,p⟩=>⟨x::l,m,n,.cons i o,p⟩))
def mo (t:TA):TE:=λZ H Q=>t Z H λa b=>a.length<=sizeLine/\∀p,b p=none->Q (.ref p) (upd b p (.tup a))
def u5 (t:TA):TE:=λZ H Q=>t Z H λa b=>a.length<=sizeLine/\∀p,b p=none->Q (.ref p) (upd b p (.lst a))
def Nz {x1}(h:PA X es t):PE X (.Tuple es x1 pos) (mo t):=λY s Z H Q I f=>wpAny_Tuple_spliced (jH (h pos Y s Z H _ I f) λg a ⟨i,j,c,r,z,q⟩=>⟨by rwa [<- r.length],⟨.ref a.heap.objs.size,upd j a.heap.objs.size (.tup i),c.laid (λb u e=>Zq _ e) (Zf _) (⟨⟨z,⟨_,Zr _ rfl,rfl⟩⟩,g,r,⟨_,Zr _ rfl,rfl,_,rfl⟩⟩),rfl,q _ (c.hok.fresh (Zf _))⟩⟩)
def N0 (h:PA X es t):PE X (.List es pos) (u5 t):=λY s Z H Q I f=>wpAny_List_spliced (jH (h pos Y s Z H _ I f) λg a ⟨i,j,c,r,z,q⟩=>⟨by rwa [<- r.length],⟨.ref a.heap.objs.size,upd j a.heap.objs.size (.lst i),c.laid (λb u e=>Zq _ e) (Zf _) ⟨z,g,0,r,Zr _ rfl⟩,rfl,q _ (c.hok.fresh (Zf _))⟩⟩)
end
abbrev Sp:=YE->Hp->VK->XK->Prop
abbrev zB:=List Env->Hp->Shared->XK->Ya
structure Env0 (P:Program)(w:World)(K:W.Frag)(mg:Ye)(base:Heap)(A:Around)(outer:List Env)(s:Shared)(H:Hp):Prop where
 frames:A.frames=some outer
 mod:Mod K mg base
 bs:∀b o,base.get? b=some o->s.heap.get? b=some o/\H b=none
 bsz:base.objs.size<=s.heap.objs.size
 funs:s.heap.FunFrames base outer
 frf:∀b∈xf outer,H b=none
 hok:qK P w H s.heap
 bare:AllBare s.gens
def CE (a:List Env)(P:Program)(w:World)(H:Hp)(s:Shared)(Q:VK)(u:Value)(s':Shared):Prop:=
 ∃v b,s'.os=s.os/\AllBare s'.gens/\Un (xf a) [] H b s.heap s'.heap/\qK P w b s'.heap/\ju v u/\Q v b
def CR (CX:zB)(a:List Env)(P:Program)(w:World)(H:Hp)(s:Shared)(Q:VK)(E:XK)(r:Result)(s':Shared):Prop:=
 match r with
 | .ok (.ret u)=>CE a P w H s Q u s'
 | .ok _=>False
 | .error e=>CX a H s E e s'
structure FnOk (P:Program)(w:World)(K:W.Frag)(mg:Ye)(base:Heap)(CX:zB)(k:Nat)(f:Addr)(fd:FuncData)(ps:Yk)(sp:Sp):Prop where
 len:∀vs H Q E,sp vs H Q E->vs.length=ps.length
 run:∀(A:Around) (outer:List Env) (s:Shared) (H:Hp) (args:Args) (us:Yf) (vs:YE) (Q:VK) (E:XK),Room k A->Env0 P w K mg base A outer s H->BindsTo s fd args (ps.zip us)->js vs us->sp vs H Q E ->
  codeAny (model P w) A (.call (.ref f) args) (CR CX outer P w H s Q E) s
theorem FnOk.mono {P:Program}{w:World}{K:W.Frag}{mg:Ye}{a:Heap}{CX:zB}{j k:Nat}{f:Addr}{c:FuncData}{ps:Yk}{sp:Sp}(F:FnOk P w K mg a CX j f c ps sp)(h:j<=k):
 FnOk P w K mg a CX k f c ps sp:=⟨F.len,λA b s H args e g Q E i=>F.run A b s H args e g Q E (i.mono h)⟩
def FnOk.imp {P:Program}{w:World}{K:W.Frag}{mg:Ye}{a:Heap}{CX:zB}{k:Nat}{f:Addr}{g:FuncData}{ps:Yk}{sp e:Sp}(F:FnOk P w K mg a CX k f g ps sp)
 (h:∀c H Q E,e c H Q E->sp c H Q E):FnOk P w K mg a CX k f g ps e:=
 ⟨λc H Q E q=>F.len c H Q E (h _ _ _ _ q),λA b s H args i c Q E j l m n hs=>F.run A b s H args i c Q E j l m n (h _ _ _ _ hs)⟩
def Env0.make {P:Program}{w:World}{K:W.Frag}{mg:Ye}{b:Heap}{A:Around}{a:List Env}{s:Shared}{H:Hp}(e:Env0 P w K mg b A a s H)(C)(us)(kw):
 Env0 P w K mg b (A.under (.builtin "type.__call__" ⟨.ref C::us,kw⟩)) a s H:=⟨by first|exact e.frames|(simpa using e.frames),e.mod,e.bs,e.bsz,e.funs,e.frf,e.hok,e.bare⟩
section
variable {X:Cx}{Y:Yb}{Z: St}{H:Hp}{s s':Shared}
def Inv.env0 (I:Inv X Y Z H s):Env0 X.prog X.w X.K X.mg X.base X.A X.stack s H:=
 ⟨I.ok.frames,I.ok.mod,I.bs,Zh I.ok.bsz I.sz,I.stack,I.stkFree,I.hok,I.bare⟩
def Inv.after {Q:VK}{u:Value}(I:Inv X Y Z H s)(h:CE X.stack X.prog X.w H s Q u s'):EP X Y Z Q u s':=by
 obtain⟨v,c,os,bare,un,a,r,q⟩:=h;obtain⟨f,g,d,t,e⟩:=s';obtain rfl:=os;exact⟨v,c,I.call un a bare (λb z=>Zn z ()),r,q⟩
end
def Cm (sp:Sp)(a:YE)(E:XK)(t:TA):TE:=λZ H Q=>t Z H λb c=>sp (b++a) c Q E
def u4 (C:Addr)(sp:Sp)(b:YE)(E:XK)(t:TA):TE:=λZ H Q=>t Z H λe c=>∀x a,c x=none->c a=none->a≠x ->
 sp (.ref x::(e++b)) (upd (upd c a (.own x)) x (.ins C a [])) (λv f=>v=.non/\Q (.ref x) f) E
def zF (K:W.Frag)(b:FuncData)(ps:Yk)(ds:Yf):Prop:=
 ∀(s:Shared) (a:Yf),K.In s.heap->(a++ds).length=ps.length->BindsTo s b ⟨a,[]⟩ (ps.zip (a++ds))
def zF.all {K:W.Frag}{b:FuncData}{ps:Yk}(h:∀a:Yf,a.length=ps.length->bindArgs b ⟨a,[]⟩=pure (ps.zip a)):zF K b ps []:=λs a _ c=>by
 rw[ZB] at c ⊢;exact .of_eq (h a c)
def Xk (CX:zB)(X:Cx)(E:XK):Prop:=∀(Y:Yb) (Z: St) (H:Hp) (s:Shared) (e:Value) (s':Shared),Inv X Y Z H s->CX X.stack H s E e s'->X.xe e s'
section
variable {X:Cx}{CX:zB}{k:Nat}{f C:Addr}{fd:FuncData}{ps:Yk}{sp:Sp}{dvs:YE}{ds:Yf}{E:XK}{x m:Str}{p pos apos:Pos}{e o:Expr}{es:Ym}{ta:TE}{t:TA}
def EK {Y:Yb}{Z: St}{H:Hp}{s:Shared}{Q:VK}{a:Yf}{c:YE}(F:FnOk X.prog X.w X.K X.mg X.base CX k f fd ps sp)(i:Room k X.A)(j:zF X.K fd ps ds)(l:js dvs ds)(n:Xk CX X E)
 (I:Inv X Y Z H s) (r:js c a) (h:sp (c++dvs) H Q E):YI X (call (.ref f) a) (EP X Y Z Q) X.xe s:=by
 have g:=r.append l;have q:(a++ds).length=ps.length:=by rw[<- g.length];exact F.len _ _ _ _ h
 refine wpAny_call (codeAny_mono (F.run X.A X.stack s H ⟨a,[]⟩ (a++ds) (c++dvs) Q E i I.env0 (j s a I.kIn q) g h) λr s' b=>?_);cases r with
 |error e=>exact n Y Z H s e s' I b
 |ok v =>
  cases v with
  |ret u=>exact I.after b
  |next=>exact False.elim b
  |brk=>exact False.elim b
  |cont=>exact False.elim b
def EL (F:FnOk X.prog X.w X.K X.mg X.base CX k f fd ps sp)(g:Room k X.A)(i:Gl X x)(j:X.mg x=some (.ref f))(l:W.keepIn X.K (.ref f)=true)(n:zF X.K fd ps ds)(u:js dvs ds)(v:Xk CX X E)
 (w:PA X (e::es) t) (a:(x == ("__debug__" : Str))=false:=by decide) (y:starEach (e::es) X.env=(false,eval e X.env)::starEach es X.env:=by rfl) (b:(backTo pos (starEach es X.env)).any (·.1)=false:=by rfl):
 PE X (.Call (.Name x p) (e::es) [] pos) (Cm sp dvs E t):=by
 intro Y s Z H Q I h;exact wpAny_Call_Name_kw (Xh I i j (W.callWith_K I.ok.mod.kin l (jH (w pos Y s Z H _ I h) λz A ⟨B,G,c,r,q⟩=>⟨c.kIn,EK F g n u v c r q⟩) y b) a)
structure Mk (K:W.Frag)(C f:Addr):Prop where
 makes:W.makesIn K C=true
 init:W.findIn K (.ref C) "__init__" = some (some (.ref f))
 fn:W.isFn K (.ref f)=true
 kp:W.keepIn K (.ref C)=true
def N1 {Y:Yb}{Z: St}{H:Hp}{s:Shared}{Q:VK}{b:Yf}{i:YE}(M:Mk X.K C f)(F:FnOk X.prog X.w X.K X.mg X.base CX k f fd ps sp)(n:Room (k+1) X.A)(q:zF X.K fd ps ds)(w:js dvs ds)
 (y:Xk CX X E) (I:Inv X Y Z H s) (r:js i b)
 (h:∀x c,H x=none->H c=none->c≠x->sp (.ref x::(i++dvs)) (upd (upd H c (.own x)) x (.ins C c [])) (λv z=>v=.non/\Q (.ref x) z) E):
 YI X (call (.ref C) b) (EP X Y Z Q) X.xe s:=by
 have j:=h (s.heap.objs.size+1) s.heap.objs.size (I.hok.fresh (Nat.le_succ _)) (I.hok.fresh (Zf _)) (Zi (UI _));have g:=Inv.made (C:=C) I;have l:js (V.ref (s.heap.objs.size+1)::(i++dvs)) (Value.ref (s.heap.objs.size+1)::(b++ds)):=.cons rfl (r.append w);have A:(Value.ref (s.heap.objs.size+1)::b++ds).length=ps.length:=by
  have e:=l.length;rw[F.len _ _ _ _ j] at e;exact e.symm
 refine wpAny_call (Np I.kIn M.makes M.init (Ys.mp M.fn) (codeAny_mono (F.run _ X.stack _ _ ⟨Value.ref (s.heap.objs.size+1)::b,[]⟩ (Value.ref (s.heap.objs.size+1)::(b++ds)) _ _ E (n.make C b [])
  (g.env0.make C b []) (q _ (Value.ref (s.heap.objs.size+1)::b) g.kIn A) l j) λr s' a=>?_))
 cases r with
 |error e=>exact y Y Z _ _ e s' g a
 |ok B =>
  cases B with
  |ret u =>
   obtain⟨v,G,J,K,L,N⟩:=g.after a;subst L;exact⟨K,⟨V.ref (s.heap.objs.size+1),G,J,rfl,N⟩⟩
  |next=>exact False.elim a
  |brk=>exact False.elim a
  |cont=>exact False.elim a
def N2 (M:Mk X.K C f)(F:FnOk X.prog X.w X.K X.mg X.base CX k f fd ps sp)(g:Room (k+1) X.A)(i:Gl X x)(j:X.mg x=some (.ref C))(l:zF X.K fd ps ds)(n:js dvs ds)(u:Xk CX X E)
 (v:PA X (e::es) t) (a:(x == ("__debug__" : Str))=false:=by decide) (w:starEach (e::es) X.env=(false,eval e X.env)::starEach es X.env:=by rfl) (b:(backTo pos (starEach es X.env)).any (·.1)=false:=by rfl):
 PE X (.Call (.Name x p) (e::es) [] pos) (u4 C sp dvs E t):=λY s Z H Q I h=>wpAny_Call_Name_kw (Xh I i j (W.callWith_K I.ok.mod.kin M.kp (jH (v pos Y s Z H _ I h) λy z ⟨A,B,c,r,q⟩=>⟨c.kIn,N1 M F g l n u c r q⟩) w b) a)
end
structure FnScope (N P:Yk)(sc:Scope):Prop where
 kind:sc.kind=.function
 co:sc.isCoroutine=false
 gen:sc.isGenerator=false
 nd:N.Nodup
 pre:N.take P.length=P
 par:∀x∈P,sc.names.lookup x=some .local\/sc.names.lookup x=some .cell
 nofree:∀y∈sc.names,y.2 ≠ .free
theorem EM {kindOf:Str->Option NameKind}{x:Str}:∀{binds:List (Str×Value)} {m:Ye},(∀v,(x,v)∉binds)->bindL kindOf binds m x=m x
 | [],_,_=>rfl
 | (n,v)::r,m,h=>by
  unfold bindL;rw[EM ()]
  split
  .grind
  .rfl
theorem EN {kindOf:Str->Option NameKind}{x:Str}:∀{binds:List (Str×Value)} {m:Ye},(∀v,(x,v)∉binds)->bindC kindOf binds m x=m x
 | [],_,_=>rfl
 | (n,v)::r,m,h=>by
  unfold bindC;rw[EN ()]
  split
  .rfl
  grind
theorem EO {kindOf:Str->Option NameKind}{x:Str}{v:Value}:∀{P:Yk} {a:Yf} {i:Nat} {m:Ye},P.Nodup->P[i]? = some x->a[i]? = some v->kindOf x=some .local ->
 bindL kindOf (P.zip a) m x=some v
 | [],_,_,_,_,h,_,_=>by simp at h
 |_::_,[],_,_,_,_,h,_=>by simp at h
 |p::P,w::a,0,m,nd,h1,h2,hk=>by
  simp at h1 h2;subst h1;subst h2;show bindL kindOf ((p,w)::P.zip a) m p=_;unfold bindL;rw[EM λv b=>(Jl.mp nd).1 (Vs b).1,Zd hk];simp
 |p::P,w::a,i+1,m,nd,h1,h2,hk=>by
  show bindL kindOf ((p,w)::P.zip a) m x=_;exact EO () (by simpa using h1) (by simpa using h2) hk
theorem EQ {kindOf:Str->Option NameKind}{x:Str}{v:Value}:∀{P:Yk} {a:Yf} {i:Nat} {m:Ye},P.Nodup->P[i]? = some x->a[i]? = some v->kindOf x≠some .local ->
 bindC kindOf (P.zip a) m x=some v
 | [],_,_,_,_,h,_,_=>by simp at h
 |_::_,[],_,_,_,_,h,_=>by simp at h
 |p::P,w::a,0,m,nd,h1,h2,hk=>by
  simp at h1 h2;subst h1;subst h2;show bindC kindOf ((p,w)::P.zip a) m p=_;unfold bindC;rw[EN λv b=>(Jl.mp nd).1 (Vs b).1,Ze hk];simp
 |p::P,w::a,i+1,m,nd,h1,h2,hk=>by
  show bindC kindOf ((p,w)::P.zip a) m x=_;exact EQ () (by simpa using h1) (by simpa using h2) hk
def start (N:Yk)(a:YE):St:=a.map some++List.replicate (N.length-a.length) none
def jV (CX:zB)(P:Program)(w:World)(K:W.Frag)(mg:Ye)(base:Heap)(N:Yk)(b:Str)(a:Scope)(f:Addr)(g:Value)(A:Around)(outer:List Env)(s:Shared)(H:Hp)(E:XK):Cx where
 prog:=P
 w:=w
 K:=K
 mg:=mg
 base:=base
 A:=A.deeper (envOfC b a s.heap.objs.size f g)
 N:=N
 s₀:=s
 H₀:=H
 env:=envOfC b a s.heap.objs.size f g
 outer:=outer
 stack:=envOfC b a s.heap.objs.size f g::outer
 ex:=[]
 calm:=true
 fn:=λ_=>true
 pn:=[]
 xe:=λe s'=>wpAny (model P w) (A.deeper (envOfC b a s.heap.objs.size f g)) (leaving (envOfC b a s.heap.objs.size f g) e) (λ_ c=>CX outer H s E e c) (λh c=>CX outer H s E h c) s'
def ER {a:Scope}{n:Nat}{x:Str}(h:a.names.lookup x=some .cell):∃c,(cellsFrom n a.names []).lookup x=some c:=have q:=W.cellsFrom_some a.names n [] (.inl h);Js.mp q
def N3 {CX:zB}{P:Program}{w:World}{K:W.Frag}{mg:Ye}{l:Heap}{N ps:Yk}{j:Str}{a:Scope}{f:Addr}{B:Value}{A:Around}{g:List Env}{s G:Shared}{H:Hp}{E:XK}{C:Yf}{n:YE}
 (S:FnScope N ps a) (M:A.handled=none) (m:Env0 P w K mg l A g s H) (T:n.length=ps.length) (r:js n C)
 (x:InCallC s s.heap.objs.size (bindL (envOfC j a s.heap.objs.size f B).kindOf (ps.zip C) λ_=>none) (cellsFrom (s.heap.objs.size+1) a.names []) (bindC (envOfC j a s.heap.objs.size f B).kindOf (ps.zip C) λ_=>none) G):
 Inv (jV CX P w K mg l N j a f B A g s H E) [] (start N n) H G:=by
 have O:ps.length<=N.length:=by have:=Zt List.length S.pre;grind
 obtain⟨F,tk,rfl,I⟩:=x.done;have o:∀b:Addr,b∉(jV CX P w K mg l N j a f B A g s H E).ex:=λb z=>Zn (show b∈([]:Yl) from z) ();refine⟨⟨m.mod,S.kind,rfl,rfl,Zf _,λy z c F J=>?_,λy hy=>?_,λy c _ h=>?_,λ_=>M,Around.frames_deeper m.frames,.inr ⟨rfl,rfl⟩,λb z=>Zn z (o b),m.bs,m.bsz,λb _ _=>o b,(),m.funs,m.frf⟩,
  rfl,m.bare,Un.kept I,⟨_,x.toInCall.ns,λi y v F J U=>?_⟩,λy c h=>⟨_,x.cell y c h⟩,m.hok.fresh (Zf _),λy c h=>?_,λp hp=>Zn (show p∈([]:Yb) from hp) (),m.hok.kept I,?_⟩
 .exact name_of_addr x.apart (PySem.mem_of_lookup F) (PySem.mem_of_lookup J)
 .have hy:=hy;rcases hy with hy|hy
  .exact ER hy
  .exact Zn rfl (S.nofree _ (PySem.mem_of_lookup hy))
 .exact Zz (x.above y c (PySem.mem_of_lookup h))
 .have X:i<n.length:=by
   grind[start,List.getElem?_replicate]
  have Q:n[i]? = some v:=by
   grind[start,List.getElem?_map]
  have ⟨u,L,R⟩:=r.get Q;have hp:ps[i]? = some y:=by
   rwa [<- S.pre,VQ ()]
  have t:ps.Nodup:=by rw[<- S.pre];exact S.nd.sublist (List.take_sublist _ _)
  refine⟨u,R,?_⟩;rcases S.par y (Ug hp) with k|k
  .exact .inl ⟨k,EO t hp L k⟩
  .obtain⟨c,e⟩:=ER k;refine .inr ⟨.inl k,c,e,?_⟩;have q:=x.cell y c e
   rwa [EQ t hp L (by show a.names.lookup y≠_;simp_all)] at q
 .exact m.hok.fresh (Zz (x.above y c (PySem.mem_of_lookup h)))
 .unfold start;show _=N.length
  simp_all
def ES {CX:zB}{P:Program}{w:World}{K:W.Frag}{mg:Ye}{i:Heap}{k:Nat}{f:Addr}{name g:Str}{params:Arguments}{j:List Stmt}{a:Scope}{U kV B X h ct oc:Value}{Y od:Option Addr}
 {M:Array Yg} {N ps:Yk} {sp:Sp} (lk:K.lookup f=some ⟨oc,od,.func (W.fnOf name g params j a U kV B X Y h ct),M⟩) (O:W.codeIn K h g=true) (S:FnScope N ps a)
 (len:∀l H Q E,sp l H Q E->l.length=ps.length)
 (p:∀A c s H l Q E,Room k (A.deeper (envOfC g a s.heap.objs.size f h))->sp l H Q E ->
  ∃t,qI (jV CX P w K mg i N g a f h A c s H E) j t/\t { nx:=λ_ m=>Q .non m,rt:=Q } (start N l) H):
 FnOk P w K mg i CX (k+1) f (W.fnOf name g params j a U kV B X Y h ct) ps sp:=by
 refine⟨len,λA c s H args us l Q E R C hb r F=>?_⟩;have Z:=C.mod.kin.keeps λb o e=>(C.bs b o e).1;have z:∀y∈ps.zip us,a.names.lookup y.1=some .local\/(a.names.lookup y.1=some .cell/\((cellsFrom (s.heap.objs.size+1) a.names []).lookup y.1).isSome=true):=λ⟨n,v⟩ hy=>by
  rcases S.par n (Vs hy).1 with q|q
  .exact .inl q
  .exact .inr ⟨q,W.cellsFrom_some _ _ _ (.inl q)⟩
 refine codeAny_call_function R.depth (Z _ _ lk) rfl S.co S.gen rfl (W.codeRec_of Z O) (hb _ _ _ _ (wpAny_newFunctionEnv_cells S.kind z λenv he s1 x=>?_));subst he;refine⟨(C.mod.nolimit.keeps λb o e=>(C.bs b o e).1).keeps x.toInCall.keep,codeAny_func ?_⟩;obtain⟨t,ht,hq⟩:=p A c s H l Q E (R.deeper _) F;have I:Inv (jV CX P w K mg i N g a f h A c s H E) [] (start N l) H s1:=N3 S R.hd C (len _ _ _ _ F) r x;refine Zc (ht [] s1 (start N l) H _ I hq) (λfl s' hs=>?_) λe s' hs=>hs;have G:∀{L:St} {m:Hp} {v:V} {u:Value},Inv (jV CX P w K mg i N g a f h A c s H E) [] L m s'->ju v u->Q v m->CE c P w H s Q u s':=
  λ{L m v u} J T q=>⟨v,m,J.os,J.bare,J.base,J.hok,T,q⟩
 cases fl with
 |ret u =>
  obtain⟨v,L,m,J,T,q⟩:=hs;exact G J T q
 |next =>
  obtain⟨L,m,J,q⟩:=hs;exact G (v:=V.non) J rfl q
 |brk =>
  obtain⟨_,_,_,q⟩:=hs;exact False.elim q
 |cont =>
  obtain⟨_,_,_,q⟩:=hs;exact False.elim q
section
variable {X:Cx}{x:Str}{p pos:Pos}{e:Expr}{es:Ym}{t:TA}{id T:String}{r:YE->Hp->VK->Prop}
def v1 (r:YE->Hp->VK->Prop)(t:TA):TE:=λZ H Q=>t Z H λa b=>r a b Q
def Au (c:qa X (.builtin id) r)(f:Gl X x)(g:X.mg x=none)(i:bootBuiltins x=some (.builtin id))(j:PA X (e::es) t)(l:x ≠ "__name__" := by decide)(a:(x == ("__debug__" : Str))=false:=by decide)
 (m:starEach (e::es) X.env=(false,eval e X.env)::starEach es X.env:=by rfl) (b:(backTo pos (starEach es X.env)).any (·.1)=false:=by rfl):PE X (.Call (.Name x p) (e::es) [] pos) (v1 r t):=λY s Z H Q I h=>wpAny_Call_Name_kw (Xi I f g i (PyProof.Rows.callWith_builtin1 (jH (j pos Y s Z H _ I h) λn o ⟨q,u,v,w,y⟩=>c Y o Z u q n Q v w y) m b) l a)
def Co (c:qa X (.type T) r)(f:Gl X x)(g:X.mg x=none)(i:bootBuiltins x=some (.type T))(j:PA X (e::es) t)(l:x ≠ "__name__" := by decide)(a:(x == ("__debug__" : Str))=false:=by decide)
 (m:starEach (e::es) X.env=(false,eval e X.env)::starEach es X.env:=by rfl) (b:(backTo pos (starEach es X.env)).any (·.1)=false:=by rfl):PE X (.Call (.Name x p) (e::es) [] pos) (v1 r t):=λY s Z H Q I h=>wpAny_Call_Name_kw (Xi I f g i (PyProof.Rows.callWith_type1 (jH (j pos Y s Z H _ I h) λn o ⟨q,u,v,w,y⟩=>c Y o Z u q n Q v w y) m b) l a)
end
end L2
namespace HT
open PySem PyProof.Rows
def lexLt:Yh->List Int->Bool
 | [],[]=>false
 | [],_::_=>true
 |_::_,[]=>false
 |x::xs,y::ys=>if x=y then lexLt xs ys else decide (x<y)
theorem lexLt_cons (x y)(xs ys):lexLt (x::xs) (y::ys)=if x=y then lexLt xs ys else decide (x<y):=rfl
theorem lexLt_nil_nil:lexLt [] []=false:=rfl
def N4 (y)(ys):lexLt [] (y::ys)=true:=rfl
def N5 (x)(xs):lexLt (x::xs) []=false:=rfl
def N6 (A)(s)(a)(t)(c)(u):∃e,SeqAt.EqAt A s (.int a t) (.int c u) e/\(e=true↔a=c):=
 ⟨(a == c),SeqAt.EqAt.int_int a t c u,()⟩
def N7 (A)(s)(a)(t)(c)(u)(prog)(w)(E)(Q)(h:Q (.bool (decide (a<c))) s):
 YJ prog w A (richCompare .Lt (.int a t) (.int c u)) Q E s:=
 (PyProof.Rows.lt_int h:YJ prog w A (compareOp .Lt (.int a t) (.int c u)) Q E s)
section
open PySem.SeqAt
open PySem.AutoSeq1 (wpAny_loadPart')
open PySem.MeetsSeq PySem.MeetsSeq2 PySem.MeetsSeq3
def N8 (l b:Addr)(i f:Yn)(n F:Nat)(dd r:Option Addr)(G v:Array Yg)(ns z:Yh)(H:IntsAre i.toList ns)(I:IntsAre f.toList z):
 Meets (Builtin.«tuple.__lt__» ⟨[.ref l,.ref b],[]⟩)
  (λ_ R s=>s.heap.get? l=some { cls:=.type "tuple",dict:=dd,data:=.seq i n,slots:=G }/\s.heap.get? b=some { cls:=.type "tuple",dict:=r,data:=.seq f F,slots:=v } /\
   R (.ok (.ret (.bool (lexLt ns z)))) s):=
 .of_wp λprog w A R s h=>by
  obtain⟨hp,g,d,tk,os⟩:=s;obtain⟨J,K,h⟩:=h;have O:=AutoSeq1.sub_tuple_tuple;have P:i.size=ns.length:=by rw[<- H.length];simp
  have Q:f.size=z.length:=by rw[<- I.length];simp
  wp_walk using wpAny_loadPart' J,wpAny_loadPart' K,wpAny_forIn_list _ (λrest b s'=>b.1=none/\s'=⟨hp,g,d,tk,os⟩/\∃(p ws:Yf) (j m:Yh),rest=p.zip ws /\
   IntsAre p j/\IntsAre ws m/\j.length+f.size=m.length+i.size/\R (.ok (.ret (.bool (lexLt j m)))) ⟨hp,g,d,tk,os⟩) _
  case turn =>
   rintro⟨y,x⟩ rest b s' ⟨hb',rfl,p,ws,j,m,hz,hvi,hwi,hlen,hR⟩;cases hvi with
   |nil=>rw[List.zip_nil_left] at hz;cases hz
   |cons a t C =>
    cases hwi with
    |nil=>rw[List.zip_nil_right] at hz;cases hz
    |cons c u E =>
     rw[Vt] at hz;injection hz with hyx hrest
     injection hyx with hy hx
     subst hy hx;rw[lexLt_cons] at hR;simp only[Zu] at hlen;obtain⟨e,L,o⟩:=N6 A.in1 ⟨hp,g,d,tk,os⟩ a t c u;refine Za (L prog w _ _ ?_);cases e with
     |true =>
      rw[Zd (o.mp rfl)] at hR
      wp_walk
      exact()
     |false =>
      rw[Ze (λq=>Zn (o.mpr q) Zj)] at hR;have B:=N7 A.in1 ⟨hp,g,d,tk,os⟩ a t c u prog w
      wp_walk using B
      exact()
  case fin =>
   rintro⟨S,T⟩ s' ⟨hb',rfl,p,ws,j,m,hz,hvi,hwi,hlen,hR⟩;simp only at hb';subst hb';have M:lexLt j m=decide (i.size<f.size):=by
    cases hvi with
    |nil =>
     cases hwi with
     |nil =>
      simp only[ZD] at hlen;rw[lexLt_nil_nil];exact()
     |cons c u N =>
      simp only[ZD,Zu] at hlen;rw[N4];exact()
    |cons a t M =>
     cases hwi with
     |nil =>
      simp only[ZD] at hlen;rw[N5];exact()
     |cons c u N =>
      cases hz
   wp_walk
   grind[Builtin.Tuple.tupleCompareSizes]
  grind
end
section
variable {prog:Program}{w:World}{A:Around}{E:Ya}{s:Shared}
def lt_tupInts {l b:Addr}{c a:Yn}{ns e:Yh}{Q:Ya}(p:IsTup s.heap l c)(q:IsTup s.heap b a)(r:IntsAre c.toList ns)(t:IntsAre a.toList e)
 (u:A.units<cLine) (h:Q (.bool (lexLt ns e)) s):YJ prog w A (compareOp .Lt (.ref l) (.ref b)) Q E s:=by
 obtain⟨⟨cls,dd,data,v⟩,x,y,n,z⟩:=id p;obtain⟨⟨o,f,data2,g⟩,i,j,B,m⟩:=id q;subst y z j m;exact richCompare_meets_room (op:=.Lt) ⟨_,x,rfl⟩ ⟨_,i,rfl⟩ PySem.F.slot_tuple_lt PySem.F.entry_tuple_lt (PySem.F.args_tuple_lt_2 _ _) (N8 l b c a n B dd f v g ns e r t)
  () u
def cat_tup {t b:Addr}{c ws:Yf}{Q:Ya}(q:IsTup s.heap t c.toArray)(r:IsTup s.heap b ws.toArray)(u:c ≠ [])
 (v:ws=[]->Q (.ref t) s) (x:ws ≠ []->Q (.ref s.heap.objs.size) { s with heap:=s.heap.push { cls:=.type "tuple",data:=.seq (c++ws).toArray } })
 (hsz:c.length+ws.length<=sizeLine):YJ prog w A (binaryOp .Add (.ref t) (.ref b)) Q E s:=by
 obtain⟨⟨cls,dd,data,m⟩,h,y,n,z⟩:=id q;obtain⟨⟨o,f,data2,g⟩,a,j,p,l⟩:=id r;subst y z j l;have e:c.toArray++ws.toArray=(c++ws).toArray:=by simp
 by_cases i:ws=[]
 .exact concat_meets ⟨_,h,rfl⟩ ⟨_,a,rfl⟩ noFill_tuple_add seq_tuple_add PySem.F.slot_tuple_add PySem.F.entry_tuple_add (PySem.F.args_tuple_add_2 _ _)
   (tuple_addW1 t b c.toArray ws.toArray n p dd f m g () (by simp[i])) ⟨h,a,v i⟩
 .refine concat_meets ⟨_,h,rfl⟩ ⟨_,a,rfl⟩ noFill_tuple_add seq_tuple_add PySem.F.slot_tuple_add PySem.F.entry_tuple_add (PySem.F.args_tuple_add_2 _ _)
   (tuple_addW2 t b c.toArray ws.toArray n p dd f m g (by simpa using u) (by simpa using i) ()) ⟨h,a,?_⟩
  rw[e];exact x i
end
end HT
namespace L2
abbrev TO:=St->Hp->(Option Int->Hp->Prop)->Prop
def PO (X:Cx)(e:Option Expr)(t:TO):Prop:=
 ∀(Y:Yb) (s:Shared) (Z: St) (H:Hp) (Q:Option Int->Hp->Prop),Inv X Y Z H s->t Z H Q ->
  YI X (evalPart e X.env) (λu s'=>∃o a,Inv X Y Z a s'/\IsPart u o/\Q o a) X.xe s
def N9:TO:=λ_ H Q=>Q none H
def u0 (t:TE):TO:=λZ H Q=>t Z H λx a=>∃i,x=.int i/\Q (some i) a
def ET {ns:Yh}:∀{a:Yf},js (ns.map V.int) a->IntsAre a ns:=by
 induction ns with
 |nil=>intro a r;cases r;exact .nil
 |cons n ns b =>
  intro a r;cases r with
  |cons c f =>
   obtain⟨t,e⟩:=c;subst e;exact .cons n t (b f)
section
variable {X:Cx}{e:Expr}{te:TE}{lo hi:Option Expr}{tl th:TO}{pos p2:Pos}
def NA:PO X none N9:=λY s Z H Q I h=>Zb ⟨none,H,I,.none,h⟩
def NB (h:PE X e te):PO X (some e) (u0 te):=by
 intro Y s Z H Q I a;refine jH (h Y s Z H _ I a) λu j ⟨x,b,c,f,g⟩=>?_;obtain⟨i,rfl,q⟩:=g;obtain⟨t,rfl⟩:=f;exact⟨some i,b,c,.int i t,q⟩
def uU (K:W.Frag):R2:=λx y H Q=>∃a b c ys,x=.ref a/\y=.ref b/\y9 K H a c/\y9 K H b ys/\c ≠ []/\c.length+ys.length<=sizeLine /\
 (ys=[]->Q (.ref a) H)/\(ys ≠ []->∀p,H p=none->Q (.ref p) (upd H p (.tup (c++ys))))
def js.nil_iff {a:YE}{b:Yf}(r:js a b):b=[]↔a=[]:=by
 cases r with
 |nil=>simp
 |cons _ _=>simp
def NC:xb X (binaryOp .Add) (uU X.K):=by
 intro Y s Z H x y v u Q I i j h;obtain⟨a,b,t,ys,rfl,rfl,l,m,n,hz,o,p⟩:=h;cases i;cases j;obtain⟨its,f,r,_⟩:=I.tuple l;obtain⟨g,c,p2,_⟩:=I.tuple m;refine HT.cat_tup r p2 (λz=>n (f.nil_iff.mp z)) (λz=>⟨.ref a,H,I,rfl,o (c.nil_iff.mp z)⟩) (λz=>⟨.ref s.heap.objs.size,_,I.laid (λb A q=>Zq _ q) (Zf _) ?_,rfl,p (λw=>z (c.nil_iff.mpr w)) _ (I.hok.fresh (Zf _))⟩) (by rwa [<- f.length,<- c.length]);exact⟨⟨(),⟨_,Zr _ rfl,rfl⟩⟩,_,f.append c,IsTup.new _ _⟩
end
def zg (n:Nat)(i:Int):Option Nat:=if 0<=i then(if i<n then some i.toNat else none) else if -(n:Int)<=i then some (i+n).toNat else none
def qo {α: Type}(a:List α)(i:Int):Option α:= (zg a.length i).bind λj=>a[j]?
def EU {n:Nat}{i:Int}{j:Nat}(h:zg n i=some j):seqIndex? i n=some j/\j<n /\ -(n:Int)<=i/\i<n:=by
 grind[zg,Zqi,seqIndex_of,seqIndex_neg]
def Cp {α: Type}{a:List α}{i:Int}{v:α}(h:qo a i=some v):∃j,seqIndex? i a.length=some j/\a[j]? = some v/\j<a.length /\ -(a.length:Int)<=i/\i<a.length:=by
 unfold qo at h;cases e:zg a.length i with
 |none=>simp_all
 |some j =>
  rw[e] at h;obtain⟨b,c,f,g⟩:=EU e;exact⟨j,b,h,c,f,g⟩
def Av (b:Expr):Prop:=∀o i,subscripted b false o i=operate [o,i] (getItem o i)
def yU (X:Cx)(r:R2):Prop:=
 ∀(b a:Expr) (Y:Yb) (s:Shared) (Z: St) (H:Hp) (x y:V) (v u:Value) (Q:VK),Inv X Y Z H s->ju x v->ju y u->r x y H Q ->
  subscripted a false v u=operate [v,u] (getItem v u)->YI X (subscriptTail b a v u) (EP X Y Z Q) X.xe s
def r3 (X:Cx)(id:String)(r:V->YE->Hp->VK->Prop):Prop:=
 ∀(Y:Yb) (s:Shared) (Z: St) (H:Hp) (x:V) (a:YE) (v:Value) (b:Yf) (Q:VK),Inv X Y Z H s->ju x v->js a b->r x a H Q ->
  YI X (call (.builtin id) (v::b)) (EP X Y Z Q) X.xe s
section
variable {X:Cx}{a b:Expr}{ta tb:TE}{pos:Pos}
def yU.or {r f:R2}(h:yU X r)(h':yU X f):yU X (λx y H Q=>r x y H Q\/f x y H Q):=by
 intro c e Y s Z H x y v u Q I g i q hs;rcases q with q|q
 .exact h c e Y s Z H x y v u Q I g i q hs
 .exact h' c e Y s Z H x y v u Q I g i q hs
def Cq {r:R2}(c:yU X r)(e:PE X a ta)(f:PE X b tb)(hs:Av b):PE X (.Subscript a b pos) (vm r ta tb):=λY s Z H Q I h=>Subscript_ (vA e f I h λv u g x y i j l m q=>c a b Y g Z i x y v u Q j l m q (hs _ _))
def uS (K:W.Frag):R2:=λx y H Q=>∃p c i v,x=.ref p/\y=.int i/\qy K H p c/\qo c i=some v/\Q v H
def uQ (K:W.Frag):R2:=λx y H Q=>∃p c i v,x=.ref p/\y=.int i/\y9 K H p c/\qo c i=some v/\Q v H
def uR:R2:=λx y H Q=>∃z i c,x=.str z/\y=.int i/\z.length<=sizeLine/\qo z.cps.toList i=some c/\Q (.str ⟨#[c]⟩) H
def rG:yU X (uS X.K):=by
 intro e f Y s Z H x y v u Q I A B h hs;obtain⟨p,K,i,z,rfl,rfl,C,E,q⟩:=h;cases A;obtain⟨t,rfl⟩:=B;obtain⟨its,r,pl,hz⟩:=I.list C;obtain⟨j,m,F,L,G,J⟩:=Cp E;obtain⟨w,n,g⟩:=r.get F;have M:=r.length;have N:=Xj;have c:EP X Y Z Q w s:=⟨z,H,I,g,q⟩;by_cases o:0<=i
 .have l:i.toNat=j:=by
   rw[seqIndex_of o J] at m
   simp_all
  exact item_listR pl.isList o () (by rw[l];simpa using n) c hs
 .have l:(i+(its.toArray.size:Int)).toNat=j:=by
   rw[seqIndex_neg () G] at m
   simp_all
  exact subscriptTail_builtinR pl.isList.typeIs slot_list_getitem.lookup
   (wpAny_getItem_list_neg pl.isList () () () (by rw[l];simpa using n) ⟨rfl,c⟩) hs
def tP:yU X (uQ X.K):=by
 intro c e Y s Z H x y v u Q I l m h hs;obtain⟨p,C,i,z,rfl,rfl,n,o,q⟩:=h;cases l;obtain⟨t,rfl⟩:=m;obtain⟨its,r,pl,hz⟩:=I.tuple n;obtain⟨j,E,A,F,G,J⟩:=Cp o;obtain⟨w,B,f⟩:=r.get A;have K:=r.length;have L:=Xj;have g:EP X Y Z Q w s:=⟨z,H,I,f,q⟩;exact subscriptTail_builtinR pl.typeIs slot_tuple_getitem.lookup
  (getItem_tuple (j:=j) pl () () () (by simpa using B) ⟨rfl,g⟩) hs
def ND:yU X uR:=by
 intro e f Y s Z H x y v u Q I l m h hs;obtain⟨z,i,c,rfl,rfl,hz,n,q⟩:=h;obtain⟨t,rfl⟩:=l;obtain⟨t',rfl⟩:=m;obtain⟨j,g,o,A,p,r⟩:=Cp n;have w:z.cps.toList.length=z.length:=by rfl
 rw[w] at g p r;have B:=Xj;exact tail_any (typeIs_str s z t) slot_str_getitem.lookup (getItem_str (by
  grind) (by rw[g];simpa using o) ⟨.str ⟨#[c]⟩,H,I.tok _,⟨_,rfl⟩,q⟩) hs
def pJ (K:W.Frag):R2:=λx y H Q=>uS K x y H Q\/uQ K x y H Q\/uR x y H Q
def NE:yU X (pJ X.K):=rG.or (tP.or ND)
def NF (its:Yf)(n j)(u):Obj.mapSeq (·.setIfInBounds j u) { cls:=.type "list",data:=.seq its.toArray n }={ cls:=.type "list",data:=.seq (its.set j u).toArray n }:=by
 simp[Obj.mapSeq]
theorem Inv.lst {Y:Yb}{Z: St}{H:Hp}{s:Shared}{p:Addr}{c:YE}(I:Inv X Y Z H s)(h:H p=some (.lst c)):
 ∃(its:Yf) (n:Nat),js c its/\s.heap.get? p=some { cls:=.type "list",data:=.seq its.toArray n }/\c.length<=sizeLine:=have ⟨z,its,n,r,e⟩:=I.hok p _ h;⟨its,n,r,e,z⟩
def Inv.lstUpd {Y:Yb}{Z: St}{H:Hp}{s:Shared}{p:Addr}{j ys:YE}{its c:Yf}{n g:Nat}{f:Obj->Obj}(I:Inv X Y Z H s)(h:H p=some (.lst j))
 (l:s.heap.get? p=some { cls:=.type "list",data:=.seq its.toArray n }) (i:f { cls:=.type "list",data:=.seq its.toArray n }={ cls:=.type "list",data:=.seq c.toArray g }) (r:js ys c) (hz:ys.length<=sizeLine) (t):
 Inv X Y Z (upd H p (.lst ys)) { s with heap:=s.heap.update p f,toks:=t }:=by
 have e:(s.heap.update p f).get? p=some { cls:=.type "list",data:=.seq c.toArray g }:=by
  rw[Heap.get?_update_self f l (by rw[i]<;>rfl),i]
 exact I.write (by rw[h];trivial) (.inl rfl) (λb u m q=>(Heap.get?_update_other _ _ (Ne.symm m)).trans q) ⟨_,e⟩ ⟨hz,c,g,r,e⟩
def uP:V->V->V->Hp->(Hp->Prop)->Prop:=λo i v H Q=>∃p c k j,o=.ref p/\i=.int k/\H p=some (.lst c)/\zg c.length k=some j/\Q (upd H p (.lst (c.set j v)))
def NG:fY X uP:=by
 intro Y s Z H o i v m w u Q I c e f h;obtain⟨p,x,k,j,rfl,rfl,hp,g,q⟩:=h;cases c;obtain⟨t,rfl⟩:=e;obtain⟨its,n,r,l,hz⟩:=I.lst hp;obtain⟨y,z,A,B⟩:=EU g;have C:=r.length;have E:=Xj;have F:=
  I.lstUpd hp l (NF its n j u) (r.set f j) () s.toks
 grind[seqIndex_of,Zqi,W.ki_setAt,seqIndex_neg,W.ki_setBack]
def NH:qa X (.builtin "len") (λf H Q=>∃p ys,f=[.ref p]/\(qy X.K H p ys\/y9 X.K H p ys)/\Q (.int ys.length) H):=by
 intro Y s Z H f i Q I r h;obtain⟨p,ys,rfl,hq,q⟩:=h;obtain⟨u,rfl,g⟩:=Ka r;cases g;have j:=Xj;rcases hq with hq|hq
 .obtain⟨its,e,pl,hz⟩:=I.list hq;have c:=e.length;exact Calls.call_len_list pl.isList () ⟨.int ys.length,H,I.tok _,⟨s.toks+1,()⟩,q⟩
 .obtain⟨its,e,pl,hz⟩:=I.tuple hq;have c:=e.length;exact len_tuple pl () ⟨.int ys.length,H,I.tok _,⟨s.toks+1,()⟩,q⟩
def NI:qa X (.builtin "len") (λc H Q=>∃z,c=[.str z]/\z.length<=sizeLine/\Q (.int z.length) H):=by
 intro Y s Z H c e Q I r h;obtain⟨z,rfl,hz,q⟩:=h;obtain⟨u,rfl,t,rfl⟩:=Ka r;have f:=Xj;exact len_str () ⟨.int z.length,H,I.tok _,⟨_,rfl⟩,q⟩
def qa.or {f:Value}{r e:YE->Hp->VK->Prop}(h:qa X f r)(h':qa X f e):qa X f (λc H Q=>r c H Q\/e c H Q):=by
 intro Y s Z H c g Q I rs q;rcases q with q|q
 .exact h Y s Z H c g Q I rs q
 .exact h' Y s Z H c g Q I rs q
def NJ:qa X (.type "list") (λw H Q=>∃p ys,w=[.ref p]/\(qy X.K H p ys\/y9 X.K H p ys)/\∀l,H l=none->Q (.ref l) (upd H l (.lst ys))):=by
 intro Y s Z H w z Q I r h;obtain⟨p,ys,rfl,hq,q⟩:=h;obtain⟨u,rfl,y⟩:=Ka r;cases y;have g:∀its,js ys its->ys.length<=sizeLine->∀h' c,(∀b x,s.heap.get? b=some x->h'.get? b=some x) ->
  h'.get? s.heap.objs.size=some { cls:=.type "list",dict:=none,data:=.seq its.toArray c,slots:=#[] }->EP X Y Z Q (.ref s.heap.objs.size) { s with heap:=h' }:=λits f hz h' c i e =>
  ⟨.ref s.heap.objs.size,_,I.laid i (Zf _) (show xZ X.prog X.w _ h' _ (.lst ys) from ⟨hz,its,c,f,e⟩),rfl,q _ (I.hok.fresh (Zf _))⟩
 rcases hq with hq|hq
 .obtain⟨its,f,pl,hz⟩:=I.list hq;have j:=f.length;obtain⟨o,m,t,n,v⟩:=pl.isList;exact call_list_seq p (.inl rfl) m t v (λh' c i e=>g its f hz h' c i e) (by simp<;>lia)
 .obtain⟨its,f,pl,hz⟩:=I.tuple hq;have j:=f.length;obtain⟨o,m,t,n,v⟩:=pl;exact call_list_seq p (.inr rfl) m t v (λh' c i e=>g its f hz h' c i e) (by simp<;>lia)
def NK:qa X (.type "tuple") (λg H Q=>∃p ys,g=[.ref p]/\((qy X.K H p ys/\∀l,H l=none->Q (.ref l) (upd H l (.tup ys)))\/(y9 X.K H p ys/\Q (.ref p) H))):=by
 intro Y s Z H g v Q I r h;obtain⟨p,ys,rfl,h⟩:=h;obtain⟨u,rfl,m⟩:=Ka r;cases m;rcases h with ⟨c,q⟩|⟨c,q⟩
 .obtain⟨its,f,pl,hz⟩:=I.list c;have i:=f.length;refine call_tuple_list pl.isList (λh' n=>?_) ();have j:Inv X Y Z H { s with heap:=h' }:=I.kept n;have t:Inv X Y Z (upd H h'.objs.size (.tup ys)) { s with heap:=h'.push { cls:=.type "tuple",data:=.seq its.toArray } } :=
   j.laid (λb o e=>Zq _ e) (Zf _) (⟨⟨hz,⟨_,Zr _ rfl,rfl⟩⟩,its,f,IsTup.new _ _⟩)
  exact⟨.ref h'.objs.size,_,t,rfl,q _ (j.hok.fresh (Zf _))⟩
 .obtain⟨its,f,pl,hz⟩:=I.tuple c;exact call_tuple_same pl ⟨.ref p,H,I,rfl,q⟩
def ml (K:W.Frag)(T:String)(x:V)(H:Hp):Prop:=match x with
 | .str _=>T = "str"
 | .int _=>T = "int"
 | .ref p=>(T = "list" /\ ∃e,qy K H p e)\/(T = "tuple" /\ ∃o,K.lookup p=some o/\o.cls=.type "tuple" /\ o.dict=none) \/
  (T = "dict" /\ ((∃c,H p=some (.dK c))\/∃c,H p=some (.dT c)))\/(T = "set" /\ ∃S n,H p=some (.set S n))
 |_=>False
def EV {Y:Yb}{Z: St}{H:Hp}{s:Shared}{T:String}{x:V}{v:Value}(I:Inv X Y Z H s)(r:ju x v)(h:ml X.K T x H):
 s.TypeIs v T/\∀a,v=.ref a->∃q,s.heap.get? a=some q/\q.dict=none:=by
 cases x with
 |str z =>
  obtain⟨t,rfl⟩:=r;cases (h);exact⟨typeIs_str s z t,λ_ e=>nomatch e⟩
 |int i =>
  obtain⟨t,rfl⟩:=r;cases (h);exact⟨typeIs_int s i t,λ_ e=>nomatch e⟩
 |ref p =>
  cases r;rcases h with ⟨rfl,y,u⟩|⟨rfl,o,f,w,j⟩|⟨rfl,f⟩|⟨rfl,S,n,f⟩
  .obtain⟨its,_,pl,_⟩:=I.list u;refine⟨pl.isList.typeIs,λa e=>?_⟩;cases e;obtain⟨o,n,e,c,j,_⟩:=pl;exact⟨o,e,j⟩
  .refine⟨⟨o,I.kIn p o f,w⟩,λa e=>?_⟩;cases e;exact⟨o,I.kIn _ o f,j⟩
  .have z:∃o,s.heap.get? p=some o/\o.ExactDict:=by
    rcases f with ⟨l,f⟩|⟨l,f⟩
    .obtain⟨_,_,_,_,o,_,_,e,g,_⟩:=I.hok p _ f;exact⟨o,e,g⟩
    .obtain⟨_,_,_,_,o,_,_,e,g,_⟩:=I.hok p _ f;exact⟨o,e,g⟩
   obtain⟨o,e,g⟩:=z;refine⟨⟨o,e,g.1⟩,λa m=>?_⟩;cases m;exact⟨o,e,g.2.1⟩
  .obtain⟨o,_,_,_,e,g,_⟩:=I.hok p _ f;refine⟨⟨o,e,g.1⟩,λa m=>?_⟩;cases m;exact⟨o,e,g.2.1⟩
 |_=>exact False.elim h
def uG (K:W.Frag)(T:String)(r:V->YE->Hp->VK->Prop)(e:TE):TE:=λZ H Q=>e Z H λx c=>ml K T x c/\r x [] c Q
def bb (K:W.Frag)(T:String)(r:V->YE->Hp->VK->Prop)(e:TE)(t:TA):TE:=λZ H Q=>e Z H λx c=>ml K T x c/\t Z c λf g=>r x f g Q
variable {o e:Expr}{es:Ym}{to:TE}{t:TA}{name:Str}{apos cpos:Pos}{T id:String}{r:V->YE->Hp->VK->Prop}
def NL (m:PlainAttrs T)(g:Slot T name id)(i:typeOf (.builtin id)=pure (.type "method_descriptor"))(n:r3 X id r)(p:PE X o to)
 (c:attributeBase o name X.env (eval o X.env)=eval o X.env:=by rfl) (f:(apos.endLine == cpos.line)=true:=by rfl):PE X (.Call (.Attribute o name apos) [] [] cpos) (uG X.K T r to):=by
 intro Y s Z H Q I h;refine wpAny_Call_method0_late c f (jH (p Y s Z H _ I h) λv q ⟨x,u,j,l,w,y⟩=>?_);obtain⟨z,A⟩:=EV j l w;exact⟨T,id,m,g,i,z,A,Calls.callWith_builtin rfl (PySem.evalArgs_none (n Y q Z u x [] v [] Q j l .nil y))⟩
def K6 (q:PlainAttrs T)(i:Slot T name id)(l:typeOf (.builtin id)=pure (.type "method_descriptor"))(u:r3 X id r)(w:PE X o to)(y:PA X (e::es) t)
 (f:attributeBase o name X.env (eval o X.env)=eval o X.env:=by rfl)
 (j:((backTo cpos (starEach (e::es) X.env)).all (λx => !x.1)&&(backToKw cpos (keywordEach [] X.env)).all (λx=>x.1.isSome)
  && decide ((e::es).length+([]:List Keyword).length+(if([]:List Keyword).isEmpty then 0 else 1)<30))=true:=by rfl)
 (g:(apos.endLine == cpos.line)=true:=by rfl) (hs:starEach (e::es) X.env=(false,eval e X.env)::starEach es X.env:=by rfl) (c:(backTo cpos (starEach es X.env)).any (·.1)=false:=by rfl):
 PE X (.Call (.Attribute o name apos) (e::es) [] cpos) (bb X.K T r to t):=by
 intro Y s Z H Q I h;refine wpAny_Call_method_late f j g rfl (jH (w Y s Z H _ I h) λv z ⟨x,A,m,n,B,C⟩=>?_);obtain⟨E,F⟩:=EV m n B;refine⟨T,id,q,i,l,E,F,?_⟩;have p:=y cpos Y z Z A _ m C;rw[hs] at p ⊢;exact Calls.callWith_builtin (by show(false||(backTo cpos (starEach es X.env)).any (·.1))=false;rw[c]<;>rfl) (Calls.evalArgs_plain (jH p λG J ⟨K,L,M,N,O⟩=>u Y J Z L x K v G Q M n N O))
end
def sK (X:Cx)(id:String)(r:V->YE->Hp->VK->Prop):Prop:=
 ∀(Y:Yb) (s:Shared) (Z: St) (H:Hp) (x:V) (a:YE) (v:Value) (b:Yf) (Q:VK),Inv X Y Z H s->ju x v->js a b->r x a H Q ->
  YI X (call (.builtin id) (v::b)) (EP X Y Z Q) X.xe s
def js.one:∀{x:V} {a:Yf},js [x] a->∃u,a=[u]/\ju x u:=λh=>by
 cases h with
 |cons r t=>cases t;exact⟨_,rfl,r⟩
def zy:∀{a:Yf},js [] a->a=[]
 |_,.nil=>rfl
section
variable {X:Cx}{Y:Yb}{Z: St}{H:Hp}{s:Shared}{l b:Addr}{xs ys zs:YE}
def Inv.lset {its a:Yf}{n:Nat}{f:Yn->Array Value}{t':Nat}(I:Inv X Y Z H s)(c:H l=some (.lst xs))
 (e:s.heap.get? l=some { cls:=.type "list",data:=.seq its.toArray n }) (g:f its.toArray=a.toArray) (h:js ys a) (hz:ys.length<=sizeLine):
 Inv X Y Z (upd H l (.lst ys)) { s with heap:=s.heap.update l (Obj.mapSeq f),toks:=t' }:=by
 have q:=PySem.IsL.update e f;rw[g] at q;exact I.write (by rw[c];exact trivial) (.inl rfl) (λm u i j=>(Heap.get?_update_other s.heap (Obj.mapSeq f) (Ne.symm i)).trans j) ⟨_,q⟩ ⟨hz,a,_,h,q⟩
def Inv.lnew {its:Yf}{t':Nat}(I:Inv X Y Z H s)(a:js ys its)(hz:ys.length<=sizeLine):
 Inv X Y Z (upd H s.heap.objs.size (.lst ys)) { s with heap:=s.heap.push { cls:=.type "list",data:=.seq its.toArray },toks:=t' } :=
 I.laid (λ_ _ q=>Zq _ q) (Zf _) ⟨hz,its,0,a,Zr _ rfl⟩
theorem Inv.fresh (I:Inv X Y Z H s):H s.heap.objs.size=none:=I.hok.fresh (Zf _)
def Inv.lstM (I:Inv X Y Z H s)(a:H l=some (.lst xs)):xs.length<=sizeLine/\∃(its:Yf) (n:Nat),js xs its/\xs.length=its.length/\s.heap.get? l=some { cls:=.type "list",data:=.seq its.toArray n }:=have ⟨z,its,n,r,e⟩:=I.hok l _ a;⟨z,its,n,r,r.length,e⟩
def NM {n:Nat}(h:n<=sizeLine):Builtin.List.listTooLong n=false:=by
 simp_all [Builtin.List.listTooLong]
end
section
variable {X:Cx}
def Cr:V->YE->Hp->VK->Prop:=λx b H Q=>∃l a y,x=.ref l/\b=[y]/\H l=some (.lst a)/\a.length<sizeLine/\Q .non (upd H l (.lst (a++[y])))
def KS:sK X "list.append" Cr:=by
 intro Y s Z H x g v i Q I b c h;obtain⟨l,j,y,rfl,rfl,a,hz,q⟩:=h;cases b;obtain⟨u,rfl,f⟩:=c.one;obtain⟨z,its,n,r,m,e⟩:=I.lstM a;refine call_meets F.slot_list_append ⟨_,e,rfl⟩ F.entry_list_append (F.args_list_append_2 _ _) (PySem.list_append l its.toArray n u ()) ⟨e,⟨.non,_,I.lset a e () (r.append (.cons f .nil)) ?_,rfl,q⟩⟩
 grind
def EW:V->YE->Hp->VK->Prop:=λx e H Q=>∃l b a c,x=.ref l/\e=[.ref b]/\H l=some (.lst a)/\H b=some (.lst c)/\a.length+c.length<=sizeLine/\Q .non (upd H l (.lst (a++c)))
def EX:sK X "list.extend" EW:=by
 intro Y s Z H x y v A Q I g i h;obtain⟨l,b,B,C,rfl,rfl,f,j,hz,q⟩:=h;cases g;obtain⟨u,rfl,m⟩:=i.one;cases m;obtain⟨z,its,n,r,E,e⟩:=I.lstM f;obtain⟨G,a,o,p,t,w⟩:=I.lstM j;have hsz:its.toArray.size+a.toArray.size<=sizeLine:=by simp_all
 have c:¬(!its.toArray.isEmpty&&Builtin.List.listTooLong (its.toArray.size+a.toArray.size))=true:=by
  rw[NM hsz,Bool.and_false];exact Zj
 refine call_meets F.slot_list_extend ⟨_,e,rfl⟩ F.entry_list_extend (F.args_list_extend_2 _ _)
  (AutoSeq1.list_extend_list_list_0 l its.toArray n b a.toArray o c () ()) ⟨e,w,⟨.non,_,I.lset f e () (r.append p) ?_,rfl,q⟩⟩
 simp_all
end
section
variable {prog:Program}{w:World}{A:Around}{E:Ya}{s:Shared}
set_option maxRecDepth 100000 in
end
section
variable {κ: Type}[DecidableEq κ]
def qz (a:List (κ × V))(k:κ):YF:=(a.find? λb=>decide (b.1=k)).map (·.2)
def q0 (a:List (κ × V))(k:κ)(v:V):List (κ × V):=
 if(a.any λb=>decide (b.1=k))=true then a.map (λb=>if b.1=k then(b.1,v) else b) else a++[(k,v)]
def Cs {p:κ × V}{r:List (κ × V)}{k:κ}(e:p.1=k):qz (p::r) k=some p.2:=by simp[qz,e]
theorem Ct {p:κ × V}{r:List (κ × V)}{k:κ}(e:¬p.1=k):qz (p::r) k=qz r k:=by simp[qz,e]
theorem EY (k):∀a:List (κ × V),(a.any λb=>decide (b.1=k))=(qz a k).isSome
 | []=>rfl
 |p::r=>by
  rw[List.any_cons];by_cases e:p.1=k
  .simp[Cs e,Zp e]
  .rw[Ct e,Zo e,Bool.false_or];exact EY k r
def Cu (a:List (κ × V))(k)(v):(q0 a k v).length<=a.length+1:=by
 grind[q0,Zql,List.length_append,List.length_cons,List.length_nil]
def xk.isSome_eq {o:YF}{u:Yg}(r:xk o u):o.isSome=u.isSome:=by
 cases o with
 |none=>cases u with
  |none=>rfl
  |some _=>exact(r).elim
 |some _=>cases u with
  |none=>exact(r).elim
  |some _=>rfl
theorem xk.getD {o:YF}{u:Yg}{d:V}{a:Value}(r:xk o u)(b:ju d a):ju (o.getD d) (u.getD a):=by
 cases o with
 |none=>cases u with
  |none=>exact b
  |some _=>exact(r).elim
 |some _=>cases u with
  |none=>exact(r).elim
  |some _=>exact r
def KV.val {a:List (κ × V)}{c:List (κ × Value)}(r:KV a c)(k):xk (qz a k) (valueAt c k):=by
 induction r with
 |nil=>exact True.intro
 | @cons p q ps f h t g =>
  obtain⟨i,j⟩:=h;by_cases e:p.1=k
  .have b:valueAt (q::f) k=some q.2:=by simp_all [valueAt]
   rwa [Cs e,b]
  grind[valueAt,Ct]
theorem KV.any {a:List (κ × V)}{c:List (κ × Value)}(r:KV a c)(k):(a.any λb=>decide (b.1=k))=c.any λb=>decide (b.1=k):=by
 induction r with
 |nil=>rfl
 |cons h t e=>simp_all
def KV.repl {b:List (κ × V)}{c:List (κ × Value)}(r:KV b c)(k){y:V}{u:Value}(f:ju y u):
 KV (b.map λa=>if a.1=k then(a.1,y) else a) (c.map λa=>if a.1=k then(a.1,u) else a):=by
 induction r with
 |nil=>exact .nil
 | @cons p q ps g h t e =>
  refine .cons ?_ e
  grind
def KV.put {a:List (κ × V)}{b:List (κ × Value)}(r:KV a b)(k){y:V}{u:Value}(c:ju y u):KV (q0 a k y) (stored b k u):=by
 unfold q0 stored;rw[r.any k];by_cases e:(b.any λf=>decide (f.1=k))=true
 .rw[Zd e,Zd e];exact r.repl k c
 .rw[Ze e,Ze e];exact Paired.snoc r ⟨rfl,c⟩
theorem KV.length {a:List (κ × V)}{b:List (κ × Value)}(r:KV a b):a.length=b.length:=Paired.length r
end
def XP {P:Program}{w:World}{k:jC}{u:Value}(r:ju (kV k) u):(Qx P w).is k u=true:=by
 cases k with
 |inl i=>have ⟨t,e⟩:=(r);subst e;exact M8 P w i t
 |inr x=>have ⟨t,e⟩:=(r);subst e;exact M9 P w x t
theorem EZ {P:Program}{w:World}:∀{ks:List jC} {a:Yf},js (ks.map kV) a->ItemsAre (Qx P w) ks a
 | [],_,r=>by cases r;exact .nil
 |k::ks,_,r=>by
  cases r with
  |cons h t=>exact .cons (XP h) (EZ t)
abbrev KT (H:Hp):List (List jC×V)->List (List jC×Addr×Value)->Prop:=Paired λp q=>p.1=q.1/\H q.2.1=some (.tup (p.1.map kV))/\ju p.2 q.2.2
def KT.val {H:Hp}{a:List (List jC×V)}{c:List (List jC×Addr×Value)}(r:KT H a c)(k):xk (qz a k) ((atKey c k).map (·.2)):=by
 induction r with
 |nil=>exact True.intro
 | @cons p q ps f h t g =>
  obtain⟨i,_,j⟩:=h;by_cases e:p.1=k
  .have b:atKey (q::f) k=some q.2:=by simp_all [atKey]
   rwa [Cs e,b]
  grind[atKey,Ct]
def KT.repl {H:Hp}{a:List (List jC×V)}{c:List (List jC×Addr×Value)}(r:KT H a c)(k){y:V}{u:Value}(f:ju y u):
 KT H (a.map λb=>if b.1=k then(b.1,y) else b) (c.map (putAt k u)):=by
 induction r with
 |nil=>exact .nil
 | @cons p q ps g h t e =>
  refine .cons ?_ e
  grind[putAt]
def KT.put {H:Hp}{a:List (List jC×V)}{c:List (List jC×Addr×Value)}(r:KT H a c)(k){b:Addr}{y:V}{u:Value}(g:H b=some (.tup (k.map kV)))(f:ju y u):
 KT H (q0 a k y) (storedH c k b u):=by
 have e:(a.any λh=>decide (h.1=k))=(atKey c k).isSome:=by
  rw[EY,(r.val k).isSome_eq,Option.isSome_map]
 unfold q0 storedH;rw[e];by_cases q:(atKey c k).isSome=true
 .rw[Zd q,Zd q];exact r.repl k f
 .rw[Ze q,Ze q];exact Paired.snoc r ⟨rfl,g,f⟩
def KT.keeps {H c:Hp}{a:List (List jC×V)}{e:List (List jC×Addr×Value)}(r:KT H a e)(f:∀b ys,H b=some (.tup ys)->c b=some (.tup ys)):KT c a e:=
 xB r ()
section
variable {P:Program}{w:World}{H:Hp}{h:Heap}{a:Addr}
def Fa {u:HO}(ok:qK P w H h)(e:Rd H a u):xZ P w H h a u:=e.ok ok
def WA {b:List (jC×V)}(ok:qK P w H h)(e:Rd H a (.dK b)):b.length<=sizeLine/\(a == sysModules)=false/\∃c,KV b c/\h.DictOf (Qx P w) a c:=
 Fa ok e
def Cv {b:List (jC×V)}(ok:qK P w H h)(e:H a=some (.dK b)):b.length<=sizeLine/\(a == sysModules)=false/\∃c,KV b c/\h.DictOf (Qx P w) a c:=WA ok (.inl e)
theorem XQ {ks:List jC}(ok:qK P w H h)(e:H a=some (.tup (ks.map kV))):(tupleKind (Qx P w)).is h ks a:=have ⟨_,its,r,o,b,c,n,f⟩:=(ok a _ e);⟨o,its.toArray,n,b,c,f,by simpa using EZ r⟩
def Xl {b:List (List jC×V)}(ok:qK P w H h)(e:Rd H a (.dT b)):b.length<=sizeLine/\(a == sysModules)=false /\
 ∃c,KT H b c/\h.DictOfH (tupleKind (Qx P w)) a c:=by
 obtain⟨z,y,c,r,o,es,ep,g,i,j,n,s⟩:=(Fa ok e);refine⟨z,y,c,r,o,es,ep,g,i,j,n,λx f=>?_,s⟩;have all:∀{l:List (List jC×V)} {m:List (List jC×Addr×Value)},KT H l m->∀x∈m,(tupleKind (Qx P w)).is h x.1 x.2.1:=by
  intro l m q
  induction q with
  |nil=>intro x f;exact nomatch f
  | @cons p q ps u v t A =>
   grind[XQ]
 exact all r x f
def fG {b:List (List jC×V)}(ok:qK P w H h)(e:H a=some (.dT b)):b.length<=sizeLine/\(a == sysModules)=false /\
 ∃c,KT H b c/\h.DictOfH (tupleKind (Qx P w)) a c:=Xl ok (.inl e)
end
def x9 (H:Hp)(a:Addr)(y:V)(r:YF):Prop:=
 (∃c k,Rd H a (.dK c)/\y=kV k/\r=qz c k)\/∃c k b,Rd H a (.dT c)/\y=.ref b/\H b=some (.tup (k.map kV))/\r=qz c k
def zA (H:Hp)(a:Addr)(y v:V)(e:Hp):Prop:=
 (∃c k,H a=some (.dK c)/\y=kV k/\c.length<sizeLine/\e=upd H a (.dK (q0 c k v))) \/
 ∃c k b,H a=some (.dT c)/\y=.ref b/\H b=some (.tup (k.map kV))/\c.length<sizeLine/\e=upd H a (.dT (q0 c k v))
theorem x9.k {H:Hp}{a:Addr}{b:List (jC×V)}{k:jC}(e:H a=some (.dK b)):x9 H a (kV k) (qz b k):=.inl ⟨b,k,.inl e,rfl,rfl⟩
theorem zA.k {H:Hp}{a:Addr}{b:List (jC×V)}{k:jC}{v:V}(e:H a=some (.dK b))(c:b.length<sizeLine):zA H a (kV k) v (upd H a (.dK (q0 b k v))):=.inl ⟨b,k,e,rfl,c,rfl⟩
section
variable {X:Cx}{Y:Yb}{Z: St}{H:Hp}{s:Shared}{a:Addr}{y v:V}{u r:Value}{o:YF}{A:Around}{E:Ya}
def Inv.big (I:Inv X Y Z H s):sysModules<s.heap.objs.size:=have h:=(I.mod.glob.keeps I.bk).lt;Uf (by decide) h
def NN {Q:Ya}(w:A.units+1<cLine)(I:Inv X Y Z H s)(g:x9 H a y (some v))(t:ju y u)(h:∀i s',Inv X Y Z H s'->ju v i->Q i s'):
 wpAny (model X.prog X.w) A (getItem (.ref a) u) Q E s:=by
 rcases g with ⟨j,k,e,m,l⟩|⟨j,k,b,e,m,x,l⟩
 .subst m;obtain⟨z,B,C,c,dd⟩:=WA I.hok e;obtain⟨i,n,f⟩:=qD (by rw[l];exact c.val k);exact wpAny_getItem_of (XP t) dd.mapOf n (h i _ (I.tok _) f)
 .subst m;cases (t);obtain⟨z,B,F,c,dd⟩:=Xl I.hok e;obtain⟨i,n,f⟩:=qD (by rw[l];exact c.val k);obtain⟨p,hp,q⟩:=Jk.mp n;refine wpAny_getItem_heap (tupleKind_room_in1 w) (XQ I.hok x) dd hp ?_;rw[q];exact h i _ (I.tok _) f
def NO {Q:Ya}(n:A.units+1<cLine)(I:Inv X Y Z H s)(g:x9 H a y o)(m:ju y u)(h:∀s',Inv X Y Z H s'->Q (.bool (!o.isSome)) s'):
 wpAny (model X.prog X.w) A (compareOp .NotIn u (.ref a)) Q E s:=by
 rcases g with ⟨f,k,e,i,l⟩|⟨f,k,b,e,i,p,l⟩
 .subst i;obtain⟨z,j,t,c,dd⟩:=WA I.hok e;refine wpAny_notIn_of (XP m) j dd.mapOf ?_;rw[<- (c.val k).isSome_eq,<- l];exact h _ (I.tok _)
 .subst i;cases (m);obtain⟨z,j,w,c,dd⟩:=Xl I.hok e;refine wpAny_notIn_heap (tupleKind_room_in1 n) (XQ I.hok p) j dd ?_;have q:=(c.val k).isSome_eq;rw[Option.isSome_map] at q;rw[<- q,<- l];exact h _ (I.tok _)
def Fb {h':Heap}{t':Nat}{c:HO}(I:Inv X Y Z H s)(e:hB (H a))(hs:Heap.SameBut a s.heap h')(f:∃q,h'.get? a=some q)(new:xZ X.prog X.w (upd H a c) h' a c):
 Inv X Y Z (upd H a c) { s with heap:=h',toks:=t' } :=
 I.write e (.inl rfl) (λb q g z=>(hs.2 b g).trans z) f new
def Fc {P:Program}{w:World}{f:Hp}{h':Heap}{b:List (jC×V)}{c:List (jC×Value)}(z:b.length<=sizeLine)(g:(a == sysModules)=false)(e:KV b c)(dd:h'.DictOf (Qx P w) a c):
 xZ P w f h' a (.dK b):=⟨z,g,c,e,dd⟩
def NP {x:Hp}{Q:Unit->YC}(G:A.units+1<cLine)(I:Inv X Y Z H s)(g:zA H a y v x)(B:ju y u)(C:ju v r)(h:∀s',Inv X Y Z x s'->Q Yt s'):
 wpAny (model X.prog X.w) A (setItem (.ref a) u r) Q E s:=by
 rcases g with ⟨f,k,e,n,l,p⟩|⟨f,k,b,e,n,F,l,p⟩
 .subst n p;obtain⟨z,t,J,i,dd⟩:=Cv I.hok e;have hz:J.length<=sizeLine:=by rwa [<- i.length]
  have w:(q0 f k v).length<=sizeLine:=by have:=Cu f k v;lia
  refine wpAny_setItem_pairs (hsz:=hz) (XP B) dd λh' j hs=>h _ ?_;have K:∃q,h'.get? a=some q:=let ⟨q,_,_,m,_⟩:=j;⟨q,m⟩
  exact Fb I (by rw[e];exact True.intro) hs K (Fc w t (i.put k C) j)
 .subst n p;cases (B);obtain⟨z,t,L,i,dd⟩:=fG I.hok e;have hz:L.length<=sizeLine:=by rwa [<- Paired.length i]
  have w:(q0 f k v).length<=sizeLine:=by have:=Cu f k v;lia
  refine wpAny_setItem_heap (hsz:=hz) (tupleKind_room_in1 G) (XQ I.hok F) dd λh' j hs=>h _ ?_;obtain⟨q,es,ep,m,M,N,O,_,P⟩:=j;refine Fb I (by rw[e];exact True.intro) hs ⟨q,m⟩ ⟨w,t,_,(i.put k F C).keeps λc ys R=>?_,q,es,ep,m,M,N,O,P⟩
  rwa [JF ()]
end
section
variable {X:Cx}{Y:Yb}{Z: St}{H:Hp}{s:Shared}{a:Addr}{kvs:List (jC×V)}{k:jC}{u:Value}{A:Around}{E:Ya}
def fK {Q:Ya}(I:Inv X Y Z H s)(e:Rd H a (.dK kvs))(h:∀t s',Inv X Y Z H s'->Q (.int kvs.length t) s'):wpAny (model X.prog X.w) A (call (.builtin "len") [.ref a]) Q E s:=by
 obtain⟨z,c,f,b,dd⟩:=WA I.hok e;refine call_len_dict c dd (by rw[<- b.length];rw[sizeLine_eq] at z;lia) ?_;rw[<- b.length];exact h _ _ (I.tok _)
end
def wc (i:Expr):Prop:=∀a b,subscripted i false a b=operate [a,b] (getItem a b)
def NQ {prog:Program}{w:World}{A:Around}{E:Ya}{s:Shared}{env:Env}{b a:Expr}{c:Pos}{T id:String}{Q:Ya}
 (e:typeLookup (.type T) "__getitem__" = pure (some (.builtin id))) (hs:wc a)
 (h:YJ prog w A (eval b env) (λo s₁=>YJ prog w A (eval a env) (λi s₂=>s₂.TypeIs o T/\YJ prog w A (getItem o i) Q E s₂) E s₁) E s):
 YJ prog w A (eval (.Subscript b a c) env) Q E s:=by
 refine Subscript_ (Zc h (λo s₁ h₁=>Zc h₁ (λi s₂ h₂=>?_) λ_ _ x=>x) λ_ _ x=>x);obtain⟨f,h₂⟩:=h₂;refine Za (Za (wpAny_specialOf f e ?_));have g:YJ prog w A (subscripted a false o i) (λr s₃=>YJ prog w A (letTemporaryGo b o r >>= λ_=>pure r) Q E s₃) E s₂:=by
  rw[hs o i];exact wpAny_operating (Zc h₂ (λr s₃ h₃=>Za (wpAny_letTemporaryGo (Zb h₃))) λ_ _ x=>x)
 grind[wpAny_pure,wpAny_bind]
def NR {X:Cx}{Y:Yb}{Z: St}{H:Hp}{s:Shared}{a:Addr}{y:V}{o:YF}(I:Inv X Y Z H s)(g:x9 H a y o):s.TypeIs (.ref a) "dict" := by
 rcases g with ⟨c,k,e,_,_⟩|⟨c,k,b,e,_,_,_⟩
 .obtain⟨_,_,f,_,dd⟩:=WA I.hok e;exact dd.typeIs
 .obtain⟨_,_,h,_,dd⟩:=Xl I.hok e;exact dd.typeIs
def uF (c e:TE):TE:=λZ H Q=>c Z H λx f=>e Z f λy b=>∃a v,x=.ref a/\x9 b a y (some v)/\Q v b
def NS (c e:TE):TE:=λZ H Q=>c Z H λy f=>e Z f λx b=>∃a o,x=.ref a/\x9 b a y o/\Q (.bl (!o.isSome)) b
def uO (c e f:TE):TS:=λD Z H=>f Z H λv g=>c Z g λx h=>e Z h λy i=>∃a b,x=.ref a/\zA i a y v b/\D.nx Z b
section
variable {X:Cx}{o i e value:Expr}{pos pos' tpos:Pos}{td ty tv:TE}
def Cw (f:X.A.units+1<cLine)(j:PE X o td)(l:PE X i ty)(hs:wc i):PE X (.Subscript o i pos) (uF td ty):=by
 intro Y s Z H Q I h;refine NQ PySem.F.slot_dict_getitem.lookup hs (jH (j Y s Z H _ I h) λu m ⟨x,n,p,q,r⟩=>jH (l Y m Z n _ p r) λC E ⟨y,t,c,w,a,v,z,g,A⟩=>?_);subst z;obtain rfl:=q;exact⟨NR c g,NN f c g w λF G B b=>⟨v,t,B,b,A⟩⟩
def NT (b:X.A.units+1<cLine)(c:PE X i ty)(f:PE X o td):PC X .NotIn i o (NS ty td):=by
 intro Y s Z H Q I h;refine jH (c Y s Z H _ I h) λB j ⟨y,l,m,n,p⟩=>jH (f Y j Z l _ m p) λu C ⟨x,q,r,t,a,v,w,g,z⟩=>?_;subst w;obtain rfl:=t;exact NO b r g n λE A=>⟨.bl (!v.isSome),q,A,rfl,z⟩
def Fd (b:X.A.units+1<cLine)(c:PE X o td)(f:PE X i ty)(j:PE X value tv)(hs:swapsWith value (some (.Subscript o i pos')) pos.line X.env=pure false):
 PS X (.Assign [.Subscript o i pos'] value pos) (uO td ty tv):=by
 intro Y s Z H D I h;refine wpAny_Assign_Subscript (jH (j Y s Z H _ I h) λr l ⟨v,m,n,p,q⟩=>jH (c Y l Z m _ n q) λu t ⟨x,w,z,A,B⟩=>jH (f Y t Z w _ z B) λL M ⟨y,N,C,E,a,F,G,g,J⟩=>?_) hs;subst G;obtain rfl:=A;exact NP b C g E p λO K=>⟨Z,F,K,J⟩
end
def NU {P:Program}{w:World}{H:Hp}(h:Heap)(a:sysModules<h.objs.size):xZ P w H (h.push { cls:=.type "dict",data:=.dict #[] }) h.objs.size (.dK []):=
 ⟨Ua _,(),[],.nil,Heap.DictOf.new h⟩
def NV:TE:=λ_ H Q=>∀p,H p=none->Q (.ref p) (upd H p (.dK []))
section
variable {X:Cx}{pos:Pos}
def NW:PE X (.Dict [] [] pos) NV:=λY s Z H Q I h =>
 wpAny_Dict_empty ⟨.ref s.heap.objs.size,_,I.laid (λ_ _ q=>Zq _ q) (Zf _) (NU s.heap I.big),rfl,h _ (I.hok.fresh (Zf _))⟩
end
def WC (a more:List (jC×V)):List (jC×V):=more.foldl (λb c=>q0 b c.1 c.2) a
def wh:∀{more:List (jC×V)} {rs:List (jC×Value)} {a:List (jC×V)} {b:List (jC×Value)},KV more rs->KV a b->KV (WC a more) (merged b rs):=by
 intro more rs a b r
 induction r generalizing a b with
 |nil=>intro q;exact q
 | @cons p q ps g h t c =>
  intro f;have e:KV (q0 a p.1 p.2) (stored b q.1 q.2):=by
   have:=f.put p.1 h.2
   rwa [<- h.1]
  exact c e
theorem Fe:∀more a,(WC a more).length<=a.length+more.length
 | [],a=>by show a.length<=a.length+0;lia
 |p::r,a=>by
  have b:=Fe r (q0 a p.1 p.2);have c:=Cu a p.1 p.2;show(WC (q0 a p.1 p.2) r).length<=_
  grind
structure M2 (X:Cx)(o:Expr)(m:Str)(apos:Pos)(e f:Expr)(cpos:Pos):Prop where
 base:attributeBase o m X.env (eval o X.env)=eval o X.env
 few:((backTo cpos (starEach [e,f] X.env)).all (λx => !x.1)&&(backToKw cpos (keywordEach [] X.env)).all (λx=>x.1.isSome)
  && decide (([e,f]:Ym).length+([]:List Keyword).length+(if([]:List Keyword).isEmpty then 0 else 1)<30))=true
 line:(apos.endLine == cpos.line)=true
 trees:backTo cpos (starEach [e,f] X.env)=[(false,eval e X.env),(false,eval f X.env)]
def jf (H:Hp)(a:Addr):Prop:=(∃b,Rd H a (.dK b))\/∃b,Rd H a (.dT b)
def NX {X:Cx}{Y:Yb}{Z: St}{H:Hp}{s:Shared}{a:Addr}(I:Inv X Y Z H s)(d:jf H a):
 s.TypeIs (.ref a) "dict" /\ (∀b,Value.ref a=.ref b->∃c,s.heap.get? b=some c/\c.dict=none)/\(a == sysModules)=false:=by
 rcases d with ⟨f,e⟩|⟨f,e⟩
 .obtain⟨_,g,j,_,dd⟩:=WA I.hok e;refine⟨dd.typeIs,λb q=>?_,g⟩;cases q;obtain⟨c,_,_,h,i,_⟩:=dd;exact⟨c,h,i.2.1⟩
 .obtain⟨_,g,l,_,dd⟩:=Xl I.hok e;refine⟨dd.typeIs,λb q=>?_,g⟩;cases q;obtain⟨c,_,_,h,i,_⟩:=dd;exact⟨c,h,i.2.1⟩
section
variable {X:Cx}{Y:Yb}{Z: St}{H:Hp}{s:Shared}{a:Addr}{y d:V}{u r:Value}{o:YF}{A:Around}{E:Ya}
def NY {Q:Ya}(q:A.units+1<cLine)(I:Inv X Y Z H s)(g:x9 H a y o)(m:ju y u)(n:ju d r)(h:∀p s',Inv X Y Z H s'->ju (o.getD d) p->Q p s'):
 wpAny (model X.prog X.w) A (call (.builtin "dict.get") [.ref a,u,r]) Q E s:=by
 rcases g with ⟨f,k,e,i,l⟩|⟨f,k,b,e,i,t,l⟩
 .subst i;obtain⟨z,j,w,c,dd⟩:=WA I.hok e;refine call_meetsIn PySem.F.slot_dict_get dd.typeIs PySem.F.entry_dict_get (PySem.F.args_dict_get_3 _ _ _) (meets_dict_get_default (Qx X.prog X.w) a (XP m) j r) ⟨_,dd.mapOf,h _ _ (I.tok _) ?_⟩;rw[l];exact(c.val k).getD n
 .subst i;cases (m);obtain⟨z,j,v,c,dd⟩:=Xl I.hok e;refine call_meetsIn PySem.F.slot_dict_get dd.typeIs PySem.F.entry_dict_get (PySem.F.args_dict_get_3 _ _ _) (meetsH_dict_get_default (tupleKind (Qx X.prog X.w)) a b j r) ⟨tupleKind_room_in1 q,k,v,XQ I.hok t,dd,h _ _ (I.tok _) ?_⟩;rw[l];exact(c.val k).getD n
end
def NZ (e f g:TE):TE:=λZ H Q=>e Z H λx b=>∃a,x=.ref a/\jf b a/\f Z b λy h=>g Z h λz c=>∃o,x9 c a y o/\Q (o.getD z) c
section
variable {X:Cx}{o e f:Expr}{apos cpos:Pos}{td ty tx:TE}
def Oa (i:X.A.units+1<cLine)(j:PE X o td)(l:PE X e ty)(n:PE X f tx)(m:M2 X o "get" apos e f cpos):PE X (.Call (.Attribute o "get" apos) [e,f] [] cpos) (NZ td ty tx):=by
 intro Y s Z H Q I h;refine wpAny_Call_method m.base m.few m.line PySem.F.plainAttrs_dict PySem.F.slot_dict_get PySem.F.type_dict_get (jH (j Y s Z H _ I h) λu p ⟨x,q,c,r,a,t,d,v⟩=>?_);subst t;obtain rfl:=r;obtain⟨w,A,_⟩:=NX c d;refine⟨w,A,?_⟩;rw[m.trees];exact Calls.callWith_builtin rfl (Calls.evalArgs_plain (Calls.spliced_cons (jH (l Y p Z q _ c v) λO B ⟨y,C,E,F,G⟩ =>
  Calls.spliced_cons (jH (n Y B Z C _ E G) λP R ⟨z,J,K,L,S,g,M⟩=>Calls.spliced_nil (NY i K g F L λT U N b=>⟨_,J,N,b,M⟩)))))
end
end L2
namespace Att
open PySem PySem.W PySem.Calls PyProof.Rows
theorem Ob {P:Params}{h:Heap}:∀ns c,WellAll P h c (ns.map WData.int)->IntsAre c ns:=by
 intro ns
 induction ns with
 |nil =>
  intro c w;cases w;exact .nil
 |cons n ns e =>
  intro c w;cases w with
  |cons a b =>
   cases a;exact .cons _ _ (e _ b)
def Oc {l:OpenLaw}{n:Nat}(m:l.most=some n){P:Params}{h:Heap}{args:List WData}{b:Yf}
 (c:l.row.toRowW.claim.pre args=true) (e:WellAll P h b args):
 ∃a g ns,b=[Value.ref a]/\args=[WData.list (ns.map WData.int)]/\h.get? a=some { cls:=.type "list",data:=.seq g.toArray }/\IntsAre g ns/\ns.length<=n:=by
 obtain⟨d,r,rfl,o,p⟩:=hasAllW_cons ((pre_splitW c).1);obtain rfl:=hasAllW_nil p;obtain⟨s,rfl,q⟩:=hasW_list o;obtain⟨ns,rfl⟩:=items_int q;have i:ns.length<=n:=by
  have f:(WTm.not (.lt (.lit (.int (n:Int))) (.len (.arg 0)))).holds [] { args:=[.list (ns.map .int)] }=true:=by
   have f:=(holds_andW ((pre_splitW c).2)).1
   rwa [m] at f
  have t:=condW_of f rfl
  simp_all
 cases e with
 |cons w1 w2 =>
  cases w2;cases w1 with
  |list u j=>grind[Ob]
def Od (l:OpenLaw)(args):l.row.toRowW.claim.post args (.bool true) args=true:=
 postW_of
  rfl
  (w_eq_bool (w_res rfl) w_lit) rfl
def attach_call {l:OpenLaw}{n:Nat}{q:Program}{b:Yk}{A:(Ye)->Heap->Prop}{B:World->Heap->Prop}{d:DefRec}
 (H:l.most=some n) (t:d.params.defaults=[])
 (call:∀w s₀ s₁ mg u h o v p c a g ns,
  Ground q b [] A w s₀ mg u s₁.heap->B w s₁.heap ->
  s₁.heap.get? h=some o->o.data=.func (docDef d.name d.params d.body d.scope v p c)->s₁.heap.CodeRec p d.name->mg d.name=some (.ref h) ->
  s₁.heap.get? a=some { cls:=.type "list",data:=.seq g.toArray }->IntsAre g ns->ns.length<=n->s₁.gens = #[] ->
  codeAny (model l.prog w) callerA (.call (.ref h) ⟨[.ref a],[]⟩) (λr s'=>r=.ok (.ret (.bool true))/\OldK s₁.heap s'.heap/\s'.os=s₁.os/\AllBare s'.gens) s₁):
 WalkO q b A B l.row.toRowW d [] (λf g=>PySem.call f g):=by
 intro w s₀ s₁ mg u G Yy h o v p c S kV I J x C y K args E T i F L z M;obtain rfl:=Dflts.none C t;obtain rfl:=Dflts.noKw C;obtain⟨a,g,ns,rfl,rfl,j,e,m⟩:=Oc H i z;refine enter_call (codeAny_mono (call w s₀ s₁ mg u h o v p c a g ns G Yy I (fd_plain J) x y j e m K) λr s' N=>?_);obtain⟨rfl,O,P,Q⟩:=N;exact⟨.inl ⟨.bool true,.bool true,[],rfl,λ_=>rfl,.bool true,Od l _,λ_=>⟨List.Pairwise.nil,λ_ R=>(nomatch R)⟩⟩,O,P,Q⟩
end Att
namespace L2
def Oe:∀{a:Yf} {ns:Yh},IntsAre a ns->js (ns.map V.int) a:=λh=>by
 induction h with
 |nil=>exact .nil
 |cons n t _ b=>exact .cons ⟨t,rfl⟩ b
def vE (H:Hp):Prop:=∀b,H b=none\/∃o a,H b=some (.frz o (.lst a))
def Og {P:Program}{w:World}{K:W.Frag}{mg G:Ye}{CX:zB}{k:Nat}{I a:Addr}{R:FuncData}{x:Str}{sp:Sp}{s₁:Shared}{p:Yf}{ns:Yh}
 (S:K.In s₁.heap) (t:s₁.heap.Ns mainGlobals mg) (f:s₁.heap.Ns builtinsNs G) (J:∀x:Str,x ≠ "__name__" -> G x=bootBuiltins x) (y:s₁.heap.NoLimit) (Z:s₁.gens = #[])
 (L:s₁.heap.get? a=some { cls:=.type "list",data:=.seq p.toArray }) (T:IntsAre p ns) (hl:ns.length<=sizeLine) (hr:Room k callerA)
 (F:∀g:Heap,K.In g->g.Ns mainGlobals mg->FnOk P w K mg g CX k I R [x] sp) (l:∀s u,BindsTo s R ⟨[u],[]⟩ [(x,u)])
 (M:∀H:Hp,vE H->qy K H a (ns.map V.int)->sp [.ref a] H (λv _=>v=.bl true) λ_ _ _=>False)
 (N:∀H e s',CX [] H s₁ (λ_ _ _=>False) e s'->False):
 codeAny (model P w) callerA (.call (.ref I) ⟨[.ref a],[]⟩) (λr s'=>r=.ok (.ret (.bool true))/\OldK s₁.heap s'.heap/\s'.os=s₁.os/\AllBare s'.gens) s₁:=by
 have U:=Oe T;have A:=T.length;have j:∀H:Hp,vE H->qy K H a (ns.map V.int)->qK P w H s₁.heap->(∀b,H b≠none->b=a)->(H a≠none->K.lookup a=none) ->
  codeAny (model P w) callerA (.call (.ref I) ⟨[.ref a],[]⟩) (λr s'=>r=.ok (.ret (.bool true))/\OldK s₁.heap s'.heap/\s'.os=s₁.os/\AllBare s'.gens) s₁:=by
  intro H X hS B hA hK;have c:∀{b:Addr} {o:Obj},s₁.heap.get? b=some o->H b=none->(yz s₁.heap H).get? b=some o:=λe n=>MB e n;have O:∀{b:Addr} {o:Obj} {es:Array DictEntry} {ep:Nat},s₁.heap.get? b=some o->o.data=.dict es ep->H b=none:=by grind
  have i:∀{b:Addr} {m:Ye},s₁.heap.Ns b m->(yz s₁.heap H).Ns b m:=λ{b m} ⟨o,es,ep,e,d,r⟩=>⟨o,es,ep,c e (O e d),d,r⟩;have C:K.In (yz s₁.heap H):=λb o e=>c (S b o e) (by
   grind)
  have hM:Mod K mg (yz s₁.heap H):=⟨C,i t,⟨G,i f,J⟩,let ⟨mc,h1,h2⟩:=y;⟨mc,i h1,h2⟩⟩;have e0:Env0 P w K mg (yz s₁.heap H) callerA [] s₁ H:=⟨rfl,hM,λb o e=>MC e,Yx (MA _ _),trivial,λb f=>Zn (show b∈([]:Yl) from f) (),B,.of_eq Z⟩;refine codeAny_mono ((F _ C (i t)).run callerA [] s₁ H ⟨[.ref a],[]⟩ [.ref a] [.ref a] _ _ hr e0 (l s₁ (.ref a)) (.cons rfl .nil) (M H X hS)) λr s' h=>?_;cases r with
  |error e=>exact(N H e s' h).elim
  |ok fl =>
   cases fl with
   |next=>exact False.elim h
   |brk=>exact False.elim h
   |cont=>exact False.elim h
   |ret u =>
    obtain⟨v,H',os,bare,un,E,r',q⟩:=h;have q':v=.bl true:=q;subst q';obtain rfl:=r';refine⟨rfl,OldK.of_keep λb o e=>?_,os,bare⟩;cases q:H b with
    |none=>exact un.keep b o e q (λz=>Zn (show b∈([]:Yl) from z) ()) ()
    |some u =>
     rcases X b with z|⟨ob,xs,z⟩
     .rw[q] at z;cases z
     .obtain⟨Y,_⟩:=B b _ z;obtain⟨e2,_⟩:=E b _ (un.frzs b ob _ z);rw[e] at Y;cases Y;exact e2
 cases Q:K.lookup a with
 |some o =>
  have e:=S a o Q;rw[L] at e;cases e;refine j (λ_=>none) (λ_=>.inl rfl) (.inr ⟨_,p.toArray,_,Q,rfl,rfl,rfl,by rwa [Zm,A],by simpa using U⟩) (λb u z=>by have z':=z;cases z') () λz=>Zn rfl z
 |none =>
  refine j (λb=>if b=a then some (.frz { cls:=.type "list",data:=.seq p.toArray } (.lst (ns.map V.int))) else none) (λb=>?_) (.inl (.inr ⟨{ cls:=.type "list",data:=.seq p.toArray },Zd rfl⟩)) (λb u z=>?_) (λb z=>?_) λ_=>Q
  .by_cases f:b=a
   .exact by grind
   .exact .inl (Ze f)
  .by_cases f:b=a
   .cases ((Zd f).symm.trans z);subst f;exact⟨L,by rwa [Zql],p,_,U,L⟩
   .cases ((Ze f).symm.trans z)
  .by_cases f:b=a
   .exact f
   .exact Zn (Ze f) z
def walk_of {l:W.OpenLaw}{n k:Nat}{q:Program}{g:Yk}{I:(Ye)->Heap->Prop}{B:World->Heap->Prop}{d:DefRec}{K:Params->W.Frag}{CX:World->zB}{sp:World->Sp}{x:Str}
 (J:l.most=some n) (p:n<=sizeLine) (r:d.params.defaults=[]) (L:Room k callerA)
 (M:∀w h,B w h->(K w.params).In h)
 (F:∀w mg m h,(K w.params).In h->h.Ns mainGlobals mg->mg d.name=some (.ref m) ->
  ∃t:FuncData,(∀s u,BindsTo s t ⟨[u],[]⟩ [(x,u)]) /\
   ∀b:Heap,(K w.params).In b->b.Ns mainGlobals mg->FnOk l.prog w (K w.params) mg b (CX w) k m t [x] (sp w))
 (y:∀w H a (ns:Yh),ns.length<=n->vE H->qy (K w.params) H a (ns.map V.int)->sp w [.ref a] H (λv _=>v=.bl true) λ_ _ _=>False)
 (z:∀w H s e s',CX w [] H s (λ_ _ _=>False) e s'->False):
 W.WalkO q g I B l.row.toRowW d [] (λf C=>PySem.call f C):=by
 refine Att.attach_call J r λw s₀ s₁ mg U m o X Y N a C ns G Yy Z hd O A j i c P=>?_;have E:=M w _ Yy;obtain⟨t,Q,R⟩:=F w mg m _ E G.T.g A;exact Og E G.T.g G.T.b G.T.builtins G.T.nolimit P j i (Zh c p) L R Q (λH S T=>y w H a ns c S T) λH e s'=>z w H s₁ e s'
def Aw (s:Stmt)(j:Nat):Stmt:=match s with
 | .ClassDef _ _ _ body _ _ _ _ _ _ _=>body.getD j (.Pass ⟨0,0,0,0⟩)
 |_=>.Pass ⟨0,0,0,0⟩
def WD (s:Stmt):Arguments:=match s with
 | .FunctionDef _ a _ _ _ _ _ _ _ _=>a
 |_=>{ posonlyargs:=[],args:=[],vararg:=none,kwonlyargs:=[],kw_defaults:=[],kwarg:=none,defaults:=[] }
def QM (s:Stmt):List Stmt:=match s with
 | .FunctionDef _ _ b _ _ _ _ _ _ _=>b
 |_=>[]
def JV (s:Stmt):Scope:=match s with
 | .FunctionDef _ _ _ _ _ _ sc _ _ _=>sc
 |_=>{ kind:=.function,names:=[],isGenerator:=false,isCoroutine:=false }
abbrev yp:zB:=λ_ _ _ _ _ _=>False
abbrev E0:XK:=λ_ _ _=>False
def Cy {X:Cx}:Xk yp X E0:=λ_ _ _ _ _ _ _ h=>h.elim
structure Fun (K:W.Frag)(x qual:Str)(st:Stmt)(f:Addr)(fd:FuncData):Prop where
 ex:∃(oc:Value) (od:Option Addr) (kV doc pm:Value) (an:Option Addr) (cdv ct:Value) (osl:Array Yg),
  fd=W.fnOf x qual (WD st) (QM st) (JV st) .none kV doc pm an cdv ct/\K.lookup f=some ⟨oc,od,.func fd,osl⟩/\W.codeIn K cdv qual=true
 kp:W.keepIn K (.ref f)=true
section
variable {P:Program}{w:World}{K:W.Frag}{mg:Ye}{base:Heap}
def Fun.ok {x b:Str}{st:Stmt}{f:Addr}{l:FuncData}{N ps:Yk}{k:Nat}{sp:Sp}(F:Fun K x b st f l)(S:FnScope N ps (JV st))(len:∀e H Q E,sp e H Q E->e.length=ps.length)
 (g:∀c A a s H e Q E,Room k (A.deeper (envOfC b (JV st) s.heap.objs.size f c))->sp e H Q E ->
  ∃t,qI (jV yp P w K mg base N b (JV st) f c A a s H E).nox (QM st) t/\t { nx:=λ_ m=>Q .non m,rt:=Q } (start N e) H):FnOk P w K mg base yp (k+1) f l ps sp:=by
 obtain⟨u,v,kV,n,y,z,c,ct,o,rfl,p,i⟩:=F.ex;refine ES p i S len λA a s H e Q E r j=>?_;obtain⟨t,h,q⟩:=g c A a s H e Q E r j;exact⟨t,h.nox,q⟩
def Fun.binds {x a:Str}{st:Stmt}{f:Addr}{j:FuncData}{ps:Yk}(F:Fun K x a st f j)
 (h:∀kV b e g c ct i,i.length=ps.length->bindArgs (W.fnOf x a (WD st) (QM st) (JV st) .none kV b e g c ct) ⟨i,[]⟩=pure (ps.zip i)):zF K j ps []:=by
 obtain⟨n,o,kV,b,e,g,c,ct,l,rfl,p,m⟩:=F.ex;exact .all (h kV b e g c ct)
def fun_mk {x a:Str}{st:Stmt}{f:Addr}{j:Value}{m h:Option Addr}{g:Array Yg}{kV e i b ct:Value}(l:K.lookup f=some ⟨j,m,.func (W.fnOf x a (WD st) (QM st) (JV st) .none kV e i h b ct),g⟩)
 (c:W.codeIn K b a=true) (k:W.keepIn K (.ref f)=true):Fun K x a st f (W.fnOf x a (WD st) (QM st) (JV st) .none kV e i h b ct):=⟨⟨j,m,kV,e,i,h,b,ct,g,rfl,l,c⟩,k⟩
end
def JI {A:Around}{k:Nat}(a:Room k A):A.units+1<cLine:=UJ () a.units
def Ff {n:Nat}(h:n<=1000):n<sizeLine:=UJ h (by decide)
section
variable {X:Cx}
def pv (i){x:Str}{a:Pos}(c:X.N[i]? = some x:=by rfl)(e:bT X.env.scope x:=by first|exact Or.inl rfl|exact Or.inr (Or.inl rfl)|exact Or.inr (Or.inr rfl))(f:(x == ("__debug__" : Str))=false:=by decide)
 (b:(x == ("__classdict__" : Str))=false:=by decide):PE X (.Name x a) (yc i):=MF c e f b
end
def jk (H a:Hp):Prop:=∀b o,H b=some o->a b=some o
theorem jk.refl (H):jk H H:=λ_ _ h=>h
theorem jk.trans {H e f:Hp}(a:jk H e)(b:jk e f):jk H f:=λc o h=>b c o (a c o h)
def jk.free {H a:Hp}(e:jk H a){l:Addr}(h:a l=Option.none):H l=Option.none:=by
 cases q:H l with
 |none=>rfl
 |some o =>
  rw[e l o q] at h;cases h
def jk.seq {K:W.Frag}{H b:Hp}{a:Addr}{c:YE}(e:jk H b)(h:qy K H a c):qy K b a c:=by
 rcases h with (h|⟨o,h⟩)|h
 .exact .inl (.inl (e _ _ h))
 .exact .inl (.inr ⟨o,e _ _ h⟩)
 .exact .inr h
section
variable {X:Cx}
def Oh:qa X (.builtin "len") (λc H Q=>∃a b,c=[V.ref a]/\H a=some (.dK b)/\Q (.int b.length) H):=by
 intro Y s Z H c i Q I r h;obtain⟨a,b,rfl,e,q⟩:=h;obtain⟨u,rfl,f⟩:=Ka r;cases f;exact fK I (.inl e) λt s' g=>⟨.int b.length,H,g,⟨t,rfl⟩,q⟩
end
end L2
def J6 {P:Prop}{α: Type}{z:α}(h:none=some z):P:=by cases  h
def JB {P:Prop}(h:false=true):P:=by cases  h
namespace L2
theorem Cz (env):∀(names:List (Str×NameKind)) b,(∀y∈names,y.2=.free->∃c,env.cells.lookup y.1=some c) ->
 ∃f,(forIn names b λ(x:Str×NameKind) (r:List (Str×Addr))=>(match x with
  | (name,kind)=>if(kind == NameKind.free)=true then do let a <- cellOf env name;pure (ForInStep.yield ((name,a)::r)) else pure (ForInStep.yield r):Sem (ForInStep (List (Str×Addr)))))=(pure f:Sem (List (Str×Addr))) /\
  (∀x c,f.lookup x=some c->env.cells.lookup x=some c\/b.lookup x=some c)/\(∀x c,b.lookup x=some c->∃g,f.lookup x=some g)/\∀y∈names,y.2=.free->∃c,f.lookup y.1=some c
 | [],b,_=>⟨b,rfl,λ_ _ h=>.inr h,λx c h=>⟨c,h⟩,λ_ h=>nomatch h⟩
 | (n,k)::r,b,h=>by
  rw[List.forIn_cons];cases j:(k == NameKind.free) with
  |true =>
   have i:k=.free:=by simp_all
   obtain⟨c,l⟩:=h (n,k) Zqs i;obtain⟨f,e,m,o,p⟩:=Cz env r ((n,c)::b) ();refine⟨f,?_,λx g q=>?_,λx g q=>?_,λy s t=>?_⟩
   .simp only[j,cellOf,l];exact e
   .grind
   .grind
   grind
  |false =>
   have ⟨f,e,m,o,p⟩:=Cz env r b ()
   grind
def Oi (env)(a)(h:∀y∈a.names,y.2=.free->∃c,env.cells.lookup y.1=some c):
 ∃b,closureFor a env=pure b/\(∀x c,b.lookup x=some c->env.cells.lookup x=some c)/\∀y∈a.names,y.2=.free->∃c,b.lookup y.1=some c:=by
 obtain⟨b,e,f,_,g⟩:=Cz env a.names [] h;refine⟨b,?_,λx c i=>(f x c i).elim id (λq=>by simp at q),g⟩
 first
 | (rfl)
 |exact(Zt (· >>= λj=>pure j) e)
theorem Ax {env:Env}{x:Str}:∀{names:List (Str×NameKind)},
 (names.lookup x=some .free->(names.map λ(n,k)=>if(k == NameKind.free&&env.scope.kind == .function&&env.kindOf n == some .cell) then(n,NameKind.cell) else(n,k)).lookup x=some .cell\/(names.map λ(n,k)=>if(k == NameKind.free&&env.scope.kind == .function&&env.kindOf n == some .cell) then(n,NameKind.cell) else(n,k)).lookup x=some .free) /\
 (∀a,(names.map λ(n,k)=>if(k == NameKind.free&&env.scope.kind == .function&&env.kindOf n == some .cell) then(n,NameKind.cell) else(n,k)).lookup x=some a->(a=.cell\/a=.free)->names.lookup x=some .free\/names.lookup x=some .cell)
 | []=>by simp
 | (n,k)::r=>by
  obtain⟨b,c⟩:=@Ax env x r
  grind
theorem XR:∀names n a,cellsFrom n names a=cellsFrom n names []++a
 | [],_,_=>rfl
 | (name,kind)::r,n,a=>by
  unfold cellsFrom
  split
  .rw[XR r (n+1) ((name,n)::a),XR r (n+1) [(name,n)],Uh];rfl
  .exact XR r n a
theorem C0:∀names n a,(x,c)∈cellsFrom n names a->(x,c)∈a\/(x,NameKind.cell)∈names
 | [],_,_,h=>.inl h
 | (name,kind)::r,n,a,h=>by
  unfold cellsFrom at h
  split at h
  .rcases C0 r (n+1) ((name,n)::a) h with z|z
   .grind
   simp_all
  .rcases C0 r n a h with z|z
   .exact .inl z
   simp_all
def Fg:Option NameKind->Bool
 |some .cell=>true
 |_=>false
def Oj (h:Fg o=true):o=some .cell:=by
 cases o with
 |none=>exact JB h
 |some k=>cases k<;>first|rfl|exact JB h
structure CellsAt (scope:Scope)(env:Env)(cl:List (Str×Addr))(C:Addr)(h1:Heap):Prop where
 from_:∀x c,cl.lookup x=some c->(env.cells.lookup x=some c/\scope.names.lookup x≠some .cell)\/(C<c/\h1.IsCell c none)
 free:∀x,scope.names.lookup x=some .free->∃c,cl.lookup x=some c/\env.cells.lookup x=some c
 own:∀x,scope.names.lookup x=some .cell->∃c,cl.lookup x=some c
 inj:∀x y c,cl.lookup x=some c->cl.lookup y=some c->x=y
def Ol (f:∀x c,cl.lookup x=some c->env.cells.lookup x=some c)(g:∀y∈a.names,y.2=.free->∃c,cl.lookup y.1=some c)
 (inj:∀x y c,env.cells.lookup x=some c->env.cells.lookup y=some c->x=y) (low:∀x c,env.cells.lookup x=some c->c<=C) (h:h0.objs.size=C+1) (i:∀y∈a.names,y.2=.cell->a.names.lookup y.1=some .cell):
 CellsAt a env (cellsFrom (C+1) a.names cl) C (pushCells h0 a.names):=by
 have ok:=cellsFrom_ok a.names h0 (C+1) [] ⟨(),List.Pairwise.nil⟩ ();rw[h] at ok;have look:∀x c,(cellsFrom (C+1) a.names cl).lookup x=some c->((x,c)∈cellsFrom (C+1) a.names [])\/(cl.lookup x=some c/\a.names.lookup x≠some .cell):=λx c e=>by
  rw[XR,List.lookup_append] at e;cases q:(cellsFrom (C+1) a.names []).lookup x with
  |some d =>
   grind[Zqi,PySem.mem_of_lookup]
  |none =>
   rw[q] at e;refine .inr ⟨e,λz=>?_⟩;have:=W.cellsFrom_some a.names (C+1) [] (.inl z);rw[q] at this;exact JB this
 refine⟨λx c e=>?_,λx e=>?_,λx e=>?_,λx y c j l=>?_⟩
 .rcases look x c e with z|⟨z1,z2⟩
  .exact .inr ⟨(ok.empty x c z).2,(ok.empty x c z).1⟩
  simp_all
 .obtain⟨c,b⟩:=g (x,.free) (PySem.mem_of_lookup e) rfl;refine⟨c,?_,f x c b⟩;rw[XR,List.lookup_append];cases q:(cellsFrom (C+1) a.names []).lookup x with
  |some d =>
   rcases C0 _ _ _ (PySem.mem_of_lookup q) with z|z
   .cases z
   .have:=i (x,.cell) z rfl;rw[e] at this;cases this
  |none=>exact b
 .exact Js.mp (W.cellsFrom_some a.names (C+1) cl (.inl e))
 .rcases look x c j with z|⟨z1,_⟩<;>rcases look y c l with w|⟨w1,_⟩
  .exact PySem.name_of_addr ok.apart z w
  .exact Zn (low y c (f y c w1)) (Nat.not_le_of_lt (ok.empty x c z).2)
  .exact Zn (low x c (f x c z1)) (Nat.not_le_of_lt (ok.empty y c w).2)
  .exact by grind
def Om
 (a:Q (newEnv scope s.heap.objs.size globals (cellsFrom (s.heap.objs.size+1) scope.names cl) qual none .none (some env) builtinsNs) { s with heap:=pushCells (s.heap.push { cls:=.type "dict",data:=.dict #[] }) scope.names }):
 wpAny M A (newFunctionEnv scope globals cl [] qual none .none (some env)) Q E s:=by
 refine Za (wpAny_alloc (Za (wpAny_layCells _ () _ _ _ _ ?_)));rw[Heap.size_push ..];exact Za (Zb (Zb a))
def XS (X:Cx)(C:Addr):Ya:=λx s'=>∃m,s'.heap.Ns C m/\∀h',Heap.SameBut C s'.heap h'->∀a:Env,a.locals=C->YI X (passOn "comprehension.variables-let-go" x a:Sem Value) (λ_ _=>False) X.xe { s' with heap:=h' }
def JJ (X:Cx)(a:Scope)(N:Yk)(b:List (Str×Addr))(C:Addr)(s:Shared)(H:Hp)(ex:Yl):Cx where
 prog:=X.prog
 w:=X.w
 K:=X.K
 mg:=X.mg
 base:=X.base
 A:=X.A
 N:=N
 s₀:=s
 H₀:=H
 env:=compEnvC a b C X.env
 outer:=X.stack
 stack:=X.stack
 ex:=ex
 fn:=λx=>Fg (a.names.lookup x)
 calm:=X.calm
 pn:=[]
 xe:=notedBy (model X.prog X.w) X.A (compEnvC a b C X.env) (XS X C)
def WE (X:Cx)(C:Addr)(s:Shared)(H:Hp)(a:Yl):Prop:=∃Y Z,Inv X Y Z H s/\(∀b∈a,xc X Y H b)/\s.heap.objs.size<=C
def KL (cap:List (Option Nat))(Z: St):St:=cap.map λo=>o.bind λj=>(Z[j]?).join
structure CompOk (X:Cx)(scope:Scope)(N:Yk)(cap:List (Option Nat)):Prop where
 kind:scope.kind=.function
 loc:∀y∈scope.names,y.2=.local->scope.names.lookup y.1=some .local
 cell:∀y∈scope.names,y.2=.cell->scope.names.lookup y.1=some .cell
 free:∀y∈scope.names,y.2=.free->X.env.kindOf y.1=some .cell\/X.env.kindOf y.1=some .free
 len:cap.length=N.length
 cap:∀(i j:Nat) (x:Str),cap[i]? = some (some j)->N[i]? = some x->X.N[j]? = some x/\scope.names.lookup x=some .free
def QP (a:Scope)(env:Env)(b N:Yk)(cap:List (Option Nat)):Bool:=
 decide (a.kind=.function)&&a.names.all (λy => !decide (y.2=.local)||decide (a.names.lookup y.1=some .local))&&a.names.all (λy => !decide (y.2=.cell)||decide (a.names.lookup y.1=some .cell)) &&
 a.names.all (λy => !decide (y.2=.free)||(decide (env.kindOf y.1=some .cell)||decide (env.kindOf y.1=some .free)))&&decide (cap.length=b.length) &&
 (b.zip cap).all (λp=>match p.2 with|none=>true|some j=>decide (N[j]? = some p.1)&&decide (a.names.lookup p.1=some .free))
def CompOk.of {X:Cx}{a:Scope}{N:Yk}{cap:List (Option Nat)}(h:QP a X.env N X.N cap=true):CompOk X a N cap:=by
 unfold QP at h;simp only[Ud,decide_eq_true_eq,Vu] at h;obtain⟨⟨⟨⟨⟨c,m⟩,n⟩,o⟩,e⟩,p⟩:=h;refine⟨c,λy b f=>?_,λy b f=>?_,λy b q=>?_,e,λi j x g l=>?_⟩
 .grind
 .grind
 .grind
 .have r:(x,some j)∈N.zip cap:=by
   refine Ug (i:=i) ?_;rw[VR];exact⟨l,g⟩
  grind
section
variable {X:Cx}{scope:Scope}{N:Yk}{cap:List (Option Nat)}{Y:Yb}{Z: St}{H:Hp}{s:Shared}{cl:List (Str×Addr)}{C D:Addr}{fp:Yl}
def Oo (ok:CompOk X scope N cap)(I:Inv X Y Z H s)(B:∀b∈fp,xc X Y H b)(y:∀b∈fp,b<s.heap.objs.size)
 (a:CellsAt scope X.env cl C h1)
 (t:s.heap.objs.size<=C) (g:∀b o,s.heap.get? b=some o->h1.get? b=some o) (E:h1.Ns C m):
 Inv (JJ X scope N cl C s H fp) [] (KL cap Z) H { s with heap:=h1,toks:=tk }:=by
 have K:∀x,(JJ X scope N cl C s H fp).env.kindOf x=some .cell\/(JJ X scope N cl C s H fp).env.kindOf x=some .free->scope.names.lookup x=some .free\/scope.names.lookup x=some .cell:=λx h=>by
  rcases h with h|h
  .exact(Ax (env:=X.env) (x:=x) (names:=scope.names)).2 _ h (.inl rfl)
  .exact(Ax (env:=X.env) (x:=x) (names:=scope.names)).2 _ h (.inr rfl)
 refine⟨⟨I.ok.mod,ok.kind,I.ok.glob,I.ok.blt,t,a.inj,λx h=>?_,λx c z e=>?_,I.ok.hd,I.ok.frames,.inl rfl,λb n=>⟨?_,λx c e=>?_⟩,I.bs,Zh I.ok.bsz I.sz,
  λb o e n=>?_,λb n z=>?_,I.stack,I.stkFree⟩,rfl,I.bare,Un.kept g,⟨m,E,λi x v F f U=>?_⟩,λx c e=>?_,I.hok.fresh t,λx c e=>?_,λp hp=>Zn hp (by show ¬p∈([]:Yb)++[];simp),I.hok.kept g,?_⟩
 .rcases K x h with q|q
  .obtain⟨c,e,_⟩:=a.free x q;exact⟨c,e⟩
  .exact a.own x q
 .rcases a.from_ x c e with ⟨_,q⟩|⟨q,_⟩
  .exact Zn (Oj z) q
  .exact Zh t (Zz q)
 .exact Zi (Zg (y b n) t)
 .rcases a.from_ x c e with ⟨q,_⟩|⟨q,_⟩
  .exact(B b n).2.2.2.2.1 x c q
  .exact U6 (Uf (Zg (y b n) t) q)
 .rcases(B b n).2.2.2.1 with z|z
  .exact I.ok.noex b o e z
  .exact Zn (Zg (Zk e) (Zh I.ok.bsz z)) (Zy _)
 .rcases Us.mp (I.stkSub b z) with q|q
  .exact(B b n).2.1 q
  .exact(B b n).2.2.1 q
 .have F:N[i]? = some x:=F;have L:∃j,cap[i]? = some (some j) /\ Z[j]? = some (some v):=by
   have f:(cap.map λo=>o.bind λj=>(Z[j]?).join)[i]? = some (some v):=f;rw[Zv] at f;cases q:cap[i]? with
   |none=>rw[q] at f;exact J6 f
   |some o =>
    rw[q] at f;cases o with
    |none=>cases f
    |some j =>
     have f:some ((Z[j]?).join)=some (some v):=f;cases G:Z[j]? with
     |none=>rw[G] at f;cases f
     |some w=>rw[G] at f;exact⟨j,rfl,by cases f;exact G⟩
  obtain⟨j,M,O⟩:=L;obtain⟨P,J⟩:=ok.cap i j x M F;obtain⟨m0,_,Q⟩:=I.loc;have R:=ok.free (x,.free) (PySem.mem_of_lookup J) rfl;obtain⟨u,r,l⟩:=Q j x v P O (R.elim (λz=>.inr (.inl z)) λz=>.inr (.inr z));refine⟨u,r,.inr ⟨(Ax (x:=x)).1 J,?_⟩⟩;rcases l with ⟨k,_⟩|⟨_,c,S,z⟩
  .simp_all
  .obtain⟨c',T,A⟩:=a.free x J;rw[S] at A;obtain rfl:=Zqi A;exact⟨c,T,z.keeps g⟩
 .rcases a.from_ x c e with ⟨q,_⟩|⟨_,q⟩
  .obtain⟨v,z⟩:=I.cell x c q;exact⟨v,z.keeps g⟩
  .exact⟨none,q⟩
 .rcases a.from_ x c e with ⟨q,_⟩|⟨q,_⟩
  .exact I.freeC x c q
  .exact I.hok.fresh (Zh t (Zz q))
 .show(cap.map _).length=N.length;rw[Zql];exact ok.len
def Op (I:Inv X Y Z H s)(g:∀b∈fp,xc X Y H b)(l:s.heap.objs.size<=C)(m:s.heap.objs.size<=D)(h:D≠C)
 (J:Inv (JJ X scope N cl C s H fp) [] Z' H' s') (p:s'.heap.get? D=some { cls:=.type "list",data:=.seq its.toArray k }) (y:H' D=none) (r:js ys its) (hz:ys.length<=sizeLine) (hs:Heap.SameBut C s'.heap h')
 (q:Q (.ref D) (upd H' D (.lst ys))):EP X Y Z Q (.ref D) { s' with heap:=h' }:=by
 have i:∀b o,s.heap.get? b=some o->b≠C:=λb o e=>Zi (Zg (Zk e) l);have t:∀b o,s.heap.get? b=some o->b≠D:=λb o e=>Zi (Zg (Zk e) m);have tD:∀b u,H' b=some u->b≠D:=by grind
 have tC:∀b u,H' b=some u->b≠C:=λb u e z=>by
  have:=J.free;rw[z,show H' C=none from this] at e;exact J6 e
 have B:=J.base;refine⟨.ref D,upd H' D (.lst ys),I.call' J.os ?_ ?_ J.bare (λb a=>⟨(g b a).2.2.2.1,(g b a).2.1,(g b a).2.2.2.2.1,(g b a).2.2.2.2.2⟩),rfl,q⟩
 .refine⟨λb o e n a f=>(hs.2 b (i b o e)).trans (B.keep b o e n a f),λb o e n a f=>?_,λb o e n f=>?_,λb o e f=>?_,λb j e=>?_,λb o u e=>?_,λb ps e=>?_⟩
  .obtain⟨w,z⟩:=B.slot b o e n a f;exact⟨w,(hs.2 b (i b o e)).trans z⟩
  .rw[JF (t b o e)];exact B.free b o e n f
  .obtain⟨x,z⟩:=B.there b o e f;exact⟨x,(hs.2 b (i b o e)).trans z⟩
  .have z:=B.tups b j e
   rwa [JF (tD b _ z)]
  .have z:=B.frzs b o u e
   rwa [JF (tD b _ z)]
  .obtain⟨more,z⟩:=B.tbls b ps e;exact⟨more,by rwa [JF (tD b _ z)]⟩
 .intro b u e;by_cases a:b=D
  .subst a;rw[JM] at e;obtain rfl:=Zqi e;exact⟨hz,its,k,r,(hs.2 b h).trans p⟩
  .rw[JF a] at e;refine(J.hok b u e).stay (λc v A z=>(hs.2 c ?_).trans z) (λc z=>by rwa [JF (tD c _ z)]) (λc j z=>by rwa [JF (tD c _ z)])
   grind
end
def fQ (cap:List (Option Nat))(g:TG)(h:TE)(Z: St)(Q:VK):It->Hp->Prop:=λJ j=>∃W:Nat->Nat->YE->St->Hp->Prop,(∃m,W 0 m [] (KL cap Z) j)/\∀i m ys b a,W i m ys b a->ys.length<sizeLine /\
 (
  (J.stop i a/\∀D,a D=none->Q (.ref D) (upd a D (.lst ys))) \/
  (J.go i a/\∀x c,J.yld i a x c->g x b c λe l=>h e l λy n=>∃f,f<m/\W (i+1) f (ys++[y]) e n))
def Xm (cap:List (Option Nat))(wi:TI)(g:TG)(a:TE):TE:=λZ H Q=>wi Z H (fQ cap g a Z Q)
def Oq (cap:List (Option Nat))(g:TG)(l:TT)(n:TE)(Z: St)(Q:VK):It->Hp->Prop:=λJ o=>∃W:Nat->Nat->YE->St->Hp->Prop,(∃m,W 0 m [] (KL cap Z) o)/\∀i m ys f a,W i m ys f a->ys.length<sizeLine /\
 (
  (J.stop i a/\∀D,a D=none->Q (.ref D) (upd a D (.lst ys))) \/
  (J.go i a/\∀x h,J.yld i a x h->g x f h λe p=>l e p λb j=>if b=true then n e j (λy q=>∃c,c<m/\W (i+1) c (ys++[y]) e q) else ∃c,c<m/\W (i+1) c ys e j))
def XT (cap:List (Option Nat))(wi:TI)(g:TG)(a:TT)(b:TE):TE:=λZ H Q=>wi Z H (Oq cap g a b Z Q)
section
variable {X:Cx}{tg iter elt c:Expr}{scope:Scope}{pos:Pos}{wi:TI}{g:TG}{te:TE}{tt:TT}
def XU (X:Cx)(Y:Yb)(Z: St)(Q:VK)(use:Option (Value->Sem Unit))(R:Ya):Prop:=
 ∀(C D:Addr) (m:Ye) (a:Shared) (r:Flow),a.heap.Ns C m->¬C=X.env.locals->C∉X.fs->X.s₀.heap.objs.size<=C->(∀x c,X.env.cells.lookup x=some c->c≠C)->(∀p∈X.pn++Y,p.1≠C) ->
  (∀h',Heap.SameBut C a.heap h'->EP X Y Z (λv b=>b C=none/\Q v b) (.ref D) { a with heap:=h' })->compPost (model X.prog X.w) X.A X.xe use R (.ref D) C (.ok r) a
def Fh:XU X Y Z Q none (EP X Y Z Q):=λC D m i r b _ _ _ _ _ k=>⟨m,b,λh' a=>by
 obtain⟨v,e,f,h,_,q⟩:=k h' a;exact⟨v,e,f,h,q⟩⟩
def fW (X:Cx)(tg elt:Expr)(it a:Value)(env:Env)(R:Result->YC)(I:Nat->YC)(test:(Bool->YC)->YC)(n:Nat)(s:Shared):Prop:=
 let E:Ya:=notedBy (model X.prog X.w) X.A env λe s'=>R (.error e) s'
 YI X (pyNext it) (λr b=>match r with
  |none=>R (.ok .next) b
  |some v=>YI X (letOwnedTupleGo tg it v) (λ_ h=>YI X (assign tg env v) (λ_ i=>test (λok f=>if ok=true then YI X (eval elt env) (λx j=>YI X (call (.builtin "list.append") [a,x]) (λ_ l=>∃m,m<n/\I m l) E j) E f else ∃m,m<n/\I m f) i) E h) E b) E s
def Fi {ifs:Ym}(N){test:Env->(Result->YC)->(Bool->YC)->YC}
 (lp:∀{it acc:Value} {env:Env} {R:Result->YC} {s:Shared} I,(∀n s,I n s->fW X tg elt it acc env R I (test env R) n s)->∀n,I n s->codeAny (model X.prog X.w) X.A (.compLoop (.ListComp elt [⟨tg,iter,ifs,0⟩] scope pos) 0 it acc env) R s)
 (ht:∀t C s H S {Y:Yb} {s7:Shared} {U:St} {H7:Hp} {R:Result->YC} {q:Bool->Hp->Prop} {Q:Bool->YC},WE X C s H S->(∀e s',XS X C e s'->R (.error e) s')->Inv (JJ X scope N t C s H S) Y U H7 s7->tt U H7 q->(∀b s8 H8,Inv (JJ X scope N t C s H S) Y U H8 s8->q b H8->Q b s8)->test (compEnvC scope t C X.env) R Q s7)
 (cap) (hc:X.calm=true) (okB:QP scope X.env N X.N cap=true) (hi:PI X tg iter wi) (hg:∀t C s H S,PG (JJ X scope N t C s H S) tg g) (he:∀t C s H S,WE X C s H S->PE (JJ X scope N t C s H S) elt te)
 (hs:∀x,foldedSetIterable iter X.env x=pure x) {use:Option (Value->Sem Unit)} {R:Ya} {fpos:Pos} {Y:Yb} {s:Shared} {Z: St} {H:Hp} {Q:VK} (I:Inv X Y Z H s) (h:XT cap wi g tt te Z H Q) (fin:XU X Y Z Q use R):
 YI X (comprehension (.ListComp elt [⟨tg,iter,ifs,0⟩] scope pos) scope X.env fpos (newList []) false (eval iter X.env) use) R X.xe s:=by
 have ok:=CompOk.of okB;obtain⟨cl0,hcl,hcl1,hcl2⟩:=Oi X.env scope λy hy hf=>I.ok.has y.1 (ok.free y hy hf);refine wpAny_comprehension_free (use:=use) rfl hs hcl ok.kind ok.loc (jH (hi Y s Z H _ I h) λxv s1 h1=>jH h1 λitv a h2=>?_);obtain⟨it,l,tn,J,B,e,A,T,st2,f2,W,⟨m0,w0⟩,turn⟩:=h2;subst e;have G:∀b∈l,b<a.heap.objs.size:=λb w=>let ⟨_,e,_⟩:=T.obj _ _ st2 b w;Zk e
 refine wpAny_newObj_type (Om ?_);dsimp only;generalize hP:a.heap.push { cls:=.type "list",dict:=none,data:=.seq ([]:Yf).toArray }=P2;have hC:P2.objs.size=a.heap.objs.size+1:=by rw[<- hP,Heap.size_push]
 have K:a.heap.objs.size≠P2.objs.size:=by rw[hC];exact by lia
 have j:a.heap.objs.size<=P2.objs.size:=by rw[hC];exact Nat.le_succ _
 have below:∀b,b<a.heap.objs.size->b≠P2.objs.size/\b≠a.heap.objs.size:=()
 have L:CellsAt scope X.env (cellsFrom (P2.objs.size+1) scope.names cl0) P2.objs.size (pushCells (P2.push { cls:=.type "dict",data:=.dict #[] }) scope.names):=
  Ol hcl1 hcl2 A.ok.inj (λx c e=>Zh (Zz (let ⟨_,_,ho,_⟩:=A.cell x c e;Zk ho)) j) (Heap.size_push ..) ok.cell
 have hns1:(pushCells (P2.push { cls:=.type "dict",data:=.dict #[] }) scope.names).Ns P2.objs.size (λ_=>none):=(Heap.Ns.new P2 (.type "dict")).keeps (pushCells_keeps _ _);generalize cellsFrom (P2.objs.size+1) scope.names cl0=t at L ⊢;have M:∀b o,a.heap.get? b=some o->(pushCells (P2.push { cls:=.type "dict",data:=.dict #[] }) scope.names).get? b=some o:=λb o e=>pushCells_keeps _ _ b o (Zq _ (hP ▸ Zq _ e));have hacc:(pushCells (P2.push { cls:=.type "dict",data:=.dict #[] }) scope.names).get? a.heap.objs.size=some { cls:=.type "list",data:=.seq ([]:Yf).toArray 0 }:=pushCells_keeps _ _ _ _ (Zq _ (hP ▸ Zr _ rfl));generalize pushCells (P2.push { cls:=.type "dict",data:=.dict #[] }) scope.names=g1 at L hns1 M hacc ⊢;have E:∀{H':Hp} {pl:Yb},(∀b∈l,H' b=none)->(∀p∈pl,p.1∉l)->∀b∈l,xc (JJ X scope N t P2.objs.size a B l) pl H' b:=λ{H' pl} hn hp b w=>by
  refine⟨hn b w,(below b (G b w)).1,λz=>?_,.inl w,λx c e=>?_,λp hq z=>?_⟩
  .rcases Us.mp (A.stkSub b z) with q|q
   .exact(f2 b w).2.1 q
   .exact(f2 b w).2.2.1 q
  .rcases L.from_ x c e with ⟨q,_⟩|⟨q,_⟩
   .exact(f2 b w).2.2.2.2.1 x c q
   .exact U6 (Uf (Zg (G b w) j) q)
  .have hq:p∈([]:Yb)++pl:=hq
   grind[List.nil_append]
 have nD:a.heap.objs.size∉l:=λz=>Zn (G _ z) (Zy _);have loop:∀s3:Shared,s3={ a with heap:=g1 } ->
  codeAny (model X.prog X.w) X.A (.compLoop (.ListComp elt [⟨tg,iter,ifs,0⟩] scope pos) 0 (.ref it) (.ref a.heap.objs.size) (compEnvC scope t P2.objs.size X.env))
   (compPost (model X.prog X.w) X.A X.xe use R (.ref a.heap.objs.size) P2.objs.size) s3:=by
  rintro s3 rfl;have I0:=Oo (tk:=a.toks) ok A f2 G L j M hns1;refine lp (λn s'=>∃i ys its k Z' H',Inv (JJ X scope N t P2.objs.size a B l) [] Z' H' s'/\tn i s'.heap/\(∀b∈l,H' b=none)/\s'.heap.get? a.heap.objs.size=some { cls:=.type "list",data:=.seq (List.toArray its) k } /\
   H' a.heap.objs.size=none/\js ys its/\W i n ys Z' H') ?_ m0
   ⟨0,[],[],0,KL cap Z,B,I0,T.keep _ _ _ st2 (λb _ o e=>M b o e),λb w=>(f2 b w).1,hacc,A.hok.fresh (Zf _),.nil,w0⟩
  have cat:WE X P2.objs.size a B l:=⟨_,_,A,f2,j⟩;have ce:∀e s',XS X P2.objs.size e s'->compPost (model X.prog X.w) X.A X.xe use R (.ref a.heap.objs.size) P2.objs.size (.error e) s':=λe s' h=>by cases use<;>exact h
  have xe:∀e s',(JJ X scope N t P2.objs.size a B l).xe e s'->notedBy (model X.prog X.w) X.A (compEnvC scope t P2.objs.size X.env) (λe s'=>compPost (model X.prog X.w) X.A X.xe use R (.ref a.heap.objs.size) P2.objs.size (.error e) s') e s':=λe s' h=>Zc h (λ_ a q=>ce e a q) λe a q=>ce e a q;rintro n s4 ⟨i,ys,its,k,Z4,H4,I4,st4,fr4,hd4,hn4,O,w4⟩;obtain⟨hz,tn4⟩:=turn i n ys Z4 H4 w4;have J4:Inv (JJ X scope N t P2.objs.size a B l) [(a.heap.objs.size,{ cls:=.type "list",data:=.seq its.toArray k })] Z4 H4 s4:=I4.pins_of λp hp=>by
   have e:=Jd.mp hp;subst e;refine⟨hd4,hn4,K,?_,λv z=>by cases z⟩;exact λz=>Zn (Zg (by
    rcases Us.mp (A.stkSub _ z) with q|q
    .exact UJ (Yx q) A.lt
    .obtain⟨_,o,ho,_⟩:=A.ok.funs.mem q;exact Zg (Zk ho) A.sz) (Zf a.heap.objs.size)) (Zy _)
  have np:∀p ∈ [(a.heap.objs.size,({ cls:=.type "list",data:=.seq its.toArray k }:Obj))],p.1∉l:=λp hp=>by
   have e:=Jd.mp hp;subst e;exact nD
  rcases tn4 with ⟨stop,qn⟩|⟨go,step⟩
  .refine Zc (T.done (JJ X scope N t P2.objs.size a B l) rfl rfl rfl hc i _ s4 Z4 H4 (λ_ _=>False) J4 (E fr4 np) st4 stop) (λr s5 h5=>?_) λ_ _ f=>f.elim;obtain⟨rfl,I5⟩:=h5;obtain⟨m,hm,_⟩:=id I5.loc;have p5:=I5.pin (a.heap.objs.size,_) (Ut _ Zqs);refine fin _ _ m _ _ hm (U6 (Zg A.lt j)) (A.nofs j) (Zh A.sz j) (λx c e z=>?_) (λp hp z=>?_) λh' hs'=>Op A f2 j (Zf _) K (I5.pins_of λp hp=>nomatch hp) p5.1 p5.2.1 O (Zz hz) hs' ⟨by rw[JF (Ne.symm K)];exact I5.free,qn _ p5.2.1⟩
   .obtain⟨v,o,ho,hd⟩:=A.cell x c e;have:=Zk ho;rw[z] at this;exact Zn (Zg this j) (Zy _)
   .have:=Zk (A.pin p hp).1;rw[z] at this;exact Zn (Zg this j) (Zy _)
  .refine Zc (T.item (JJ X scope N t P2.objs.size a B l) rfl rfl rfl hc i _ s4 Z4 H4 (λ_ _=>False) J4 (E fr4 np) st4 go) (λr s5 h5=>?_) λ_ _ f=>f.elim;obtain⟨u,rfl,h5⟩:=h5;refine Zc h5 (λ_ s6 h6=>?_) λ_ _ f=>f.elim;obtain⟨x,H6,I6,r6,y6,P,fr6⟩:=h6;have I6':=I6.pinned (E fr6 np) (T.obj _ _ P);refine Zc (hg t P2.objs.size a B l _ s6 Z4 H6 x u _ I6' r6 (step x H6 y6)) (λ_ s7 h7=>?_) xe;obtain⟨U,H7,I7,q7⟩:=h7;refine ht t P2.objs.size a B l cat ce I7 q7 λbv s8 H8 I8 q8=>?_;have F:∀H9 s9 Z9,Inv (JJ X scope N t P2.objs.size a B l) ([(a.heap.objs.size,{ cls:=.type "list",data:=.seq its.toArray k })]++XO l s6.heap) Z9 H9 s9->(∀b∈l,∀o,s6.heap.get? b=some o->s9.heap.get? b=some o)/\∀b∈l,H9 b=none:=λH9 s9 Z9 I9=>by
    refine⟨λb w o e=>(I9.pin (b,o) (Ut _ (Ut _ (Aq w e)))).1,λb w=>?_⟩;obtain⟨o,e,d⟩:=T.obj _ _ P b w;exact(I9.pin (b,o) (Ut _ (Ut _ (Aq w e)))).2.1
   have p8:=I8.pin (a.heap.objs.size,_) (Ut _ (List.mem_append_left _ Zqs));cases bv with
   |false =>
    rw[Ze ()] at q8 ⊢;obtain⟨m',hm',w8⟩:=q8;obtain⟨z1,z2⟩:=F _ _ _ I8;exact⟨m',hm',i+1,ys,its,k,U,H8,I8.pins_of (λp hp=>nomatch hp),T.keep _ _ _ P z1,z2,p8.1,p8.2.1,O,w8⟩
   |true =>
    rw[Zd rfl] at q8 ⊢;refine Zc (he t P2.objs.size a B l cat _ s8 U H8 _ I8 q8) (λyv s9 h9=>?_) xe;obtain⟨y,H9,I9,ry,m',hm',w9⟩:=h9;have p9:=I9.pin (a.heap.objs.size,_) (Ut _ (List.mem_append_left _ Zqs));have hl:=O.length;refine append_at (hsz:=by show its.toArray.size<=sizeLine;rw[Zm,<- hl];exact Zz hz) p9.1 λh10 hs10 hd10=>?_;have I10:Inv (JJ X scope N t P2.objs.size a B l) [] U H9 { s9 with heap:=h10 }:=(I9.pins_of (Y':=[]) λp hp=>nomatch hp).turned (t':=s9.toks) (it:=a.heap.objs.size) (λb o w e=>(hs10.2 b w).trans e) p9.2.1 K (.inr (Zf _))
     (λx c e z=>by
      obtain⟨v,o,ho,hd⟩:=I9.cell x c e;rw[z,p9.1] at ho;cases ho;cases hd) (λp hp=>Zn hp (by show ¬p∈([]:Yb)++[];simp))
    obtain⟨z1,z2⟩:=F _ _ _ I9;refine⟨m',hm',i+1,ys++[y],its++[yv],k+1,U,H9,I10,T.keep _ _ _ P (λb w o e=>?_),z2,?_,p9.2.1,js.append O (.cons ry .nil),w9⟩
    .have hb':b≠a.heap.objs.size:=λz=>nD (by rw[<- z];exact w);exact(hs10.2 b hb').trans (z1 b w o e)
    .refine hd10.trans ?_;simp
 exact codeAny_compStart_list (loop _ rfl) (T.self _ 0 _ _ _ (T.keep _ _ _ st2 (λb _ o e=>M b o e)) (loop _ rfl))
def Fj (N)(cap)(l:X.calm=true)(f:QP scope X.env N X.N cap=true)(m:PI X tg iter wi)(o:∀i C s H e,PG (JJ X scope N i C s H e) tg g)(p:∀i C s H e,WE X C s H e->PE (JJ X scope N i C s H e) elt te)
 (hs:∀x,foldedSetIterable iter X.env x=pure x) {use:Option (Value->Sem Unit)} {R:Ya} {a:Pos} {Y:Yb} {s:Shared} {Z: St} {H:Hp} {Q:VK} (I:Inv X Y Z H s) (h:Xm cap wi g te Z H Q) (j:XU X Y Z Q use R):
 YI X (comprehension (.ListComp elt [⟨tg,iter,[],0⟩] scope pos) scope X.env a (newList []) false (eval iter X.env) use) R X.xe s:=
 Fi (test:=λ_ _ Q s=>Q true s) N (λI b n h=>W.kcp_loop I b n h) (λ_ _ _ _ _ _ _ _ _ _ _ _ _ _ I q k=>k true _ _ I q) cap l f m o p hs I h j
def Fk (N)(cap)(f:X.calm=true)(b:QP scope X.env N X.N cap=true)(i:PI X tg iter wi)(j:∀e C s H a,PG (JJ X scope N e C s H a) tg g)(l:∀e C s H a,WE X C s H a->PE (JJ X scope N e C s H a) elt te)
 (hs:∀x,foldedSetIterable iter X.env x=pure x:=by intro _;rfl):PE X (.ListComp elt [⟨tg,iter,[],0⟩] scope pos) (Xm cap wi g te):=λY s Z H Q I h=>Fj N cap f b i j l hs I h Fh
def Os (N)(cap)(f:X.calm=true)(a:QP scope X.env N X.N cap=true)(h:PI X tg iter wi)(i:∀b C s H e,PG (JJ X scope N b C s H e) tg g)(j:∀b C s H e,PE (JJ X scope N b C s H e) elt te)
 (hs:∀x,foldedSetIterable iter X.env x=pure x:=by intro _;rfl):PE X (.ListComp elt [⟨tg,iter,[],0⟩] scope pos) (Xm cap wi g te):=Fk N cap f a h i () hs
end
mutual
def Is (H:Hp):PyData->V->Prop
 | .none,v=>v=.non
 | .bool b,v=>v=.bl b
 | .int i,v=>v=.int i
 | .str x,v=>v=.str x
 | .list ds,v=>∃a c,v=.ref a/\H a=some (.lst c)/\qh H ds c
 | .tuple ds,v=>∃a c,v=.ref a/\H a=some (.tup c)/\qh H ds c
 | .dict _,_=>False
def qh (H:Hp):List PyData->YE->Prop
 | [],xs=>xs=[]
 |d::ds,xs=>∃x r,xs=x::r/\Is H d x/\qh H ds r
end
mutual
theorem Is.same (e:jk H H'):∀d v,Is H d v->Is H' d v
 | .none,_,h=>h
 | .bool _,_,h=>h
 | .int _,_,h=>h
 | .str _,_,h=>h
 | .list ds,v,h=>have ⟨a,b,c,f,g⟩:=h;⟨a,b,c,e _ _ f,qh.same e ds b g⟩
 | .tuple ds,v,h=>have ⟨a,b,c,f,g⟩:=h;⟨a,b,c,e _ _ f,qh.same e ds b g⟩
 | .dict _,_,h=>h.elim
theorem qh.same (e:jk H H'):∀ds a,qh H ds a->qh H' ds a
 | [],_,h=>by simp_all [qh]
 |d::ds,a,h=>have ⟨x,r,b,c,f⟩:=h;⟨x,r,b,Is.same e d x c,qh.same e ds r f⟩
end
theorem qh.length:∀{ds:List PyData} {a:YE},qh H ds a->a.length=ds.length
 | [],_,h=>by simp_all [qh]
 |d::ds,a,h=>by
  obtain⟨x,r,rfl,_,b⟩:=h;rw[Zu,Zu,qh.length b]
theorem qh.get:∀{ds:List PyData} {a:YE} {i:Nat} {d:PyData},qh H ds a->ds[i]? = some d->∃x,a[i]? = some x/\Is H d x
 | [],_,_,_,_,e=>by simp at e
 |d::ds,a,0,d',h,e=>by
  grind[qh]
 |d::ds,a,i+1,d',h,e=>by
  obtain⟨x,r,rfl,_,b⟩:=h;obtain⟨y,c,f⟩:=qh.get b (by simpa using e)
  simp_all
theorem Fl:∀(ns:Yh),qh H (ns.map PyData.int) (ns.map V.int)
 | []=>by rfl
 |n::ns=>⟨_,_,rfl,by rfl,Fl ns⟩
theorem Fo:∀{ns:Yh} {a:YE},qh H (ns.map PyData.int) a->a=ns.map V.int
 | [],_,h=>by
  simp_all [qh]
 |n::ns,a,h=>by
  obtain⟨x,r,rfl,b,c⟩:=h;rw[b,Fo c];rfl
def xD:Is H (.list ds) v↔∃a b,v=.ref a/\H a=some (.lst b)/\qh H ds b:=Iff.rfl
def yA:Is H (.tuple ds) v↔∃a b,v=.ref a/\H a=some (.tup b)/\qh H ds b:=Iff.rfl
mutual
def Kb:PyData->Bool
 | .int _=>true
 | .list xs=>XV xs
 | .tuple xs=>XV xs
 | .none=>false
 | .bool _=>false
 | .str _=>false
 | .dict _=>false
def XV:List PyData->Bool
 | []=>true
 |x::xs=>Kb x&&XV xs
end
mutual
theorem C1:∀d e:PyData,Kb d=true->Kb e=true->(PyData.eqv d e=true↔d=e)
 | .int i,.int j,_,_=>by unfold PyData.eqv;simp
 | .int i,.list ys,_,_=>by unfold PyData.eqv;simp
 | .int i,.tuple ys,_,_=>by unfold PyData.eqv;simp
 | .list xs,.int j,_,_=>by unfold PyData.eqv;simp
 | .list xs,.list ys,h1,h2=>by
  have q:=C4 xs ys h1 h2
  simp_all [PyData.eqv]
 | .list xs,.tuple ys,_,_=>by unfold PyData.eqv;simp
 | .tuple xs,.int j,_,_=>by unfold PyData.eqv;simp
 | .tuple xs,.list ys,_,_=>by unfold PyData.eqv;simp
 | .tuple xs,.tuple ys,h1,h2=>by
  have q:=C4 xs ys h1 h2
  simp_all [PyData.eqv]
 | .none,_,h,_=>by simp_all [Kb]
 | .bool _,_,h,_=>by simp_all [Kb]
 | .str _,_,h,_=>by simp_all [Kb]
 | .dict _,_,h,_=>by simp_all [Kb]
 |_,.none,_,h=>by simp_all [Kb]
 |_,.bool _,_,h=>by simp_all [Kb]
 |_,.str _,_,h=>by simp_all [Kb]
 |_,.dict _,_,h=>by simp_all [Kb]
theorem C4:∀a ys:List PyData,XV a=true->XV ys=true->(PyData.eqvAll a ys=true↔a=ys)
 | [],[],_,_=>by unfold PyData.eqvAll;simp
 | [],y::ys,_,_=>by unfold PyData.eqvAll;simp
 |x::a,[],_,_=>by unfold PyData.eqvAll;simp
 |x::a,y::ys,h1,h2=>by
  have ⟨b,c⟩:=Jt.mp h1;have ⟨e,f⟩:=Jt.mp h2;unfold PyData.eqvAll;rw[Bool.and_eq_true_iff,C1 x y b e,C4 a ys c f];simp
end
def Ot (a:Kb d=true)(b:Kb e=true)(h:d≠e):PyData.eqv d e=false:=by
 grind[C1]
def Ou (a:Kb d=true):PyData.eqv d d=true:=(C1 d d a a).mpr rfl
section
variable {X:Cx}
def qH:Yh->Int
 | []=>0
 |x::r=>r.foldl max x
def xh:Yh->Int
 | []=>0
 |x::r=>r.foldl min x
theorem Fp:∀(r:Yh) x,x<=r.foldl max x/\(∀y∈r,y<=r.foldl max x)/\(r.foldl max x=x\/r.foldl max x∈r)
 | [],x=>by simp
 |y::r,x=>by
  obtain⟨b,a,c⟩:=Fp r (max x y);show x<=r.foldl max (max x y)/\(∀z∈y::r,z<=r.foldl max (max x y))/\(r.foldl max (max x y)=x\/r.foldl max (max x y)∈y::r);refine⟨(),λz hz=>?_,?_⟩
  .rcases Us.mp hz with rfl|hz
   .omega
   .exact a z hz
  grind
def WF (h:l ≠ []):qH l∈l/\∀y∈l,y<=qH l:=by
 cases l with
 |nil=>simp_all
 |cons x r =>
  obtain⟨a,b,h3⟩:=Fp r x;refine⟨?_,λy hy=>?_⟩
  .rcases h3 with h3|h3
   .show r.foldl max x∈x::r;rw[h3];exact Zqs
   .exact Zqm _ h3
  .rcases Us.mp hy with rfl|hy
   .exact a
   .exact b y hy
def Fq (a:M∈l)(b:∀y∈l,y<=M):M=qH l:=by
 obtain⟨c,e⟩:=WF (l:=l) ()
 grind
theorem Fs:∀(r:Yh) x,r.foldl min x<=x/\(∀y∈r,r.foldl min x<=y)/\(r.foldl min x=x\/r.foldl min x∈r)
 | [],x=>by simp
 |y::r,x=>by
  obtain⟨b,a,c⟩:=Fs r (min x y);show r.foldl min (min x y)<=x/\(∀z∈y::r,r.foldl min (min x y)<=z)/\(r.foldl min (min x y)=x\/r.foldl min (min x y)∈y::r);refine⟨(),λz hz=>?_,?_⟩
  .rcases Us.mp hz with rfl|hz
   .omega
   .exact a z hz
  grind
def Ay (h:l ≠ []):xh l∈l/\∀y∈l,xh l<=y:=by
 cases l with
 |nil=>simp_all
 |cons x r =>
  obtain⟨a,b,h3⟩:=Fs r x;refine⟨?_,λy hy=>?_⟩
  .rcases h3 with h3|h3
   .show r.foldl min x∈x::r;rw[h3];exact Zqs
   .exact Zqm _ h3
  .rcases Us.mp hy with rfl|hy
   .exact a
   .exact b y hy
def C5 (a:M∈l)(b:∀y∈l,M<=y):M=xh l:=by
 obtain⟨c,e⟩:=Ay (l:=l) ()
 grind
def Ov (m:X.calm=true):qa X (.builtin "max") (λg H Q=>∃a ns,g=[.ref a]/\qy X.K H a (ns.map V.int)/\ns ≠ []/\Q (.int (qH ns)) H):=by
 intro Y s Z H g C Q I r h;obtain⟨a,ns,rfl,n,o,q⟩:=h;obtain⟨u,rfl,w⟩:=Ka r;obtain rfl:=w;obtain⟨its,x,p,hz⟩:=I.list n;have i:=ET x;obtain⟨ys,e⟩:=i.allInts.items;have c:ns=ys.toList.map (·.1):=by
  rw[<- i.numsOf,<- nums_intItems,<- e]
 have hsz:0<ys.size:=by
  grind
 have f:=p.isList;rw[e] at f;refine max_intList (I.ok.hd m) f hsz λv h' tk y z=>?_;obtain⟨t,rfl⟩:=intItems_at y;obtain⟨E,A⟩:=argBest_gt (numAt ys) (ys.size-1);refine⟨.int (qH ns),H,I.kept z,⟨t,?_⟩,q⟩
 congr 1
 refine Fq ?_ λb l=>?_
 .rw[c,numAt_eq];exact PySem.getD_mem (by rw[Zql,Ui];lia)
 .rw[c] at l;obtain⟨j,B,rfl⟩:=PySem.mem_getD l;rw[Zql,Ui] at B;rw[<- numAt_eq];exact A j ()
def Ow (m:X.calm=true):qa X (.builtin "min") (λg H Q=>∃a ns,g=[.ref a]/\qy X.K H a (ns.map V.int)/\ns ≠ []/\Q (.int (xh ns)) H):=by
 intro Y s Z H g C Q I r h;obtain⟨a,ns,rfl,n,o,q⟩:=h;obtain⟨u,rfl,w⟩:=Ka r;obtain rfl:=w;obtain⟨its,x,p,hz⟩:=I.list n;have i:=ET x;obtain⟨ys,e⟩:=i.allInts.items;have c:ns=ys.toList.map (·.1):=by
  rw[<- i.numsOf,<- nums_intItems,<- e]
 have hsz:0<ys.size:=by
  grind
 have f:=p.isList;rw[e] at f;refine min_intList (I.ok.hd m) f hsz λv h' tk y z=>?_;obtain⟨t,rfl⟩:=intItems_at y;obtain⟨E,A⟩:=argBest_lt (numAt ys) (ys.size-1);refine⟨.int (xh ns),H,I.kept z,⟨t,?_⟩,q⟩
 congr 1
 refine C5 ?_ λb l=>?_
 .rw[c,numAt_eq];exact PySem.getD_mem (by rw[Zql,Ui];lia)
 .rw[c] at l;obtain⟨j,B,rfl⟩:=PySem.mem_getD l;rw[Zql,Ui] at B;rw[<- numAt_eq];exact A j ()
def zn (P:Program)(w:World)(K:W.Frag)(mg:Ye)(a:Heap)(name:Str)(k:Nat)(ps:Yk)(sp:Sp):Prop:=
 ∃f b,FnOk P w K mg a yp k f b ps sp/\zF K b ps []/\W.keepIn K (.ref f)=true/\mg name=some (.ref f)
theorem zn.mono {P:Program}{w:World}{K:W.Frag}{mg:Ye}{a:Heap}{name:Str}{j k:Nat}{ps:Yk}{sp:Sp}(c:zn P w K mg a name j ps sp)(h:j<=k):zn P w K mg a name k ps sp:=by
 obtain⟨f,b,F,r⟩:=c;exact⟨f,b,F.mono h,r⟩
def XX (c:zn X.prog X.w X.K X.mg X.base name k ps sp)(h:Room k X.A)(i:Gl X name)(j:PA X (e::es) t)
 (a:(name == ("__debug__" : Str))=false:=by decide) (l:starEach (e::es) X.env=(false,eval e X.env)::starEach es X.env:=by rfl) (g:(backTo pos (starEach es X.env)).any (·.1)=false:=by rfl):
 PE X (.Call (.Name name p) (e::es) [] pos) (Cm sp [] E0 t):=by
 obtain⟨f,o,F,b,m,n⟩:=c;exact EL F h i n m b .nil Cy j a l g
end
def Kz (h:H p=none)(o):jk H (upd H p o):=λb u q=>by rwa [JF (Kf q h)]
def QQ (h:n<=1000):n<=sizeLine:=Zz (Ff h)
def pD (p:Int×Int):PyData:=.tuple [.int p.1,.int p.2]
def rD (r:Jy):PyData:=.tuple (r.map pD)
def ma:Is H (pD p) v↔∃a,v=.ref a/\H a=some (.tup [.int p.1,.int p.2]):=by
 constructor
 .rintro⟨a,g,b,c,f⟩;have e:=Fo (ns:=[p.1,p.2]) f
  simp_all
 .rintro⟨a,b,c⟩;exact⟨a,_,b,c,Fl [p.1,p.2]⟩
def C6 (o)(s:jk H H')(h:H l=none):jk H (upd H' l o):=λb u e=>by
 rw[JF (Kf e h)];exact s b u e
def C7 (p):Kb (pD p)=true:=by rfl
def Km:bootBuiltins "len" = some (.builtin "len"):=boot_len
def Ft:bootBuiltins "max" = some (.builtin "max"):=boot_max
def Ox:bootBuiltins "min" = some (.builtin "min"):=boot_min
def XY:bootBuiltins "sorted" = some (.builtin "sorted"):=boot_sorted
def C8:bootBuiltins "str" = some (.type "str"):=boot_str
def WG:bootBuiltins "list" = some (.type "list"):=boot_list
def Az:bootBuiltins "tuple" = some (.type "tuple"):=boot_tuple
def C9:bootBuiltins "dict" = some (.type "dict"):=boot_dict
def bt_set:bootBuiltins "set" = some (.type "set"):=boot_set
def Fu:entryFor table "dict.update.loop" = some Builtin.«dict.update.loop»:=entryFor_of_tree (by rfl)
def A0:plainId "dict.update.loop" = true:=by decide +kernel
section
variable {prog:Program}{w:World}{K:Type}[DecidableEq K]{knd:KeyKind prog w K}
def fH (knd:KeyKind prog w K)(it t d:Addr)(c:Yn)(ps:List (K×Value))(y:Heap)(hlen:c.size=ps.length)
 (J:∀(j:Nat) k v,ps[j]? = some (k,v)->∃n h,c[j]? = some (.ref n)/\y.IsTuple n #[h,v]/\knd.is k h=true/\n≠it/\n≠d)
 (z:y.IsTuple t c) (n1:t≠it) (n2:t≠d) (L:d≠it) (m:Nat):
 ∀i:Nat,ps.length-i=m->∀A R s (a:List (K×Value)),A.handled=none->s.heap.IsTupleIter it t i->(∀b o,b≠it->b≠d->y.get? b=some o->s.heap.get? b=some o) ->
  s.heap.DictOf knd d a->a.length+(ps.length-i)<=sizeLine ->
  (∀h' tk,h'.DictOf knd d (merged a (ps.drop i))->(∀b o,b≠it->b≠d->y.get? b=some o->h'.get? b=some o)->R (.ok (.ret .none)) { s with heap:=h',toks:=tk }) ->
  wpAny (model prog w) A.in1 (Builtin.«dict.update.loop» ⟨[.ref d,.ref it,rawInt i,.none],[]⟩) (λq s'=>match q with | .done f=>R (.ok f) s' | .again c'=>c'.quiet=true/\codeAny (model prog w) A c' R s') (λe s'=>R (.error e) s') s:=by
 induction m with
 |zero =>
  intro i H A R s a M st keep N hz I;have O:c[i]? = none:=by rw[Array.getElem?_eq_none_iff];lia
  have P:s.heap.IsTuple t c:=by
   obtain⟨o,l,r⟩:=z;exact⟨o,keep t o n1 n2 l,r⟩
  unfold Builtin.«dict.update.loop»;refine Za (wpAny_pyNext_tuple_end M st P O λh' eb=>?_);have Q:ps.drop i=[]:=Vg ();rw[Q] at I;have B:h'.DictOf knd d a:=by
   obtain⟨o,es,ep,l,r⟩:=N;exact⟨o,es,ep,eb d o L l,r⟩
  have q:=I h' s.toks B (λb o C E e=>eb b o C (keep b o C E e));unfold Builtin.Dict.addKeywords;exact Za (Zb (Zb q))
 |succ m ih =>
  intro i H A R s a M st keep N hz I;have u:i<ps.length:=()
  obtain⟨g,hkv⟩:∃g,ps[i]? = some g:=⟨_,Zqg u⟩;obtain⟨n,h,O,S,F,a1,a2⟩:=J i g.1 g.2 hkv;have P:s.heap.IsTuple t c:=by
   obtain⟨o,l,r⟩:=z;exact⟨o,keep t o n1 n2 l,r⟩
  unfold Builtin.«dict.update.loop»;refine Za (wpAny_pyNext_tuple_item st P O λC U x=>?_);obtain⟨X,Y,Z,nn,hod⟩:=S;have p:C.get? n=some X:=(x.2 n a1).trans (keep n X a1 a2 Y);have hD1:C.DictOf knd d a:=by
   obtain⟨o,es,ep,l,r⟩:=N;exact⟨o,es,ep,(x.2 d L).trans l,r⟩
  dsimp only;refine Za (wpAny_holding (Za (wpAny_tryCatch ?_)));unfold Builtin.Dict.pairItems;refine Za (wpAny_typeOf (T:= "tuple") ⟨X,p,Z⟩ ?_);rw[Zd (by decide)];refine Za (wpAny_seqItems p hod (Zb ?_));show wpAny _ _ (holding [h,g.2] (dictSet d h g.2)) _ _ _;refine wpAny_holding (wpAny_dictSet_pairs F hD1 (λE hD2 G=>?_) ());have hc:((i:Int)+1)=((i+1:Nat):Int):=by push_cast;rfl
  refine Zb ?_;rw[hc];have st2:E.IsTupleIter it t (i+1):=by
   obtain⟨o,l,r⟩:=U;exact⟨o,(G.2 it (Ne.symm L)).trans l,r⟩
  have k2:∀b o,b≠it->b≠d->y.get? b=some o->E.get? b=some o:=λb o b1 b2 e=>(G.2 b b2).trans ((x.2 b b1).trans (keep b o b1 b2 e));have z2:(stored a g.1 g.2).length+(ps.length-(i+1))<=sizeLine:=by
   have:(stored a g.1 g.2).length<=a.length+1:=by
    unfold stored
    split
    .rw[Zql];lia
    .rw[Ub,Uj];lia
   rw[H] at hz;rw[Nat.sub_succ,H];exact Zh (Nat.add_le_add_right this m) (Zh (Yx (Nat.succ_add_eq_add_succ a.length m)) hz)
  have e:merged a (ps.drop i)=merged (stored a g.1 g.2) (ps.drop (i+1)):=by
   rw[Uu u];have:ps[i]=g:=by
    have:=Zqg u;rw[this] at hkv;exact Zqi hkv
   rw[this];rfl
  exact⟨plainId_quiet A0 _,codeAny_builtin Fu (by
   rw[Around.under_plainId A0 _];exact ih (i+1) (by rw[Nat.sub_succ,H];rfl) A R { s with heap:=E,toks:=s.toks+1 } (stored a g.1 g.2) M st2 k2 hD2 z2 λh' tk B kk=>I h' tk (by rwa [e]) kk)⟩
end
def Oy:typeLookup (.type "tuple") "keys" = pure none:=by rw[typeLookup_type,builtinLookup_eq_fast];kernel_rfl
def Oz
 (n:s.heap.get? a=some o) (p:o.cls=.type "tuple") (f:o.data=.seq xs k) (q:o.dict=none) (i:typeLookup (.type "tuple") name=pure none) (j:(["__module__", "__name__", "__qualname__", "__doc__", "__annotations__"]:Yk).contains name=false) (t:A.handled=none)
 (h:∀h' tk,(∀b o,s.heap.get? b=some o->h'.get? b=some o)->Q none { s with heap:=h',toks:=tk }) (hsz:name.length+100<=sizeLine:=by size_fits):
 YJ prog w A (getAttr? (.ref a) name) Q E s:=by
 obtain⟨c,u,v,x⟩:=o;simp only at p f q;subst p f q;obtain⟨hp,g,d,tk,os⟩:=s;have r:∀l,(⟨hp,g,d,l,os⟩:Shared).TypeIs (.ref a) "tuple" := λ_=>⟨_,n,rfl⟩;have y:=sub_AttributeError;have z:=F.slot_tuple_getattribute.lookup;have B:=F.slot_tuple_getattribute.bind (.ref a);have C:=am_tuple_getattr_none;unfold getAttr? getAttrBy? getAttrBy
 repeat (any_goals (first|assumption|exact r _|((with_reducible show wpAny _ _ (call (Value.builtin "tuple.__getattribute__") _ _) _ _ _);refine call_meets F.slot_tuple_getattribute (r _) am_entry_tuple_getattribute (F.args_tuple_getattribute_2 _ _) (meets_getattribute_miss_tuple a xs k x name _ i j hsz) ⟨n,t,λh' l e m=>?_⟩)|wp_step))
 obtain⟨t',G,H⟩:=m.there;show wpAny _ _ (getattributeRaised _ _ _ _ _ _ _) _ _ _;unfold getattributeRaised
 repeat (any_goals (first|assumption|wp_step))
 exact h _ _ m.of.keeps
section
variable {prog:Program}{w:World}{K:Type}[DecidableEq K]{A:Around}{E:Ya}{s:Shared}
def O0 (knd:KeyKind prog w K)(M:A.handled=none)(C:s.heap.get? t=some o)(G:o.cls=.type "tuple")(l:o.data=.seq items n)(O:o.dict=none)
 (p:items.size=ps.length) (H:∀(j:Nat) k v,ps[j]? = some (k,v)->∃g a,items[j]? = some (.ref g)/\s.heap.IsTuple g #[a,v]/\knd.is k a=true) (hz:ps.length<=sizeLine)
 (h:∀h' tk,h'.DictOf knd s.heap.objs.size (merged [] ps)->(∀b u,s.heap.get? b=some u->h'.get? b=some u)->Q (.ref s.heap.objs.size) { s with heap:=h',toks:=tk }):
 YJ prog w A (call (.type "dict") [.ref t]) Q E s:=by
 refine callType_codes (Q₁:=λq s₁=>q=.ref s.heap.objs.size/\s₁={ s with heap:=s.heap.push { cls:=.type "dict",data:=.dict #[] } }) F.kt_called_dict (F.kt_typeCall_dict_1 _) F.entry_dict_init (kt_code_dict_new _ ⟨rfl,rfl⟩) ?_;rintro q s₁ ⟨rfl,rfl⟩;have c:(s.heap.push { cls:=.type "dict",data:=.dict #[] }).DictOf knd s.heap.objs.size []:=Heap.DictOf.new s.heap;refine⟨c.typeIs,F.args_dict_init_2 _ _,?_⟩;have m:(s.heap.push { cls:=.type "dict",data:=.dict #[] }).get? t=some o:=Zq _ C;unfold Builtin.«dict.__init__»;refine Za ?_;unfold Builtin.Dict.selfAndRest;refine Za (wpAny_notOrdered_dict c.typeIs ?_);show wpAny _ _ (pure (s.heap.objs.size,[Value.ref t])) _ _ _;refine Zb ?_;show wpAny _ _ (Builtin.Dict.updateFrom "dict.__init__" s.heap.objs.size (.ref t) [] .none) _ _ _;unfold Builtin.Dict.updateFrom;refine Za (wpAny_typeOf (T:= "tuple") ⟨o,m,G⟩ ?_);rw[Zd (by decide)];refine Za (Oz m G l O Oy (by decide +kernel) M (λi P k2=>?_) (by decide));rw[Zd (by rfl)];have x:i.IsTuple t items:=⟨o,k2 _ _ m,G,n,l⟩;have lt:s.heap.objs.size<i.objs.size:=by
  obtain⟨B,_,_,e,_⟩:=c;exact Zk (k2 _ _ e)
 have R:i.DictOf knd s.heap.objs.size []:=by
  obtain⟨B,es,ep,e,r⟩:=c;exact⟨B,es,ep,k2 _ _ e,r⟩
 refine Za (wpAny_rule ?_);refine Za (wpAny_pyIter_tuple x ?_);have f:∀b u,s.heap.get? b=some u->b≠s.heap.objs.size/\b≠i.objs.size:=λb u e=>by
  have z:=Zk e;exact⟨Zi z,Zi (Uf z lt)⟩
 have N:∀b u,s.heap.get? b=some u->i.get? b=some u:=λb u e=>k2 b u (Zq _ e);have y:∀(j:Nat) k v,ps[j]? = some (k,v)->∃g a,items[j]? = some (.ref g)/\i.IsTuple g #[a,v]/\knd.is k a=true/\g≠i.objs.size/\g≠s.heap.objs.size:=λj k v e=>by
  obtain⟨g,a,S,⟨I,J,U⟩,X⟩:=H j k v e;exact⟨g,a,S,⟨I,N _ _ J,U⟩,X,(f g I J).2,(f g I J).1⟩
 refine Zb ⟨plainId_quiet A0 _,codeAny_builtin Fu ?_⟩;rw[Around.under_plainId A0 _];refine fH knd i.objs.size t s.heap.objs.size items ps i p y x (f t o C).2 (f t o C).1 (Zi lt) ps.length 0 () A.in1 _ _ [] M ⟨_,Zr _ rfl,rfl,rfl⟩ (λb u _ _ e=>Zq _ e) ?_ (by simpa using hz) ?_
 .obtain⟨B,es,ep,e,r⟩:=R;exact⟨B,es,ep,Zq _ e,r⟩
 .intro h' tk L Y;exact⟨rfl,h h' tk L λb u e=>Y b u (f b u e).2 (f b u e).1 (N b u e)⟩
end
def xy (r:Jy):List (jC×V):=r.map λp=>(Ue p.1,V.int p.2)
def A1 (r:Jy):List (jC×V):=WC [] (xy r)
theorem Fv (ok:qK P w H h):∀{r:Jy} {f:YE} {b:Yf},qh H (r.map pD) f->js f b ->
 ∃ps:List (jC×Value),KV (xy r) ps/\b.length=ps.length/\∀(j:Nat) k v,ps[j]? = some (k,v)->∃g c,b[j]? = some (.ref g)/\h.IsTuple g #[c,v]/\(Qx P w).is k c=true
 | [],f,b,ha,r=>by
  subst ha;cases r;exact⟨[],.nil,rfl,()⟩
 |p::r,f,b,ha,rv=>by
  obtain⟨x,ys,rfl,l,m⟩:=ha;cases rv with
  | @cons _ u _ q s t =>
   obtain⟨ps,k1,k2,k3⟩:=Fv ok m t;obtain⟨a,rfl,y⟩:=ma.mp l;obtain rfl:=s;obtain⟨_,its,z,o,A,B,n,C⟩:=(ok a _ y);obtain⟨I,E,rfl,F,G⟩:=Cj z;obtain⟨i,rfl⟩:=(F);refine⟨(Ue p.1,E)::ps,.cons ⟨rfl,G⟩ k1,(),λj k v e=>?_⟩;cases j with
   |zero =>
    cases e;exact⟨a,.int p.1 i,rfl,⟨o,A,B,n,C⟩,Ey p.1 i⟩
   |succ j =>
    exact k3 j k v (by simpa using e)
section
variable {X:Cx}
def O1 (g:X.calm=true):qa X (.type "dict") (λb H Q=>∃a r,b=[.ref a]/\Is H (rD r) (.ref a)/\r.length<=100/\∀p,H p=none->Q (.ref p) (upd H p (.dK (A1 r)))):=by
 intro Y s Z H b G Q I i h;obtain⟨a,r,rfl,l,hz,q⟩:=h;obtain⟨u,rfl,m⟩:=Ka i;obtain rfl:=m;obtain⟨J,b,t,w,x⟩:=l;cases t;obtain⟨⟨K,L,c,d0⟩,its,y,o,f,A,n,B⟩:=(I.hok a _ w);rw[c] at f;obtain rfl:=Zqi f;obtain⟨ps,k1,k2,k3⟩:=Fv I.hok x y;have M:=k1.length;have C:(xy r).length=r.length:=Zql _;refine O0 (Qx X.prog X.w) (I.ok.hd g) c A B d0 () (λj k v e=>?_) (QQ ()) λh' tk E F=>?_
 .simp_all
 .refine⟨.ref s.heap.objs.size,upd H s.heap.objs.size (.dK (A1 r)),I.laid F (Zf _) (Fc ?_ (beq_eq_false_iff_ne.mpr (Ne.symm (Zi I.big))) (wh k1 .nil) E),rfl,q _ (I.hok.fresh (Zf _))⟩;have z:=Fe (xy r) [];rw[ZD,C] at z;exact QQ (by unfold A1;lia)
end
def J8:Jy->Int->Option Int
 | [],_=>none
 |p::r,t=>match J8 r t with
  |some w=>some w
  |none=>if p.1=t then some p.2 else none
def O2 (r s)(t):J8 (r++s) t=match J8 s t with|some w=>some w|none=>J8 r t:=by
 induction r with
 |nil=>grind[J8]
 |cons p r a =>
  grind[List.cons_append,J8]
def Qj (h:J8 r t=some w):(t,w)∈r:=by
 induction r with
 |nil=>simp[J8] at h
 |cons p r a =>
  grind[J8]
theorem Fw (h:J8 r t=none):∀w,(t,w)∉r:=by
 induction r with
 |nil=>simp
 |cons p r a =>
  grind[J8]
def j7 (r:Jy):Prop:=(r.map (·.1)).Nodup
def j7.eq (h:j7 r)(a:(t,v)∈r)(b:(t,w)∈r):v=w:=by
 induction r with
 |nil=>cases a
 |cons p r c =>
  obtain⟨f,e⟩:=Jl.mp (h);rcases Us.mp a with e1|e1<;>rcases Us.mp b with e2|e2
  .grind
  .grind
  .grind
  .exact c e e1 e2
def j7.look (h:j7 r)(a:(t,w)∈r):J8 r t=some w:=by
 cases q:J8 r t with
 |none=>exact Zn a (Fw q w)
 |some v=>rw[h.eq (Qj q) a]
def yd (o:Jy)(p:Int×Int):Bool:=match J8 o p.1 with
 |some w=>decide (p.2<=w)
 |none=>false
def JC (r o:Jy):Bool:=r.all (yd o)
def Fx {r o:Jy}{i:Nat}{p:Int×Int}(hp:r[i]? = some p)(h:yd o p=false):JC r o=false:=by
 grind[JC,List.all_eq_false]
def KM {α: Type}{r:List α}{p:α}(hp:r[i]? = some p):r.take (i+1)=r.take i++[p]:=by
 rw[Vv,hp];rfl
def O3 {r o:Jy}{i:Nat}{p:Int×Int}(hp:r[i]? = some p)(h:JC (r.take i) o=true)(a:yd o p=true):JC (r.take (i+1)) o=true:=by
 rw[KM hp]
 simp_all [JC]
open PySem PyProof.Rows
def Fy (h:l<r)(c:r-l<=k-x):∃m,(l+r) / 2=m/\l<=m/\m<r/\m-l<=k-(x+1)/\r-(m+1)<=k-(x+1):=by
 have a:l<=(l+r) / 2:=()
 have b:(l+r) / 2<r:=()
 generalize (l+r) / 2=m at a b ⊢;exact⟨m,rfl,a,b,Nat.le_pred_of_lt (Zg (Nat.sub_lt_sub_right a b) c),Nat.pred_le_pred (Zh (Nat.sub_le_sub_left a r) c)⟩
structure Wk (lt:Yd):Prop where
 asy:∀i j,lt i j=true->lt j i=false
 neg:∀i j k,lt i k=true->lt i j=true\/lt j k=true
def jK (lt:Yd)(i j:Nat):Prop:=lt i j=true\/(lt j i=false/\i<j)
section
variable {lt:Yd}(W:Wk lt)
include W
theorem jK.no (h:jK lt i j):lt j i=false:=by
 rcases h with h|h
 .exact W.asy _ _ h
 .exact h.1
theorem jK.trans (c:jK lt i j)(e:jK lt j k):jK lt i k:=by
 have g:=jK.no W e;have f:lt k i=false:=by
  cases q:lt k i with
  |false=>rfl
  |true =>
   rcases W.neg k j i q with z|z
   .simp_all
   .rw[(jK.no W c)] at z;exact JB z
 rcases c with a|a
 .rcases W.neg i k j a with z|z
  .exact .inl z
  simp_all
 .rcases e with b|b
  .rcases W.neg j i k b with z|z
   .simp_all
   .exact .inl z
  .exact .inr ⟨f,()⟩
end
def gx (ix:Yi)(k:Nat):Nat:=(ix[k]?).getD 0
theorem CA (h:k<ix.size):ix[k]? = some (gx ix k):=by
 simp_all [gx]
def Fz (hs:src<ix.size)(a:d<=src)(k):gx (bubble ix src d) k=if k=src-d then gx ix src else if src-d<k/\k<=src then gx ix (k-1) else gx ix k:=by
 unfold gx;rw[getElem?_bubble hs d a k]
 repeat' split
 all_goals rfl
def XZ (a:j<=ix.size)(k):gx (mirror ix i j ((j-i) / 2)) k=if i<=k/\k<j then gx ix (i+j-1-k) else gx ix k:=by
 unfold gx;rw[getElem?_mirror_all a k]
 split
 all_goals rfl
def O4 {α β: Type}(f:α -> β)(b:Array α)(i j:Nat):(b.map f).swapIfInBounds i j=(b.swapIfInBounds i j).map f:=by
 apply Array.ext_getElem?;intro k;by_cases a:i<b.size
 .by_cases c:j<b.size
  .rw[getElem?_swapIB (by simpa using a) (by simpa using c),UP,UP,UP,UP,getElem?_swapIB a c]
   repeat' split
   all_goals rfl
  .rw[VG,VG,dif_pos (by simpa using a),dif_neg (by simpa using c),dif_pos a,dif_neg c]
 .rw[VG,VG,dif_neg (by simpa using a),dif_neg a]
theorem CB {α β γ: Type}(f:α -> β)(p q:γ -> Nat):∀(l:List γ) (b:Array α),l.foldl (λa k=>a.swapIfInBounds (p k) (q k)) (b.map f)=(l.foldl (λa k=>a.swapIfInBounds (p k) (q k)) b).map f
 | [],b=>rfl
 |k::l,b=>by
  rw[Vh,Vh,O4,CB f p q l]
def O5 {α β: Type}(f:α -> β)(xs)(src d):bubble (xs.map f) src d=(bubble xs src d).map f:=CB f _ _ _ xs
def O6 {α β: Type}(f:α -> β)(xs)(i j d):mirror (xs.map f) i j d=(mirror xs i j d).map f:=CB f _ _ _ xs
structure Pl (n:Nat)(ix:Yi)(k:Nat):Prop where
 size:ix.size=n
 perm:ix.Perm (Array.range n)
 pre:∀a,a<k->gx ix a<k
 suf:∀a,k<=a->a<n->gx ix a=a
def Pl.lt (h:Pl n ix k)(b:k<=n)(e:a<n):gx ix a<n:=by
 by_cases c:a<k
 .exact Zg (h.pre a c) b
 .rwa [h.suf a () e]
def Up (lt:Yd)(ix:Yi)(k:Nat):Prop:=∀a b,a<b->b<k->jK lt (gx ix a) (gx ix b)
structure SB (it:Nat->Keyed)(kind:SortKind)(ix:Yi)(st:SortSt):Prop where
 arr:arrOf st=ix.map it
 kd:kindOf st=kind
 fl:failedOf st=none
 pd:pendingOf st = #[]
def yj (prog:Program)(w:World)(A:Around)(s:Shared)(kind:SortKind)(it:Nat->Keyed)(lt:Yd)(n:Nat):Prop:=
 ∀i j,i<n->j<n->∀(E:Ya) (Q:Bool->YC),Q (lt i j) s->YJ prog w A (keyLt' kind (it i).1 (it j).1) Q E s
end L2
set_option maxHeartbeats 4000000
namespace L2
def Wi:Bool->Keyed->Array Keyed->Nat->Nat->Nat->StateT SortSt Sem (Option Nat):=sortPriv% PySem.Builtin.gallop
def CC:Array Keyed->Array Keyed->StateT SortSt Sem (Array Keyed):=sortPriv% PySem.Builtin.mergeLo
def CD:Array Keyed->Array Keyed->StateT SortSt Sem (Array Keyed):=sortPriv% PySem.Builtin.mergeHi
abbrev KA:=Array Keyed
abbrev SM:=StateT SortSt Sem
abbrev C3:=Option (Option Nat)×Nat×Nat
def be (lt:Yd)(left:Bool)(x k:Nat):Bool:=if left then lt x k else !lt k x
section
variable {prog:Program}{w:World}{A:Around}{E:Ya}{s:Shared}{kind:SortKind}{it:Nat->Keyed}{lt:Yd}{N:Nat}{st:SortSt}
def Y0 {i j:Nat}{Q:Option Bool->YB}(O:yj prog w A s kind it lt N)(a:kindOf st=kind)(b:i<N)(c:j<N)(h:Q (some (lt i j)) st):YK prog w A E s (lt' (it i) (it j)) Q st:=by
 rw[lt'_eq];refine Yo (wpS_get ?_);rw[a];exact Yo (wpS_lift (wpAny_attempt (O _ _ b c _ _ ⟨rfl,Yp h⟩)))
def Qu {a:Yi}{p:Nat}{Q:Keyed->YB}(hp:p<a.size)(h:Q (it (gx a p)) st):YK prog w A E s (elem' (a.map it) p) Q st:=by
 grind[Array.getElem?_map,elem'_eq,CA,PyProof.Rows.wpS_pure]
noncomputable def wi {α: Type}{c:Prop}[Decidable c]{m n:SM α}{Q:α -> YB}(h:c->YK prog w A E s m Q st)(k:¬c->YK prog w A E s n Q st):YK prog w A E s (if c then m else n) Q st:=()
noncomputable def gi (left:Bool)(a:Keyed)(e:KA)(c i:Nat):SM (Option Bool):=elem' e (c+i) >>= λx=>if left=true then lt' x a else lt' a x >>= λr=>pure (r.map λb => !b)
def nF {left:Bool}{k:Nat}{b:Yi}{p a:Nat}{Q:Option Bool->YB}(O:yj prog w A s kind it lt N)(c:kindOf st=kind)(e:k<N)(hp:a+p<b.size)(f:gx b (a+p)<N)(h:Q (some (be lt left (gx b (a+p)) k)) st):
 YK prog w A E s (gi left (it k) (b.map it) a p) Q st:=by
 refine Yo (Qu hp ?_);cases left with
 |true=>exact Y0 O c f e h
 |false=>exact Yo (Y0 O c e f (Yp h))
noncomputable def pQ (b:Nat->SM (Option Bool))(lo a:Nat):SM (ForInStep C3):=if lo ≥ a then pure (.done (none,lo,a)) else b (lo+(a-lo) / 2) >>= λr=>match r with
 |some t=>if t=true then pure (.yield (none,lo+(a-lo) / 2+1,a)) else pure (.yield (none,lo,lo+(a-lo) / 2))
 |_=>pure (.done (some none,lo,a))
noncomputable def gh (b:Nat->SM (Option Bool))(n lo a:Nat):SM (Option Nat):=(forIn [:n] ((none,lo,a):C3) λ_ c=>pQ b c.2.1 c.2.2) >>= λc=>match c.1 with
 |some r=>pure r
 |none=>pure (some c.2.2)
noncomputable def pS (b:Nat->SM (Option Bool))(a c l o:Nat):SM (ForInStep C3):=if o ≥ c then pure (.done (none,l,o)) else b (a+o) >>= λr=>match r with
 |some t=>if(!t)=true then pure (.done (none,l,o)) else pure (.yield (none,o,2*o+1))
 |_=>pure (.done (some none,l,o))
noncomputable def pR (b:Nat->SM (Option Bool))(a c l o:Nat):SM (ForInStep C3):=if o ≥ c then pure (.done (none,l,o)) else b (a-o) >>= λr=>match r with
 |some t=>if t=true then pure (.done (none,l,o)) else pure (.yield (none,o,2*o+1))
 |_=>pure (.done (some none,l,o))
noncomputable def sr (b:Nat->SM (Option Bool))(n a:Nat):SM (Option Nat):=(forIn [:n] ((none,0,1):C3) λ_ c=>pS b a (n-a) c.2.1 c.2.2) >>= λc=>match c.1 with
 |some r=>pure r
 |none=>gh b n (a+c.2.1+1) (a+min c.2.2 (n-a))
noncomputable def su (b:Nat->SM (Option Bool))(n a:Nat):SM (Option Nat):=(forIn [:n] ((none,0,1):C3) λ_ c=>pR b a (a+1) c.2.1 c.2.2) >>= λc=>match c.1 with
 |some r=>pure r
 |none=>gh b n (a+1-min c.2.2 (a+1)) (a-c.2.1)
set_option smartUnfolding false in
def gf {left:Bool}{k:Keyed}{a:KA}{b n c:Nat}:Wi left k a b n c=(gi left k a b c >>= λr=>match r with
 |some t=>if t=true then sr (gi left k a b) n c else su (gi left k a b) n c
 |_=>pure none):=rfl
section
variable {P:Nat->Bool}{b:Nat->SM (Option Bool)}{n:Nat}{Q:Option Nat->YB}(hb:∀{i:Nat} {Q:Option Bool->YB},i<n->Q (some (P i)) st->YK prog w A E s (b i) Q st)
 (mono:∀i j,i<j->j<n->P j=true->P i=true) (h:∀m,m<=n->(∀i,i<m->P i=true)->(∀i,m<=i->i<n->P i=false)->Q (some m) st)
include hb mono h
theorem gg {lo a:Nat}(l:lo<=a)(f:a<=n)(t:∀i,i<lo->P i=true)(u:∀i,a<=i->i<n->P i=false):YK prog w A E s (gh b n lo a) Q st:=by
 refine Yo (Yq (Yr (I:=λx c j=>j=st/\∃lo a,c=(none,lo,a)/\lo<=a/\a<=n/\(∀i,i<lo->P i=true)/\(∀i,a<=i->i<n->P i=false)/\a-lo<=n-x) (Q:=λc j=>j=st/\∃m,c=(none,m,m)/\m<=n/\(∀i,i<m->P i=true)/\∀i,m<=i->i<n->P i=false) ?_ ?_ ()) ?_)
 .rintro x c j _ B ⟨rfl,lo,a,rfl,l,f,t,u,g⟩;refine wi (λc=>?_) λc=>?_
  .have e:lo=a:=Nat.le_antisymm l c;subst e;exact Yp ⟨rfl,lo,rfl,f,t,u⟩
  .have c:lo<a:=Yv c;obtain⟨m,em,m0,m1⟩:∃m,lo+(a-lo) / 2=m/\lo<=m/\m<a:=⟨_,rfl,Ul _ _,Nat.add_lt_of_lt_sub' (Nat.div_lt_self (Nat.sub_pos_of_lt c) (by decide))⟩;have o:a-(m+1)<=n-(x+1):=Nat.pred_le_pred (Zh (Nat.sub_le_sub_left m0 a) g);have p:m-lo<=n-(x+1):=Nat.le_pred_of_lt (Zg (Nat.sub_lt_sub_right m0 m1) g);rw[em];refine Yo (hb (Zg m1 f) (wi (λq=>Yp ⟨rfl,_,_,rfl,m1,f,λi r=>?_,u,o⟩) λq=>Yp ⟨rfl,_,_,rfl,m0,Zh (Zz m1) f,t,λi C v=>?_,p⟩))
   .by_cases z:i=m
    .rw[z];exact q
    .exact mono _ _ () (Zg m1 f) q
   .cases y:P i with
    |false=>rfl
    |true =>
     by_cases z:i=m
     .rw[z] at y;exact Zn y q
     .exact Zn (mono _ _ () v y) q
 .rintro c j ⟨rfl,lo,a,rfl,l,f,t,u,g⟩;rw[Nat.zero_max,Nat.sub_self] at g;have e:lo=a:=Nat.le_antisymm l (Nat.le_of_sub_eq_zero (Nat.le_zero.mp g));subst e;exact⟨rfl,lo,rfl,f,t,u⟩
 grind[PyProof.Rows.wpS_pure]
theorem nB {a:Nat}(t:a<n)(e:P a=true):YK prog w A E s (sr b n a) Q st:=by
 refine Yo (Yq (Yr (I:=λx c j=>j=st/\∃l o,c=(none,l,o)/\l<o/\x+1<=o/\a+l<n/\P (a+l)=true) (Q:=λc j=>j=st/\∃l o,c=(none,l,o)/\l<o/\a+l<n/\P (a+l)=true/\(n-a<=o\/(o<n-a/\P (a+o)=false))) ?_ ?_ ⟨rfl,0,1,rfl,Yw,Zf _,t,e⟩) ?_)
 .rintro x c j _ _ ⟨rfl,l,o,rfl,m,u,f,g⟩;refine wi (λc=>Yp ⟨rfl,l,o,rfl,m,f,g,.inl c⟩) λc=>?_;have v:o<n-a:=Yv c;have B:a+o<n:=Nat.add_lt_of_lt_sub' v;refine Yo (hb B (wi (λq=>Yp ⟨rfl,l,o,rfl,m,f,g,.inr ⟨v,by simpa using q⟩⟩) λq=>Yp ⟨rfl,o,2*o+1,rfl,(),(),B,by simpa using q⟩))
 .rintro c j ⟨rfl,l,o,rfl,m,u,f,g⟩;rw[Nat.zero_max] at u;exact⟨rfl,l,o,rfl,m,f,g,.inl (Zh (U7 _ _) (Uz u))⟩
 .rintro c j ⟨rfl,l,o,rfl,m,f,g,p⟩;show wpS _ _ _ _ (gh b n (a+l+1) (a+min o (n-a))) _ _;refine gg hb mono h (Nat.add_lt_add_left (Nat.lt_min.mpr ⟨m,Nat.lt_sub_iff_add_lt'.mpr f⟩) a) (Zh (Nat.add_le_add_left (Nat.min_le_right _ _) _) (Yx (Vw (Zz t)))) (λi F=>?_) λi r C=>?_
  .by_cases z:i=a+l
   .rw[z];exact g
   .exact mono _ _ () f g
  .rcases p with p|⟨p,h8⟩
   .rw[Nat.min_eq_right p,Vw (Zz t)] at r;exact Zn C (Nat.not_lt_of_le r)
   .rw[Vi (Zz p)] at r;cases y:P i with
    |false=>rfl
    |true =>
     by_cases z:i=a+o
     .rw[z,h8] at y;cases y
     .rw[mono _ _ (UD r (Ne.symm z)) C y] at h8;cases h8
theorem nE {a:Nat}(r:a<n)(e:P a=false):YK prog w A E s (su b n a) Q st:=by
 refine Yo (Yq (Yr (I:=λx c g=>g=st/\∃l o,c=(none,l,o)/\l<o/\x+1<=o/\l<=a/\P (a-l)=false) (Q:=λc g=>g=st/\∃l o,c=(none,l,o)/\l<o/\l<=a/\P (a-l)=false/\(a+1<=o\/(o<a+1/\P (a-o)=true))) ?_ ?_ ⟨rfl,0,1,rfl,Yw,Zf _,Ua _,e⟩) ?_)
 .rintro x c g _ _ ⟨rfl,l,o,rfl,j,u,m,f⟩;refine wi (λc=>Yp ⟨rfl,l,o,rfl,j,m,f,.inl c⟩) λc=>?_;have v:o<a+1:=Yv c;refine Yo (hb (UJ (U7 _ _) r) (wi (λq=>Yp ⟨rfl,l,o,rfl,j,m,f,.inr ⟨v,q⟩⟩) λq=>Yp ⟨rfl,o,2*o+1,rfl,(),(),Uq v,Yu.mpr q⟩))
 .rintro c g ⟨rfl,l,o,rfl,j,u,m,f⟩;rw[Nat.zero_max] at u;exact⟨rfl,l,o,rfl,j,m,f,.inl (Zh r (Uz u))⟩
 .rintro c g ⟨rfl,l,o,rfl,j,m,f,p⟩;show wpS _ _ _ _ (gh b n (a+1-min o (a+1)) (a-l)) _ _;refine gg hb mono h (Zh (Nat.sub_le_sub_left (Nat.lt_min.mpr ⟨j,Nat.lt_succ_of_le m⟩) (a+1)) (Yx (Nat.add_sub_add_right a 1 l))) (Zh (U7 _ _) (Zz r)) (λi t=>?_) λi F B=>?_
  .rcases p with p|⟨p,h8⟩
   .rw[Nat.min_eq_right p,Nat.sub_self] at t;exact Zn t (UQ _)
   .rw[Vi (Zz p),Nat.succ_sub (Uq p)] at t;have C:a-o<n:=UJ (U7 _ _) r;by_cases z:i=a-o
    .rwa [z]
    .exact mono _ _ (UD (Uq t) z) C h8
  .cases y:P i with
   |false=>rfl
   |true =>
    by_cases z:i=a-l
    .rw[z,f] at y;cases y
    .rw[mono _ _ () B y] at f;cases f
end
def Xn {left:Bool}{k:Nat}{b:Yi}{a n c:Nat}{Q:Option Nat->YB}(O:yj prog w A s kind it lt N)(l:kindOf st=kind)(o:k<N)(hz:a+n<=b.size)(p:∀i,i<n->gx b (a+i)<N)(f:c<n)
 (mono:∀i j,i<j->j<n->be lt left (gx b (a+j)) k=true->be lt left (gx b (a+i)) k=true)
 (h:∀m,m<=n->(∀i,i<m->be lt left (gx b (a+i)) k=true)->(∀i,m<=i->i<n->be lt left (gx b (a+i)) k=false)->Q (some m) st):YK prog w A E s (Wi left (it k) (b.map it) a n c) Q st:=by
 have g:∀{i:Nat} {Q:Option Bool->YB},i<n->Q (some (be lt left (gx b (a+i)) k)) st->YK prog w A E s (gi left (it k) (b.map it) a i) Q st:=λr q=>nF O l o () (p _ r) q;rw[gf];exact Yo (g f (wi (λe=>nB g mono h f e) λe=>nE g mono h f (Yu.mpr e)))
end
structure MInv (lt:Yd)(xs ys:Yi)(ia ib:Nat)(o:Yj):Prop where
 a:(o++xs.toList.drop ia).Pairwise (jK lt)
 b:(o++ys.toList.drop ib).Pairwise (jK lt)
 pm:(o++xs.toList.drop ia++ys.toList.drop ib).Perm (xs.toList++ys.toList)
def zD (lt:Yd)(a ys:Yi)(o:Yj):Prop:=o.Perm (a.toList++ys.toList)/\o.Pairwise (jK lt)
section
variable {lt:Yd}{xs ys:Yi}{ia ib:Nat}{o:Yj}
theorem Xo {ix:Yi}{i:Nat}(h:i<ix.size):ix.toList.drop i=gx ix i::ix.toList.drop (i+1):=by
 rw[Uu (by simpa using h)];unfold gx;rw[UA h];simp
def Q2 {ix:Yi}{i:Nat}(h:i<ix.size):gx ix i∈ix.toList:=by
 simp_all [gx]
def F6 {ix:Yi}{i x:Nat}(h:x∈ix.toList.drop i):∃j,i<=j/\j<ix.size/\x=gx ix j:=by
 obtain⟨j,a,e⟩:=Ju.mp h;have hz:i+j<ix.size:=by grind
 refine⟨i+j,(),hz,?_⟩
 simp_all [gx]
def MInv.addA {k:Nat}(M:MInv lt xs ys ia ib o)(h:∀c∈(xs.toList.drop ia).take k,∀y∈ys.toList.drop ib,jK lt c y):MInv lt xs ys (ia+k) ib (o++(xs.toList.drop ia).take k):=by
 have e:xs.toList.drop ia=(xs.toList.drop ia).take k++xs.toList.drop (ia+k):=by rw[<- List.drop_drop,UK]
 have a:=M.a;have b:=M.b;have f:=M.pm;rw[e,<- Uh] at a f;refine⟨a,?_,f⟩;rw[VH] at a b ⊢;refine⟨a.1,b.2.1,λx i y g=>?_⟩;rcases Jb.mp i with z|z
 .exact b.2.2 x z y g
 .exact h x z y g
def MInv.addB {k:Nat}(M:MInv lt xs ys ia ib o)(g:∀c∈(ys.toList.drop ib).take k,∀x∈xs.toList.drop ia,jK lt c x):MInv lt xs ys ia (ib+k) (o++(ys.toList.drop ib).take k):=by
 have e:ys.toList.drop ib=(ys.toList.drop ib).take k++ys.toList.drop (ib+k):=by rw[<- List.drop_drop,UK]
 have b:=M.a;have a:=M.b;have h:=M.pm;rw[e] at a h;rw[<- Uh] at a;refine⟨?_,a,?_⟩
 .rw[VH] at b a ⊢;refine⟨a.1,b.2.1,λx i y f=>?_⟩;rcases Jb.mp i with z|z
  .exact b.2.2 x z y f
  .exact g x z y f
 .exact by grind
def MInv.doneA (M:MInv lt xs ys ia ib o)(h:ys.size<=ib):zD lt xs ys (o++xs.toList.drop ia++ys.toList.drop ib):=by
 have e:=Vg ();refine⟨M.pm,?_⟩;rw[e,ZB];exact M.a
def MInv.doneB (M:MInv lt xs ys ia ib o)(h:xs.size<=ia):zD lt xs ys (o++xs.toList.drop ia++ys.toList.drop ib):=by
 refine⟨M.pm,?_⟩;rw[(Vg ()),ZB];exact M.b
def MInv.last (M:MInv lt xs ys ia ib o)(h:ia+1=xs.size)(a:∀y∈ys.toList,jK lt y (gx xs ia)):zD lt xs ys (o++ys.toList.drop ib++xs.toList.drop ia):=by
 have e:xs.toList.drop ia=[gx xs ia]:=by
  grind[Xo,List.drop_eq_nil_of_le]
 have b:=M.a;have c:=M.b;refine⟨Vx ?_ M.pm,?_⟩
 .grind
 grind
def MInv.one (W:Wk lt)(M:MInv lt xs ys ia ib o)(a:ib<ys.size)(b:ia<xs.size)(q:lt (gx ys ib) (gx xs ia)=true):MInv lt xs ys ia (ib+1) (o++[gx ys ib]):=by
 have e:(ys.toList.drop ib).take 1=[gx ys ib]:=by rw[Xo a];rfl
 have:=M.addB λc f x g=>by
  rw[e] at f;rw[Jd.mp f];have hs:=(VH.mp M.a).2.1;rw[Xo b] at g hs;rcases Us.mp g with z|z
  .rw[z];exact .inl q
  .exact jK.trans W (.inl q) ((Ji.mp hs).1 x z)
 simp_all
def MInv.two (W:Wk lt)(f:∀x∈xs.toList,∀y∈ys.toList,x<y)(M:MInv lt xs ys ia ib o)(a:ib<ys.size)(b:ia<xs.size)(q:lt (gx ys ib) (gx xs ia)=false):MInv lt xs ys (ia+1) ib (o++[gx xs ia]):=by
 have e:(xs.toList.drop ia).take 1=[gx xs ia]:=by rw[Xo b];rfl
 have r:jK lt (gx xs ia) (gx ys ib):=.inr ⟨q,f _ (Q2 b) _ (Q2 a)⟩;have:=M.addA λc g y h=>by
  rw[e] at g;rw[Jd.mp g];have hs:=(VH.mp M.b).2.1;rw[Xo a] at h hs;rcases Us.mp h with z|z
  .rwa [z]
  .exact jK.trans W r ((Ji.mp hs).1 y z)
 simp_all
end
def ar (it:Nat->Keyed)(o:Yj):Array Keyed:=(o.map it).toArray
section
variable {it:Nat->Keyed}{o:Yj}{xs ys:Yi}{i j k:Nat}
def F7 {x:Nat}:(ar it o).push (it x)=ar it (o++[x]):=by simp[ar]
def A3:(xs.map it).extract i j=ar it ((xs.toList.take j).drop i):=by
 apply Vj;simp[ar,List.drop_take]
def A4 {p:Yj}:ar it o++ar it p=ar it (o++p):=by simp[ar]
def F8:(ar it o).reverse=ar it o.reverse:=by simp[ar]
def A5 {x:Nat} : #[it x]=ar it [x]:=by simp[ar]
def fN:(xs.toList.take (i+k)).drop i=(xs.toList.drop i).take k:=by simp_all [List.drop_take]
def O7:(xs.toList.take xs.size).drop i=xs.toList.drop i:=by rw[UY ()]
theorem gK:ar it o++(xs.map it).extract i xs.size++(ys.map it).extract j ys.size=ar it (o++xs.toList.drop i++ys.toList.drop j):=by
 simp_all [A3,O7,A4]
theorem Xp (h:xs.toList.Pairwise R)(b:i<j)(a:j<xs.size):R (gx xs i) (gx xs j):=by
 have:=Jj.mp h i j (by simp;lia) (by simpa using a) b;unfold gx;rw[UA (),UA a];simpa using this
def CF {x:Nat}(h:x∈(xs.toList.drop i).take k):∃j,j<k/\i+j<xs.size/\x=gx xs (i+j):=by
 obtain⟨j,a,e⟩:=Ju.mp h;rw[Uv,List.length_drop] at a;have hz:i+j<xs.size:=by grind
 refine⟨j,(),hz,?_⟩
 simp_all [gx]
end
structure SEq (s t:SortSt):Prop where
 arr:arrOf t=arrOf s
 kd:kindOf t=kindOf s
 fl:failedOf t=failedOf s
 pd:pendingOf t=pendingOf s
theorem SEq.refl (s):SEq s s:=⟨rfl,rfl,rfl,rfl⟩
theorem SEq.trans {s t u:SortSt}(h:SEq s t)(k:SEq t u):SEq s u:=⟨k.arr.trans h.arr,k.kd.trans h.kd,k.fl.trans h.fl,k.pd.trans h.pd⟩
section
variable {lt:Yd}{xs ys:Yi}{ia ib m:Nat}{o:Yj}(W:Wk lt)
include W
theorem F9 {k:Nat}(a:xs.toList.Pairwise (jK lt)){n:Nat}(b:ia+n<=xs.size):∀i j,i<j->j<n->be lt false (gx xs (ia+j)) k=true->be lt false (gx xs (ia+i)) k=true:=λi j c e h=>by
 have h:(!lt k (gx xs (ia+j)))=true:=h;show(!lt k (gx xs (ia+i)))=true;cases q:lt k (gx xs (ia+i)) with
 |false=>rfl
 |true =>
  rcases W.neg _ (gx xs (ia+j)) _ q with z|z
  .simp_all
  grind[jK.no,Xp]
theorem FB {k:Nat}(a:xs.toList.Pairwise (jK lt)){n:Nat}(b:ia+n<=xs.size):∀i j,i<j->j<n->be lt true (gx xs (ia+j)) k=true->be lt true (gx xs (ia+i)) k=true:=λi j c e h=>by
 rcases W.neg _ (gx xs (ia+i)) _ h with z|z
 .grind[jK.no,Xp]
 .exact z
theorem MInv.galA (a:∀x∈xs.toList,∀y∈ys.toList,x<y)(n:ys.toList.Pairwise (jK lt))(M:MInv lt xs ys ia ib o)(b:ib<ys.size)(h:∀i,i<m->be lt false (gx xs (ia+i)) (gx ys ib)=true):MInv lt xs ys (ia+m) ib (o++(xs.toList.drop ia).take m):=by
 refine M.addA λc e y f=>?_;obtain⟨j,g,hz,rfl⟩:=CF e;obtain⟨l,p,s,rfl⟩:=F6 f;have q:(!lt (gx ys ib) (gx xs (ia+j)))=true:=h j g;have q:lt (gx ys ib) (gx xs (ia+j))=false:=by simpa using q
 have r:jK lt (gx xs (ia+j)) (gx ys ib):=.inr ⟨q,a _ (Q2 hz) _ (Q2 b)⟩
 grind[jK.trans,Xp]
theorem MInv.galB (f:xs.toList.Pairwise (jK lt))(M:MInv lt xs ys ia ib o)(g:ia<xs.size)(h:∀i,i<m->be lt true (gx ys (ib+i)) (gx xs ia)=true):MInv lt xs ys ia (ib+m) (o++(ys.toList.drop ib).take m):=by
 refine M.addB λc a y b=>?_;obtain⟨j,e,hz,rfl⟩:=CF a;obtain⟨l,n,p,rfl⟩:=F6 b;have r:jK lt (gx ys (ib+j)) (gx xs ia):=.inl (h j e)
 grind[jK.trans,Xp]
end
section
variable {prog:Program}{w:World}{A:Around}{E:Ya}{s:Shared}{kind:SortKind}{it:Nat->Keyed}{lt:Yd}{N:Nat}{st:SortSt}
structure MH (lt:Yd)(N:Nat)(xs ys:Yi):Prop where
 W:Wk lt
 xn:∀x∈xs.toList,x<N
 yn:∀y∈ys.toList,y<N
 hxy:∀x∈xs.toList,∀y∈ys.toList,x<y
 px:xs.toList.Pairwise (jK lt)
 py:ys.toList.Pairwise (jK lt)
abbrev G7 (α β γ: Type):=Option KA × α × β × γ × Nat×Nat×Nat
abbrev G6 (α β γ: Type):=Option KA × α × β × γ × Nat×Nat
abbrev G5 (α β γ: Type):=Option KA × α × β × γ × Nat
def A6:Nat->SM PUnit:=sortPriv% PySem.Builtin.setMinGallop
def CG {m:Nat}{a:SortSt}{Q:PUnit->YB}(b:SEq a st)(h:∀s',SEq a s'->Q ⟨⟩ s'):YK prog w A E s (A6 m) Q st:=wpS_modify (h _ (b.trans ⟨rfl,rfl,rfl,rfl⟩))
section
variable {α β γ: Type}(n:Nat)(f:Nat -> α -> β -> γ -> Nat->Nat->SM (ForInStep (G6 α β γ)))(k:α -> β -> γ -> Nat->Nat->Nat->SM (ForInStep (G7 α β γ)))
noncomputable def mC (c:G7 α β γ):SM (ForInStep (G5 α β γ)):=match c.1 with
 |some r=>pure (.done (some r,c.2.1,c.2.2.1,c.2.2.2.1,c.2.2.2.2.1))
 |none=>A6 (c.2.2.2.2.1+1) >>= λ_=>pure (.yield (none,c.2.1,c.2.2.1,c.2.2.2.1,c.2.2.2.2.1+1))
noncomputable def m2 (x:α)(y:β)(z:γ)(mg ac bc:Nat):SM (ForInStep (G7 α β γ)):=if mg > 1 then k x y z ac bc (mg-1) else k x y z ac bc mg
noncomputable def mB (mg:Nat)(c:G6 α β γ):SM (ForInStep (G5 α β γ)):=match c.1 with
 |some r=>pure (.done (some r,c.2.1,c.2.2.1,c.2.2.2.1,mg))
 |none=>(liftM (rule "list.sort.gallop"):SM PUnit) >>= λ_=>(forIn [:n] ((none,c.2.1,c.2.2.1,c.2.2.2.1,mg+1,c.2.2.2.2.1,c.2.2.2.2.2):G7 α β γ) λ_ c=>m2 k c.2.1 c.2.2.1 c.2.2.2.1 c.2.2.2.2.1 c.2.2.2.2.2.1 c.2.2.2.2.2.2) >>= mC
noncomputable def mA (c:G5 α β γ):SM (ForInStep (G5 α β γ)):=
 (forIn [:n] ((none,c.2.1,c.2.2.1,c.2.2.2.1,0,0):G6 α β γ) λ_ d=>f c.2.2.2.2 d.2.1 d.2.2.1 d.2.2.2.1 d.2.2.2.2.1 d.2.2.2.2.2) >>= mB n k c.2.2.2.2
noncomputable def mT (x:α)(y:β)(z:γ):SM KA:=get >>= λs=>(forIn [:n] ((none,x,y,z,gallopOf s):G5 α β γ) λ_ c=>mA n f k c) >>= λc=>match c.1 with
 |some r=>pure r
 |none=>liftM (unsupported "internal:list.sort.merge-bound")
variable {n f k}{P:Nat -> α -> β -> γ -> Prop}{D:KA->Prop}
structure MR (P:α -> β -> γ -> Prop)(D:KA->Prop)(st0:SortSt)(R:ForInStep (G7 α β γ)->YB):Prop where
 dn:∀{v t sy},SEq st0 sy->D v->R (.done (some v,t)) sy
 go:∀{x y z mg ac bc sy},SEq st0 sy->P x y z->R (.done (none,x,y,z,mg,ac,bc)) sy/\R (.yield (none,x,y,z,mg,ac,bc)) sy
def pL {x:α}{y:β}{z:γ}{mg ac bc:Nat}{R:ForInStep (G7 α β γ)->YB}(h:∀mg,YK prog w A E s (k x y z ac bc mg) R st):YK prog w A E s (m2 k x y z mg ac bc) R st:=wi (λ_=>h _) λ_=>h _
def sf {x:α}{y:β}{z:γ}{Q:KA->YB}(m:kindOf st=kind)(o:P 1 x y z)(q:∀{g x y z},P g x y z->1<=n/\g<=n)(le:∀{g l x y z},P g x y z->l<=g->P l x y z)
 (r:∀{g mg x y z ac bc st} {R:ForInStep (G6 α β γ)->YB},kindOf st=kind->P g x y z->(∀{v t},D v->R (.done (some v,t)) st)->(∀{x y z ac bc},P (g+1) x y z->R (.done (none,x,y,z,ac,bc)) st/\R (.yield (none,x,y,z,ac,bc)) st)->YK prog w A E s (f mg x y z ac bc) R st)
 (u:∀{g x y z ac bc mg i R},MR (P g) D st R->SEq st i->P g x y z->YK prog w A E s (k x y z ac bc mg) R i)
 (h:∀{v i},SEq st i->D v->Q v i):YK prog w A E s (mT n f k x y z) Q st:=by
 refine Yo (wpS_get (Yo (Yq (Yr (I:=λg c j=>SEq st j/\c.1=none/\P (g+1) c.2.1 c.2.2.1 c.2.2.2.1) (Q:=λc j=>SEq st j/\∃v,D v/\c.1=some v) ?_ ?_ ⟨.refl _,rfl,o⟩) ?_)))
 .rintro g c j _ _ ⟨a,_,p⟩;refine Yo (Yq (Yr (I:=λy c b=>b=j/\c.1=none/\P (g+1+y) c.2.1 c.2.2.1 c.2.2.2.1) (Q:=λc b=>b=j/\((∃v,D v/\c.1=some v)\/c.1=none/\P (g+2) c.2.1 c.2.2.1 c.2.2.2.1)) ?_ ?_ ⟨rfl,rfl,p⟩) ?_)
  .rintro y c b _ _ ⟨rfl,_,p⟩;exact r (a.kd.trans m) p (λd=>⟨rfl,.inl ⟨_,d,rfl⟩⟩) λp=>⟨⟨rfl,.inr ⟨rfl,le p ()⟩⟩,rfl,rfl,p⟩
  .rintro c b ⟨rfl,e,p⟩;exact()
  .rintro c b ⟨rfl,⟨v,d,e⟩|⟨e,p⟩⟩
   .unfold mB;rw[e];exact Yp ⟨a,v,d,rfl⟩
   .unfold mB;rw[e];refine Yo (wpS_lift (wpAny_rule ⟨rfl,?_⟩));refine Yo (Yq (Yr (I:=λ_ c b=>SEq st b/\c.1=none/\P (g+2) c.2.1 c.2.2.1 c.2.2.2.1) (Q:=λc b=>SEq st b/\((∃v,D v/\c.1=some v)\/c.1=none/\P (g+2) c.2.1 c.2.2.1 c.2.2.2.1)) ?_ (λc b h=>⟨h.1,.inr h.2⟩) ⟨a,rfl,p⟩) ?_)
    .rintro y c b _ _ ⟨a,_,p⟩;exact pL λ_=>u ⟨λa d=>⟨a,.inl ⟨_,d,rfl⟩⟩,λa p=>⟨⟨a,.inr ⟨rfl,p⟩⟩,a,rfl,p⟩⟩ a p
    .rintro c b ⟨a,⟨v,d,e⟩|⟨e,p⟩⟩
     .unfold mC;rw[e];exact Yp ⟨a,v,d,rfl⟩
     .unfold mC;rw[e];exact Yo (CG a λb a=>Yp ⟨a,rfl,p⟩)
 .rintro c j ⟨_,_,p⟩;have:=(q p).2;lia
 grind[PyProof.Rows.wpS_pure]
end
theorem sz {a:Yi}:(a.map it).size=a.size:=Uo
def bz {a:Yi}{p:Nat}(h:(p == (a.map it).size)=true):p=a.size:=()
def nz {a:Yi}{p:Nat}(h:¬(p == (a.map it).size)=true):p≠a.size:=()
def vq {v:KA}{o:Yj}{x:Nat}(e:v=ar it o):v.push (it x)=ar it (o++[x]):=by rw[e,F7]
def zU {a:Yi}{v:KA}{o:Yj}{i k:Nat}(e:v=ar it o):v++(a.map it).extract i (i+k)=ar it (o++(a.toList.drop i).take k):=by rw[e,A3,fN,A4]
def MD (lt:Yd)(it:Nat->Keyed)(a ys:Yi)(v:KA):Prop:=∃o,zD lt a ys o/\v=ar it o
abbrev L7:=G7 KA Nat Nat
def wv (a b o:KA)(i j:Nat):KA:=o++a.extract i a.size++b.extract j b.size
def vQ (a b o:KA)(i j:Nat):KA:=o++b.extract j b.size++a.extract i a.size
noncomputable def nj (a b:KA)(mg ac bc i:Nat)(o:KA)(j:Nat):SM (ForInStep L7):=
 elem' a i >>= λx=>if(i+1+1 == a.size)=true then pure (.done (some (vQ a b (o.push x) (i+1) j),o.push x,i+1,j,mg,ac,bc))
  else if(decide (ac<7)&&decide (bc<7))=true then pure (.done (none,o.push x,i+1,j,mg,ac,bc)) else pure (.yield (none,o.push x,i+1,j,mg,ac,bc))
noncomputable def sg (a b:KA)(mg ac i:Nat)(o:KA)(j k:Nat):SM (ForInStep L7):=
 if k > 0 then if(j+k == b.size)=true then pure (.done (some (wv a b (o++b.extract j (j+k)) i (j+k)),o++b.extract j (j+k),i,j+k,mg,ac,k))
  else nj a b mg ac k i (o++b.extract j (j+k)) (j+k) else nj a b mg ac k i o j
noncomputable def nq (a b:KA)(mg ac bc j:Nat)(o:KA)(i:Nat):SM (ForInStep L7):=
 elem' b j >>= λx=>if(j+1 == b.size)=true then pure (.done (some (wv a b (o.push x) i (j+1)),o.push x,i,j+1,mg,ac,bc))
  else elem' a i >>= λy=>Wi true y b (j+1) (b.size-(j+1)) 0 >>= λr=>match r with
   |some k=>sg a b mg ac i (o.push x) (j+1) k
   |_=>pure (.done (some (wv a b (o.push x) i (j+1)),o.push x,i,j+1,mg,ac,bc))
noncomputable def pM (a b:KA)(bc j:Nat)(o:KA)(i mg k:Nat):SM (ForInStep L7):=
 if k > 0 then if(i+k+1 == a.size)=true then pure (.done (some (vQ a b (o++a.extract i (i+k)) (i+k) j),o++a.extract i (i+k),i+k,j,mg,k,bc))
  else if(i+k == a.size)=true then pure (.done (some (wv a b (o++a.extract i (i+k)) (i+k) j),o++a.extract i (i+k),i+k,j,mg,k,bc))
  else nq a b mg k bc j (o++a.extract i (i+k)) (i+k) else nq a b mg k bc j o i
noncomputable def si (a b o:KA)(i j ac bc mg:Nat):SM (ForInStep L7):=
 A6 mg >>= λ_=>elem' b j >>= λx=>Wi false x a i (a.size-i) 0 >>= λr=>match r with
  |some k=>pM a b bc j o i mg k
  |_=>pure (.done (some (wv a b o i j),o,i,j,mg,ac,bc))
noncomputable def wQ (a b:KA)(mg:Nat)(o:KA)(i j ac bc:Nat):SM (ForInStep (G6 KA Nat Nat)):=
 elem' b j >>= λx=>elem' a i >>= λy=>lt' x y >>= λr=>match r with
  |some t=>if t=true then elem' b j >>= λx=>if(j+1 == b.size)=true then pure (.done (some (wv a b (o.push x) i (j+1)),o.push x,i,j+1,0,bc+1))
   else if bc+1 ≥ mg then pure (.done (none,o.push x,i,j+1,0,bc+1)) else pure (.yield (none,o.push x,i,j+1,0,bc+1))
   else elem' a i >>= λx=>if(i+1+1 == a.size)=true then pure (.done (some (vQ a b (o.push x) (i+1) j),o.push x,i+1,j,ac+1,0))
    else if ac+1 ≥ mg then pure (.done (none,o.push x,i+1,j,ac+1,0)) else pure (.yield (none,o.push x,i+1,j,ac+1,0))
  |_=>pure (.done (some (wv a b o i j),o,i,j,ac,bc))
set_option smartUnfolding false in
noncomputable def kP {a b:KA}:CC a b=((liftM (rule "list.sort.merge-lo"):SM PUnit) >>= λ_=>elem' b 0 >>= λx=>if(1 == b.size)=true then pure (wv a b #[x] 0 1) else if(0+1 == a.size)=true then pure (vQ a b #[x] 0 1)
 else mT (a.size+b.size) (wQ a b) (si a b) #[x] 0 1):=rfl
end
structure LI (lt:Yd)(xs ys:Yi)(g i j:Nat)(o:Yj):Prop where
 M:MInv lt xs ys i j o
 a:i+1<xs.size
 b:j<ys.size
 g:g<=i+j
def LP (lt:Yd)(it:Nat->Keyed)(a ys:Yi)(g:Nat)(v:KA)(i j:Nat):Prop:=∃o,LI lt a ys g i j o/\v=ar it o
section
variable {prog:Program}{w:World}{A:Around}{E:Ya}{s:Shared}{kind:SortKind}{it:Nat->Keyed}{lt:Yd}{N:Nat}{st st0:SortSt}{xs ys:Yi}{g mg ac bc i j k:Nat}{o:Yj}{v:KA}{R:ForInStep L7->YB}
def Y1 (e:v=ar it o):wv (xs.map it) (ys.map it) v i j=ar it (o++xs.toList.drop i++ys.toList.drop j):=by
 grind[wv,sz,gK]
def A7 (e:v=ar it o):vQ (xs.map it) (ys.map it) v i j=ar it (o++ys.toList.drop j++xs.toList.drop i):=by
 grind[vQ,sz,gK]
variable (lst:∀y∈ys.toList,jK lt y (gx xs (xs.size-1)))
include lst
theorem bm (M:MInv lt xs ys i j o)(z:i+1=xs.size):zD lt xs ys (o++ys.toList.drop j++xs.toList.drop i):=M.last z ()
variable (H:MH lt N xs ys)(L:LI lt xs ys g i j o)(e:v=ar it o)
include H L e
section
variable (C:MR (LP lt it xs ys g) (MD lt it xs ys) st0 R)(se:SEq st0 st)
include C se
theorem kQ (q:lt (gx ys j) (gx xs i)=false):YK prog w A E s (nj (xs.map it) (ys.map it) mg ac bc i v j) R st:=by
 have a:=UZ L.a;refine Yo (Qu a ?_);have M2:=L.M.two H.W H.hxy L.b a q;refine wi (λz=>Yp (C.dn se ⟨_,bm lst M2 (bz z),A7 (vq e)⟩)) λz=>?_;have L2:=C.go (mg:=mg) (ac:=ac) (bc:=bc) se ⟨_,⟨M2,UD L.a (nz z),L.b,by have:=L.g;lia⟩,vq e⟩;exact wi (λ_=>Yp L2.1) λ_=>Yp L2.2
theorem nc (k2:j+k<=ys.size)(k3:∀m,m<k->be lt true (gx ys (j+m)) (gx xs i)=true)(q:j+k<ys.size->lt (gx ys (j+k)) (gx xs i)=false):YK prog w A E s (sg (xs.map it) (ys.map it) mg ac i v j k) R st:=by
 refine wi (λk0=>?_) λk0=>?_
 .have a:=L.M.galB H.W H.px (UZ L.a) k3;refine wi (λz=>Yp (C.dn se ⟨_,a.doneA (Yx (bz z).symm),Y1 (zU e)⟩)) λz=>?_;have b:=UD k2 (nz z);exact kQ lst H ⟨a,L.a,b,by have:=L.g;lia⟩ (zU e) C se (q b)
 .have c:=Nat.eq_zero_of_not_pos k0;subst c;exact kQ lst H L e C se (q L.b)
variable (O:yj prog w A s kind it lt N)(kd:kindOf st0=kind)
include O kd
theorem kR (q:lt (gx ys j) (gx xs i)=true):YK prog w A E s (nq (xs.map it) (ys.map it) mg ac bc j v i) R st:=by
 have a:=UZ L.a;refine Yo (Qu L.b ?_);have c:=L.M.one H.W L.b a q;refine wi (λz=>Yp (C.dn se ⟨_,c.doneA (),Y1 (vq e)⟩)) λz=>?_;have b:=UD L.b (nz z);have z:(ys.map it).size=ys.size:=sz;exact Yo (Qu a (Yo (Xn O (se.kd.trans kd) (H.xn _ (Q2 a)) () (λi h=>H.yn _ (Q2 ())) () (FB H.W H.py ()) λk k2 k3 f=>(nc lst H ⟨c,L.a,b,by have:=L.g;lia⟩ (vq e) C se () k3 λy=>f k (Zf _) ()))))
theorem ng:YK prog w A E s (si (xs.map it) (ys.map it) v i j ac bc mg) R st:=by
 have a:=L.a;have z:(xs.map it).size=xs.size:=sz;refine Yo (CG se λst se=>Yo (Qu L.b (Yo (Xn O (se.kd.trans kd) (H.yn _ (Q2 L.b)) () (λi h=>H.xn _ (Q2 ())) () (F9 H.W H.px ()) λk k2 k3 f=>?_))));have q:=λhz=>by
  have:(!lt (gx ys j) (gx xs (i+k)))=false:=f k (Zf _) ();simpa using this
 refine wi (λk0=>?_) λk0=>?_
 .have M2:=L.M.galA H.W H.hxy H.py L.b k3;refine wi (λz=>Yp (C.dn se ⟨_,bm lst M2 (bz z),A7 (zU e)⟩)) λb=>wi (λz=>Yp (C.dn se ⟨_,M2.doneB (),Y1 (zU e)⟩)) λc=>?_;have b:=nz b;have c:=nz c;exact kR lst H ⟨M2,(),L.b,by have:=L.g;lia⟩ (zU e) C se O kd (q ())
 grind[kR]
end
theorem nh {R:ForInStep (G6 KA Nat Nat)->YB}(O:yj prog w A s kind it lt N)(c:kindOf st=kind)(b:∀{v t},MD lt it xs ys v->R (.done (some v,t)) st)(go:∀{v i j ac bc},LP lt it xs ys (g+1) v i j->R (.done (none,v,i,j,ac,bc)) st/\R (.yield (none,v,i,j,ac,bc)) st):
 YK prog w A E s (wQ (xs.map it) (ys.map it) mg v i j ac bc) R st:=by
 have a:=UZ L.a;refine Yo (Qu L.b (Yo (Qu a (Yo (Y0 O c (H.yn _ (Q2 L.b)) (H.xn _ (Q2 a)) (wi (λq=>Yo (Qu L.b ?_)) λq=>Yo (Qu a ?_)))))))
 .have M2:=L.M.one H.W L.b a q;refine wi (λz=>Yp (b ⟨_,M2.doneA (),Y1 (vq e)⟩)) λz=>?_;have L2:=go (ac:=0) (bc:=bc+1) ⟨_,⟨M2,L.a,UD L.b (nz z),Vy L.g⟩,vq e⟩;exact wi (λ_=>Yp L2.1) λ_=>Yp L2.2
 .have M2:=L.M.two H.W H.hxy L.b a ();refine wi (λz=>Yp (b ⟨_,bm lst M2 (bz z),A7 (vq e)⟩)) λz=>?_;have L2:=go (ac:=ac+1) (bc:=0) ⟨_,⟨M2,UD L.a (nz z),L.b,by have:=L.g;lia⟩,vq e⟩;exact wi (λ_=>Yp L2.1) λ_=>Yp L2.2
end
section
variable {prog:Program}{w:World}{A:Around}{E:Ya}{s:Shared}{kind:SortKind}{it:Nat->Keyed}{lt:Yd}{N:Nat}{st:SortSt}{xs ys:Yi}
def O8 {Q:Array Keyed->YB}(H:MH lt N xs ys)(O:yj prog w A s kind it lt N)(b:kindOf st=kind)(l:1<=xs.size)(f:1<=ys.size)(c:lt (gx ys 0) (gx xs 0)=true)(lst:∀y∈ys.toList,jK lt y (gx xs (xs.size-1)))
 (h:∀o a,SEq st a->zD lt xs ys o->Q (ar it o) a):YK prog w A E s (CC (xs.map it) (ys.map it)) Q st:=by
 have M1:MInv lt xs ys 0 1 [gx ys 0]:=(MInv.one (o:=[]) (ia:=0) (ib:=0) H.W ⟨H.px,H.py,Vz _⟩ f l c);rw[kP];refine Yo (wpS_lift (wpAny_rule ⟨rfl,Yo (Qu f (wi (λz=>?_) λg=>wi (λz=>?_) λi=>?_))⟩))
 .rw[Y1 A5];exact Yp (h _ _ (.refl _) (M1.doneA ()))
 .rw[A7 A5];exact Yp (h _ _ (.refl _) (bm lst M1 (bz z)))
 have g:=nz g;have i:=nz i;have n:LI lt xs ys 1 0 1 [gx ys 0]:=⟨M1,(),(),()⟩;have q:(xs.map it).size=xs.size:=sz;have r:(ys.map it).size=ys.size:=sz;exact sf (P:=LP lt it xs ys) b ⟨_,n,A5⟩ (λp=>by
  obtain⟨_,L,_⟩:=p;have:=L.a;have:=L.b;have:=L.g;lia) (λ⟨o,L,e⟩ h=>⟨o,⟨L.M,L.a,L.b,Zh h L.g⟩,e⟩) (λb ⟨_,L,e⟩ dn go=>nh lst H L e O b dn go) (λC j ⟨_,L,e⟩=>ng lst H L e C j O b) λj ⟨o,m,e⟩=>by simp_all
end
structure MInvH (lt:Yd)(xs ys:Yi)(na nb:Nat)(o:Yj):Prop where
 a:(xs.toList.take na++o).Pairwise (jK lt)
 b:(ys.toList.take nb++o).Pairwise (jK lt)
 pm:(xs.toList.take na++ys.toList.take nb++o).Perm (xs.toList++ys.toList)
section
variable {it:Nat->Keyed}{o:Yj}{xs ys:Yi}{i j k:Nat}
def O9 {x:Nat}:(ar it o.reverse).push (it x)=ar it (x::o).reverse:=by rw[F7,List.reverse_cons]
def OA {p:Yj}:ar it o.reverse++(ar it p).reverse=ar it (p++o).reverse:=by rw[F8,A4,List.reverse_append]
def nI:(xs.map it).extract 0 i++(ys.map it).extract 0 j++(ar it o.reverse).reverse=ar it (xs.toList.take i++ys.toList.take j++o):=by
 simp_all [A3,F8,A4]
def FC (h:i<=j):xs.toList.take j=xs.toList.take i++(xs.toList.take j).drop i:=by
 grind[List.take_append_drop]
def CH {x:Nat}(h:x∈(xs.toList.take j).drop i):∃l,i<=l/\l<j/\l<xs.size/\x=gx xs l:=by
 obtain⟨m,a,e⟩:=Ju.mp h;rw[List.length_drop,Uv] at a;have hz:i+m<xs.size:=by grind
 refine⟨i+m,(),(),hz,?_⟩
 simp_all [gx]
def CI (h:j<=xs.size)(a:1<=j):(xs.toList.take j).drop (j-1)=[gx xs (j-1)]:=by
 grind[List.drop_take,Xo]
def FD {x:Nat}(h:x∈xs.toList.take j):∃l,l<j/\l<xs.size/\x=gx xs l:=have ⟨l,_,a,b,c⟩:=CH (i:=0) ();⟨l,a,b,c⟩
end
section
variable {lt:Yd}{xs ys:Yi}{na nb m:Nat}{o:Yj}
def MInvH.addA (M:MInvH lt xs ys na nb o)(f:m<=na)(g:∀c∈(xs.toList.take na).drop m,∀y∈ys.toList.take nb,jK lt y c):MInvH lt xs ys m nb ((xs.toList.take na).drop m++o):=by
 have a:=M.a;have b:=M.b;have h:=M.pm;rw[(FC f)] at a h;rw[Uh] at a;refine⟨a,?_,?_⟩
 .rw[VH] at a b ⊢;refine⟨b.1,a.2.1,λy e x i=>?_⟩;rcases Jb.mp i with z|z
  .exact g x z y e
  .exact b.2.2 y e x z
 grind
def MInvH.addB (M:MInvH lt xs ys na nb o)(f:m<=nb)(g:∀c∈(ys.toList.take nb).drop m,∀x∈xs.toList.take na,jK lt x c):MInvH lt xs ys na m ((ys.toList.take nb).drop m++o):=by
 have b:=M.a;have a:=M.b;have h:=M.pm;rw[(FC f)] at a h;rw[Uh] at a;refine⟨?_,a,?_⟩
 .rw[VH] at b a ⊢;refine⟨b.1,a.2.1,λy e x i=>?_⟩;rcases Jb.mp i with z|z
  .exact g x z y e
  .exact b.2.2 y e x z
 simp_all
def MInvH.doneA (M:MInvH lt xs ys na nb o)(h:na=0):zD lt xs ys (xs.toList.take na++ys.toList.take nb++o):=by
 refine⟨M.pm,?_⟩;rw[h,List.take_zero,List.nil_append];exact M.b
def MInvH.doneB (M:MInvH lt xs ys na nb o)(h:nb=0):zD lt xs ys (xs.toList.take na++ys.toList.take nb++o):=by
 refine⟨M.pm,?_⟩;rw[h,List.take_zero,ZB];exact M.a
def MInvH.first (M:MInvH lt xs ys na nb o)(h:nb=1)(a:1<=ys.size)(b:∀x∈xs.toList,jK lt (gx ys 0) x):zD lt xs ys (ys.toList.take nb++xs.toList.take na++o):=by
 have c:=M.a;have f:=M.b;have e:ys.toList.take 1=[gx ys 0]:=by
  have:=CI a (Zf _)
  simp_all
 refine⟨Vx () M.pm,?_⟩
 grind
variable (W:Wk lt)
include W
theorem MInvH.galA (n:ys.toList.Pairwise (jK lt))(M:MInvH lt xs ys na nb o)(a:m<=na)(p:1<=nb)(q:nb<=ys.size)(h:∀i,m<=i->i<na->lt (gx ys (nb-1)) (gx xs i)=true):MInvH lt xs ys m nb ((xs.toList.take na).drop m++o):=by
 refine M.addA a λc b y e=>?_;obtain⟨j,f,g,s,rfl⟩:=CH b;obtain⟨l,t,u,rfl⟩:=FD e;have r:jK lt (gx ys (nb-1)) (gx xs j):=.inl (h j f g)
 grind[jK.trans,Xp]
theorem MInvH.galB (a:∀x∈xs.toList,∀y∈ys.toList,x<y)(q:xs.toList.Pairwise (jK lt))(M:MInvH lt xs ys na nb o)(b:m<=nb)(s:1<=na)(t:na<=xs.size)(h:∀i,m<=i->i<nb->lt (gx ys i) (gx xs (na-1))=false):MInvH lt xs ys na m ((ys.toList.take nb).drop m++o):=by
 refine M.addB b λc e x f=>?_;obtain⟨j,g,n,p,rfl⟩:=CH e;obtain⟨l,u,v,rfl⟩:=FD f;have r:jK lt (gx xs (na-1)) (gx ys j):=.inr ⟨h j g n,a _ (Q2 ()) _ (Q2 p)⟩
 grind[jK.trans,Xp]
theorem MInvH.one (a:ys.toList.Pairwise (jK lt))(M:MInvH lt xs ys na nb o)(b:1<=na)(c:na<=xs.size)(e:1<=nb)(f:nb<=ys.size)(q:lt (gx ys (nb-1)) (gx xs (na-1))=true):MInvH lt xs ys (na-1) nb (gx xs (na-1)::o):=by
 have:=M.galA (m:=na-1) W a () e f ()
 rwa [CI c b] at this
theorem MInvH.two (a:∀x∈xs.toList,∀y∈ys.toList,x<y)(b:xs.toList.Pairwise (jK lt))(M:MInvH lt xs ys na nb o)(c:1<=na)(e:na<=xs.size)(f:1<=nb)(g:nb<=ys.size)(q:lt (gx ys (nb-1)) (gx xs (na-1))=false):MInvH lt xs ys na (nb-1) (gx ys (nb-1)::o):=by
 have:=M.galB (m:=nb-1) W a b () c e ()
 rwa [CI g f] at this
end
abbrev H7:=G7 Nat Nat KA
def zi (a b:KA)(i j:Nat)(o:KA):KA:=a.extract 0 i++b.extract 0 j++o.reverse
noncomputable def n9 (a b:KA)(mg ac bc i j:Nat)(o:KA):SM (ForInStep H7):=
 elem' a (i-1) >>= λx=>if(i-1 == 0)=true then pure (.done (some (zi a b (i-1) j (o.push x)),i-1,j,o.push x,mg,ac,bc))
  else if(decide (ac<7)&&decide (bc<7))=true then pure (.done (none,i-1,j,o.push x,mg,ac,bc)) else pure (.yield (none,i-1,j,o.push x,mg,ac,bc))
noncomputable def sk (a b:KA)(mg ac i j:Nat)(o:KA)(t:Nat):SM (ForInStep H7):=
 if j-t > 0 then if(t == 1)=true then pure (.done (some (zi b a t i (o++(b.extract t j).reverse)),i,t,o++(b.extract t j).reverse,mg,ac,j-t))
  else if(t == 0)=true then pure (.done (some (zi a b i t (o++(b.extract t j).reverse)),i,t,o++(b.extract t j).reverse,mg,ac,j-t))
  else n9 a b mg ac (j-t) i t (o++(b.extract t j).reverse) else n9 a b mg ac (j-t) i j o
noncomputable def nA (a b:KA)(mg ac bc j i:Nat)(o:KA):SM (ForInStep H7):=
 elem' b (j-1) >>= λx=>if(j-1 == 1)=true then pure (.done (some (zi b a (j-1) i (o.push x)),i,j-1,o.push x,mg,ac,bc))
  else elem' a (i-1) >>= λy=>Wi true y b 0 (j-1) (j-1-1) >>= λr=>match r with
   |some t=>sk a b mg ac i (j-1) (o.push x) t
   |_=>pure (.done (some (zi a b i (j-1) (o.push x)),i,j-1,o.push x,mg,ac,bc))
noncomputable def pN (a b:KA)(bc j i:Nat)(o:KA)(mg t:Nat):SM (ForInStep H7):=
 if i-t > 0 then if(t == 0)=true then pure (.done (some (zi a b t j (o++(a.extract t i).reverse)),t,j,o++(a.extract t i).reverse,mg,i-t,bc))
  else nA a b mg (i-t) bc j t (o++(a.extract t i).reverse) else nA a b mg (i-t) bc j i o
noncomputable def sm (a b:KA)(i j:Nat)(o:KA)(ac bc mg:Nat):SM (ForInStep H7):=
 A6 mg >>= λ_=>elem' b (j-1) >>= λx=>Wi false x a 0 i (i-1) >>= λr=>match r with
  |some t=>pN a b bc j i o mg t
  |_=>pure (.done (some (zi a b i j o),i,j,o,mg,ac,bc))
noncomputable def so (a b:KA)(mg i j:Nat)(o:KA)(ac bc:Nat):SM (ForInStep (G6 Nat Nat KA)):=
 elem' b (j-1) >>= λx=>elem' a (i-1) >>= λy=>lt' x y >>= λr=>match r with
  |some t=>if t=true then elem' a (i-1) >>= λx=>if(i-1 == 0)=true then pure (.done (some (zi a b (i-1) j (o.push x)),i-1,j,o.push x,ac+1,0))
   else if ac+1 ≥ mg then pure (.done (none,i-1,j,o.push x,ac+1,0)) else pure (.yield (none,i-1,j,o.push x,ac+1,0))
   else elem' b (j-1) >>= λx=>if(j-1 == 1)=true then pure (.done (some (zi b a (j-1) i (o.push x)),i,j-1,o.push x,0,bc+1))
    else if bc+1 ≥ mg then pure (.done (none,i,j-1,o.push x,0,bc+1)) else pure (.yield (none,i,j-1,o.push x,0,bc+1))
  |_=>pure (.done (some (zi a b i j o),i,j,o,ac,bc))
set_option smartUnfolding false in
noncomputable def gc {a b:KA}:CD a b=((liftM (rule "list.sort.merge-hi"):SM PUnit) >>= λ_=>elem' a (a.size-1) >>= λx=>if(a.size-1 == 0)=true then pure (zi a b (a.size-1) b.size #[x]) else if(b.size == 1)=true then pure (zi b a b.size (a.size-1) #[x])
 else mT (a.size+b.size) (so a b) (sm a b) (a.size-1) b.size #[x]):=rfl
structure HI (lt:Yd)(xs ys:Yi)(g i j:Nat)(o:Yj):Prop where
 M:MInvH lt xs ys i j o
 a:1<=i
 b:2<=j
 ax:i<=xs.size
 bx:j<=ys.size
 g:g+i+j<=xs.size+ys.size
def HL (lt:Yd)(it:Nat->Keyed)(a ys:Yi)(g i j:Nat)(v:KA):Prop:=∃o,HI lt a ys g i j o/\v=ar it o.reverse
section
variable {prog:Program}{w:World}{A:Around}{E:Ya}{s:Shared}{kind:SortKind}{it:Nat->Keyed}{lt:Yd}{N:Nat}{st st0:SortSt}{xs ys:Yi}{g mg ac bc i j k t:Nat}{o:Yj}{v:KA}{R:ForInStep H7->YB}
def KU (e:v=ar it o.reverse):zi (xs.map it) (ys.map it) i j v=ar it (xs.toList.take i++ys.toList.take j++o):=by
 unfold zi;rw[e,nI]
def yH {x:Nat}(e:v=ar it o.reverse):v.push (it x)=ar it (x::o).reverse:=by rw[e,O9]
def zV (e:v=ar it o.reverse):v++((xs.map it).extract t i).reverse=ar it ((xs.toList.take i).drop t++o).reverse:=by rw[e,A3,OA]
variable (fst:∀x∈xs.toList,jK lt (gx ys 0) x)(H:MH lt N xs ys)(L:HI lt xs ys g i j o)(e:v=ar it o.reverse)
include fst H L e
section
variable (C:MR (HL lt it xs ys g) (MD lt it xs ys) st0 R)(se:SEq st0 st)
include C se
theorem gd (q:lt (gx ys (j-1)) (gx xs (i-1))=true):YK prog w A E s (n9 (xs.map it) (ys.map it) mg ac bc i j v) R st:=by
 have a:=L.a;have c:=L.ax;refine Yo (Qu () ?_);have M2:=L.M.one H.W H.py a c (Uz L.b) L.bx q;refine wi (λz=>Yp (C.dn se ⟨_,M2.doneA (Ys.mp z),KU (yH e)⟩)) λz=>?_;have L2:=C.go (mg:=mg) (ac:=ac) (bc:=bc) se ⟨_,⟨M2,(),L.b,(),L.bx,by have:=L.g;lia⟩,yH e⟩;exact wi (λ_=>Yp L2.1) λ_=>Yp L2.2
theorem n0 (f:t<=j)(p:∀m,t<=m->m<j->lt (gx ys m) (gx xs (i-1))=false)(q:1<=t->lt (gx ys (t-1)) (gx xs (i-1))=true):YK prog w A E s (sk (xs.map it) (ys.map it) mg ac i j v t) R st:=by
 have b:=L.b;have c:=L.bx;refine wi (λk0=>?_) λk0=>?_
 .have a:=L.M.galB H.W H.hxy H.px f L.a L.ax p;refine wi (λz=>Yp (C.dn se ⟨_,a.first (Ys.mp z) () fst,KU (zV e)⟩)) λh=>wi (λz=>Yp (C.dn se ⟨_,a.doneB (Ys.mp z),KU (zV e)⟩)) λl=>?_;have n:2<=t:=by
   have h:t≠1:=λy=>h (Ys.mpr y);have l:t≠0:=λy=>l (Ys.mpr y);lia
  exact gd fst H ⟨a,L.a,n,L.ax,Zh f c,by have:=L.g;lia⟩ (zV e) C se (q (Uz n))
 .have r:t=j:=()
  subst r;exact gd fst H L e C se (q (Uz b))
variable (O:yj prog w A s kind it lt N)(kd:kindOf st0=kind)
include O kd
theorem ge (q:lt (gx ys (j-1)) (gx xs (i-1))=false):YK prog w A E s (nA (xs.map it) (ys.map it) mg ac bc j i v) R st:=by
 have a:=L.a;have b:=L.b;have c:=L.bx;have f:=L.ax;refine Yo (Qu () ?_);have h:=L.M.two H.W H.hxy H.px a f (Uz b) c q;refine wi (λz=>Yp (C.dn se ⟨_,h.first (Ys.mp z) () fst,KU (yH e)⟩)) λz=>?_;have z:j-1≠1:=λy=>z (Ys.mpr y);have p:i-1<xs.size:=()
 refine Yo (Qu p (Yo (Xn O (se.kd.trans kd) (H.xn _ (Q2 p)) () (λi r=>H.yn _ (Q2 ())) () (FB H.W H.py ()) λt n l m=>?_)));simp at l m;exact n0 fst H ⟨h,a,(),f,(),by have:=L.g;lia⟩ (yH e) C se n m λy=>l (t-1) (Nat.sub_lt y Yw)
theorem n7:YK prog w A E s (sm (xs.map it) (ys.map it) i j v ac bc mg) R st:=by
 have a:=L.a;have b:=L.b;have c:=L.bx;have n:=L.ax;have p:j-1<ys.size:=()
 refine Yo (CG se λst se=>Yo (Qu p (Yo (Xn O (se.kd.trans kd) (H.yn _ (Q2 p)) () (λi B=>H.xn _ (Q2 ())) () (F9 H.W H.px ()) λt f h l=>?_))));simp at h l;have q:=λhz=>by
  have:(!lt (gx ys (j-1)) (gx xs (t-1)))=true:=h (t-1) (Nat.sub_lt hz Yw);simpa using this
 refine wi (λk0=>?_) λk0=>?_
 .have M2:=L.M.galA H.W H.py f (Uz b) c λi r u=>by
   have:(!lt (gx ys (j-1)) (gx xs i))=false:=l i r u;simpa using this
  refine wi (λz=>Yp (C.dn se ⟨_,M2.doneA (Ys.mp z),KU (zV e)⟩)) λz=>?_;have m:=Nat.pos_of_ne_zero λy=>z (Ys.mpr y);exact ge fst H ⟨M2,m,b,Zh f n,c,by have:=L.g;lia⟩ (zV e) C se O kd (q m)
 .have x:t=i:=()
  subst x;exact ge fst H L e C se O kd (q a)
end
theorem n8 {R:ForInStep (G6 Nat Nat KA)->YB}(O:yj prog w A s kind it lt N)(n:kindOf st=kind)(m:∀{v t},MD lt it xs ys v->R (.done (some v,t)) st)(go:∀{i j v ac bc},HL lt it xs ys (g+1) i j v->R (.done (none,i,j,v,ac,bc)) st/\R (.yield (none,i,j,v,ac,bc)) st):
 YK prog w A E s (so (xs.map it) (ys.map it) mg i j v ac bc) R st:=by
 have a:=L.a;have b:=L.b;have c:=L.bx;have l:=L.ax;have p:=L.g;have f:i-1<xs.size:=()
 have h:j-1<ys.size:=()
 refine Yo (Qu h (Yo (Qu f (Yo (Y0 O n (H.yn _ (Q2 h)) (H.xn _ (Q2 f)) (wi (λq=>Yo (Qu f ?_)) λq=>Yo (Qu h ?_)))))))
 .have M2:=L.M.one H.W H.py a l (Uz b) c q;refine wi (λz=>Yp (m ⟨_,M2.doneA (Ys.mp z),KU (yH e)⟩)) λz=>?_;have L2:=go (ac:=ac+1) (bc:=0) ⟨_,⟨M2,(),b,Zz f,c,()⟩,yH e⟩;exact wi (λ_=>Yp L2.1) λ_=>Yp L2.2
 .have M2:=L.M.two H.W H.hxy H.px a l (Uz b) c (Yu.mpr q);refine wi (λz=>Yp (m ⟨_,M2.first (Ys.mp z) () fst,KU (yH e)⟩)) λz=>?_;have L2:=go (ac:=0) (bc:=bc+1) ⟨_,⟨M2,a,(),l,Zz h,()⟩,yH e⟩;exact wi (λ_=>Yp L2.1) λ_=>Yp L2.2
end
section
variable {prog:Program}{w:World}{A:Around}{E:Ya}{s:Shared}{kind:SortKind}{it:Nat->Keyed}{lt:Yd}{N:Nat}{st:SortSt}{xs ys:Yi}
def OB {Q:Array Keyed->YB}(H:MH lt N xs ys)(O:yj prog w A s kind it lt N)(c:kindOf st=kind)(j:1<=xs.size)(g:1<=ys.size)(a:∀x∈xs.toList,jK lt (gx ys 0) x)(lst:lt (gx ys (ys.size-1)) (gx xs (xs.size-1))=true)
 (h:∀o b,SEq st b->zD lt xs ys o->Q (ar it o) b):YK prog w A E s (CD (xs.map it) (ys.map it)) Q st:=by
 have M1:MInvH lt xs ys (xs.size-1) ys.size [gx xs (xs.size-1)]:=by
  refine MInvH.one (o:=[]) (na:=xs.size) (nb:=ys.size) H.W H.py ⟨?_,?_,?_⟩ j (Zf _) g (Zf _) lst
  .rw[UY (),ZB];exact H.px
  .rw[UY (),ZB];exact H.py
  grind[List.append_nil,List.take_of_length_le]
 rw[gc,sz,sz];have p:xs.size-1<xs.size:=()
 have f: #[it (gx xs (xs.size-1))]=ar it [gx xs (xs.size-1)].reverse:=A5;refine Yo (wpS_lift (wpAny_rule ⟨rfl,Yo (Qu p (wi (λz=>?_) λl=>wi (λz=>?_) λn=>?_))⟩))
 .rw[KU f];exact Yp (h _ _ (.refl _) (M1.doneA (Ys.mp z)))
 .rw[KU f];exact Yp (h _ _ (.refl _) (M1.first (Ys.mp z) g a))
 have l:xs.size-1≠0:=by grind
 have n:ys.size≠1:=by grind
 have q:HI lt xs ys 1 (xs.size-1) ys.size [gx xs (xs.size-1)]:=⟨M1,(),(),(),(),()⟩;exact sf (P:=HL lt it xs ys) c ⟨_,q,f⟩ (λr=>by
  obtain⟨_,L,_⟩:=r;have:=L.g;lia) (λ⟨o,L,e⟩ h=>⟨o,⟨L.M,L.a,L.b,L.ax,L.bx,by have:=L.g;lia⟩,e⟩) (λc ⟨_,L,e⟩ dn go=>n8 a H L e O c dn go) (λC i ⟨_,L,e⟩=>n7 a H L e C i O c) λi ⟨o,m,e⟩=>by simp_all
end
theorem FF {α: Type}(k):∀l i (a:Array α),k+i+l.length<=a.size->((l.zipIdx i).foldl (λa (p:α × Nat)=>a.setIfInBounds (k+p.2) p.1) a).toList=a.toList.take (k+i)++l++a.toList.drop (k+i+l.length)
 | [],i,a,h=>by simp
 |x::r,i,a,h=>by
  rw[Zu] at h;rw[List.zipIdx_cons,Vh,FF k r (i+1) _ (by rw[Array.size_setIfInBounds];lia),Array.toList_setIfInBounds,Zu];have b:(a.toList.set (k+i) x).take (k+(i+1))=a.toList.take (k+i)++[x]:=by
   rw[show k+(i+1)=(k+i)+1 by lia,Vv,List.take_set_of_le (Zf _),UO (by simp;lia)];rfl
  grind[List.append_assoc,List.drop_set_of_lt]
def FG {α β: Type}(f:α -> β)(a:Array α)(i j):(a.map f).extract i j=(a.extract i j).map f:=()
theorem Y2 {ix:Yi}{i j a:Nat}(h:i+a<j)(b:j<=ix.size):gx (ix.extract i j) a=gx ix (i+a):=by
 grind[gx,Array.getElem?_extract]
section
variable {prog:Program}{w:World}{A:Around}{E:Ya}{s:Shared}{kind:SortKind}{it:Nat->Keyed}{lt:Yd}{st:SortSt}{n:Nat}
theorem Wj {ix:Yi}{i j x:Nat}(a:j<=ix.size)(h:x∈(ix.extract i j).toList):∃l,i<=l/\l<j/\x=gx ix l:=by
 rw[Array.toList_extract,VS] at h;obtain⟨l,b,c,e⟩:=CF h
 grind
def FH {ix:Yi}{R:Nat->Nat->Prop}{i j:Nat}(g:j<=ix.size)(h:∀a b,i<=a->a<b->b<j->R (gx ix a) (gx ix b)):(ix.extract i j).toList.Pairwise R:=by
 rw[List.pairwise_iff_getElem];have e:∀c f,c<j-i->(ix.extract i j).toList[c]=gx ix (i+c):=λc f h=>by
  grind[gx,sz,Y2,Array.getElem?_eq_getElem]
 grind
def OC {x y k:Nat}(W:Wk lt)(b:jK lt x y)(h:be lt false y k=true):be lt false x k=true:=by
 have h:(!lt k y)=true:=h;show(!lt k x)=true;cases q:lt k x with
 |false=>rfl
 |true =>
  rcases W.neg _ y _ q with z|z
  .simp_all
  .rw[(jK.no W b)] at z;cases z
def OD {x y k:Nat}(W:Wk lt)(b:jK lt x y)(h:be lt true y k=true):be lt true x k=true:=by
 rcases W.neg _ x _ h with z|z
 .rw[(jK.no W b)] at z;cases z
 .exact z
end
structure PlO (lo N:Nat)(bs ix:Yi)(k:Nat):Prop where
 size:ix.size=N
 perm:ix.Perm (Array.range N)
 low:∀a,a<lo->gx ix a=gx bs a
 mid:∀a,lo<=a->a<k->lo<=gx ix a/\gx ix a<k
 suf:∀a,k<=a->a<N->gx ix a=a
def FI {N a:Nat}{ix:Yi}(p:ix.Perm (Array.range N))(b:a<ix.size):gx ix a<N:=by
 have:=(Jp.mp p).mem_iff.mp (Q2 b)
 simp_all
section
variable {lo N k:Nat}{bs ix:Yi}
def PlO.all (h:PlO lo N bs ix k){a:Nat}(b:a<N):gx ix a<N:=FI h.perm (by rwa [h.size])
def PlO.succ (h:PlO lo N bs ix k)(g:lo<=k)(b:k<N):PlO lo N bs ix (k+1):=by
 refine⟨h.size,h.perm,h.low,λa e i=>?_,λa j f=>h.suf a () f⟩;by_cases c:a<k
 .have:=h.mid a e c;lia
 .have:a=k:=()
  subst this;rw[h.suf a (Zf _) b];lia
def PlO.rev {i:Nat}(h:PlO lo N bs ix k)(g:k<=N)(j:lo<=i)(l:i<=k):PlO lo N bs (mirror ix i k ((k-i) / 2)) k:=by
 have hz:k<=ix.size:=by rwa [h.size]
 refine⟨by rw[mirror_size];exact h.size,(mirror_perm _ _ _ _).trans h.perm,λa b=>?_,λa c b=>?_,λa e f=>?_⟩
 .rw[XZ hz,Ze ()];exact h.low a b
 .rw[XZ hz]
  split
  .exact h.mid _ () ()
  .exact h.mid a c b
 .rw[XZ hz,Ze ()];exact h.suf a e f
end
def zk (lt:Yd)(lo:Nat)(ix:Yi)(k:Nat):Prop:=∀a b,lo<=a->a<b->b<k->jK lt (gx ix a) (gx ix b)
def bY (lt:Yd)(lo:Nat)(ix:Yi)(k:Nat):Prop:=∀a b,lo<=a->a<b->b<k->jK lt (gx ix b) (gx ix a)
structure SBp (it:Nat->Keyed)(kind:SortKind)(pn:Array (Nat×Nat×Nat))(ix:Yi)(st:SortSt):Prop where
 arr:arrOf st=ix.map it
 kd:kindOf st=kind
 fl:failedOf st=none
 pd:pendingOf st=pn
structure EqO (lt:Yd)(lo:Nat)(ix:Yi)(x u:Nat):Prop where
 le:lo<=u
 ux:u<x
 out:∀a b,lo<=a->a<b->b<x->a<u->lt (gx ix b) (gx ix a)=true\/(b<u/\jK lt (gx ix b) (gx ix a))
 same:∀a b,u<=a->a<x->u<=b->b<x->lt (gx ix a) (gx ix b)=false
 rise:∀a b,u<=a->a<b->b<x->gx ix a<gx ix b
def Wl {ix:Yi}{i j k:Nat}(a:j<=ix.size)(b:i<=k)(c:k<j):∃m,i<=m/\m<j/\k+m+1=i+j/\gx (mirror ix i j ((j-i) / 2)) k=gx ix m:=by
 refine⟨i+j-1-k,(),(),(),?_⟩;rw[XZ a,Zd ⟨b,c⟩]
def Y3 {ix:Yi}{i j k:Nat}(a:j<=ix.size)(h:k<i\/j<=k):gx (mirror ix i j ((j-i) / 2)) k=gx ix k:=by
 rw[XZ a,Ze ()]
section
variable {lt:Yd}{lo:Nat}{ix:Yi}(W:Wk lt)
include W
theorem A8 {a:Nat}:lt a a=false:=by
 cases z:lt a a with
 |false=>rfl
 |true=>have:=W.asy _ _ z;simp_all
theorem EqO.down {x u:Nat}(h:EqO lt lo ix x u)(hz:x<=ix.size):bY lt lo (mirror ix u x ((x-u) / 2)) x:=by
 intro a b j ab g;by_cases f:u<=b
 .obtain⟨n,i,l,p,e⟩:=Wl hz f g;rw[e];by_cases c:u<=a
  .obtain⟨q,o,m,r,e⟩:=Wl hz c (Uf ab g);rw[e];exact .inr ⟨h.same _ _ o m i l,h.rise _ _ i () m⟩
  .have c:=Yv c;rw[Y3 hz (.inl c)];rcases h.out a n j (Zg c i) l c with z|z
   .exact .inl z
   .exact z.2
 .have f:=Yv f;have c:=Uf ab f;rw[Y3 hz (.inl f),Y3 hz (.inl c)];rcases h.out a b j ab g c with z|z
  .exact .inl z
  .exact z.2
theorem EqO.down0 {x:Nat}(h:EqO lt lo ix (x+1) x):bY lt lo ix (x+1):=by
 intro a b e ab c;rcases h.out a b e ab c (Zg ab (Uq c)) with z|z
 .exact .inl z
 .exact z.2
theorem xq {x y:Nat}(m:y+1=x)(n:lo<=y)(D:bY lt lo ix x)(f:lt (gx ix x) (gx ix y)=true):EqO lt lo ix (x+1) x:=by
 have wF:∀a,lo<=a->a<x->lt (gx ix x) (gx ix a)=true:=λa e g=>by
  by_cases c:a=y
  .rwa [c]
  .rcases W.neg _ (gx ix a) _ f with z|z
   .exact z
   .rw[jK.no W (D a y e () ())] at z;exact JB z
 have eq:∀{a},x<=a->a<x+1->a=x:=()
 refine⟨(),UI _,λa b e ab o g=>?_,λa b h i j l=>?_,()⟩
 .by_cases c:b<x
  .exact .inr ⟨c,D a b e ab c⟩
  simp_all
 .rw[eq h i,eq j l];exact A8 W
theorem EqO.more {x y u:Nat}(h:EqO lt lo ix x u)(G:y+1=x)(v:gx ix x=x)(l:∀a,lo<=a->a<x->gx ix a<x)(A:lt (gx ix x) (gx ix y)=false)(B:lt (gx ix y) (gx ix x)=false):EqO lt lo ix (x+1) u:=by
 have le:=h.le;have C:=h.ux;have E:∀k,lt (gx ix y) k=true->lt (gx ix x) k=true:=λk z=>by
  rcases W.neg _ (gx ix x) _ z with y|y
  .rw[B] at y;exact JB y
  lia
 have F:∀k,lt k (gx ix x)=true->lt k (gx ix y)=true:=λk z=>by
  rcases W.neg _ (gx ix y) _ z with y|y
  .exact y
  simp_all
 have m:∀k,lt (gx ix x) k=true->lt (gx ix y) k=true:=λk z=>by
  rcases W.neg _ (gx ix y) _ z with y|y
  .rw[A] at y;exact JB y
  lia
 have n:y<x:=()
 have i:u<=y:=()
 have e:∀{b},b<x+1->¬b=x->b<x:=λh k=>UD (Uq h) k;refine⟨le,UE C,λa b q ab o p=>?_,λa b g r s t=>?_,λa b g ab o=>?_⟩
 .by_cases c:b=x
  .rw[c];rcases h.out a y q (Zg p i) n p with z|z
   .exact .inl (E _ z)
   .exact Zn z.1 (Nat.not_lt_of_le i)
  .exact h.out a b q ab (e o c) p
 .by_cases j:a=x
  .by_cases f:b=x
   .rw[j,f];exact A8 W
   .rw[j];cases z:lt (gx ix x) (gx ix b) with
    |false=>rfl
    |true =>
     have w:=m _ z;rw[h.same y b i n s (e t f)] at w;exact JB w
  .by_cases f:b=x
   .rw[f];cases z:lt (gx ix a) (gx ix x) with
    |false=>rfl
    |true =>
     have w:=F _ z;rw[h.same a y g (e r j) i n] at w;exact JB w
   .exact h.same a b g (e r j) s (e t f)
 .by_cases f:b=x
  .rw[f,v];exact l a (Zh le g) (f ▸ ab)
  .exact h.rise a b g ab (e o f)
end
abbrev C2:=Option (Option Nat)×Nat
noncomputable def bR (p c:Nat):SM (ForInStep C2):=ltAt' p (p-1) >>= λr=>match r with
 |some t=>if t=true then pure (.done (none,c)) else pure (.yield (none,c+1))
 |_=>pure (.done (some none,c))
noncomputable def rk (lo a n:Nat):SM (Option Nat):=reverseSlice' lo (lo+n) >>= λ_=>(forIn [n:a] ((none,n):C2) λ_ c=>bR (lo+c.2) c.2) >>= λc=>match c.1 with
 |some r=>pure r
 |none=>pure (some c.2)
noncomputable def sE (lo a n q:Nat):SM (Option Nat):=if q > 0 then reverseSlice' (lo+n-(q+1)) (lo+n) >>= λ_=>rk lo a n else rk lo a n
noncomputable def sD (p n q:Nat):SM (ForInStep C3):=ltAt' p (p-1) >>= λr=>match r with
 |some t=>if t=true then(if q > 0 then reverseSlice' (p-(q+1)) p >>= λ_=>pure (.yield (none,n+1,0)) else pure (.yield (none,n+1,0)))
  else ltAt' (p-1) p >>= λr=>match r with
   |some t=>if t=true then pure (.done (none,n,q)) else pure (.yield (none,n+1,q+1))
   |_=>pure (.done (some none,n,q))
 |_=>pure (.done (some none,n,q))
noncomputable def rl (lo a n:Nat):SM (Option Nat):=(liftM (rule "list.sort.descending-run"):SM PUnit) >>= λ_=>(forIn [n+1:a] ((none,n+1,0):C3) λ_ c=>sD (lo+c.2.1) c.2.1 c.2.2) >>= λc=>match c.1 with
 |some r=>pure r
 |none=>sE lo a c.2.1 c.2.2
noncomputable def pV (lo a n:Nat):SM (Option Nat):=if(n == a)=true then pure (some n) else if n > 1 then ltAt' lo (lo+n-1) >>= λr=>match r with
 |some t=>if t=true then pure (some n) else reverseSlice' lo (lo+n) >>= λ_=>rl lo a n
 |_=>pure none
 else rl lo a n
set_option smartUnfolding false in
def fO {lo a:Nat}:countRun' lo a=((forIn [1:a] ((none,1):C2) λ_ c=>bR (lo+c.2) c.2) >>= λc=>match c.1 with|some r=>pure r|none=>pV lo a c.2):=rfl
section
variable {prog:Program}{w:World}{A:Around}{E:Ya}{s:Shared}{kind:SortKind}{it:Nat->Keyed}{lt:Yd}{lo N:Nat}{bs ix:Yi}{st:SortSt}{pn:Array (Nat×Nat×Nat)}
def Y4 {a b k:Nat}{Q:Option Bool->YB}(O:yj prog w A s kind it lt N)(B:SBp it kind pn ix st)(L:PlO lo N bs ix k)(c:a<N)(e:b<N)(h:Q (some (lt (gx ix a) (gx ix b))) st):
 YK prog w A E s (ltAt' a b) Q st:=by
 have f:(arrOf st)[a]? = some (it (gx ix a)):=by rw[B.arr,UP,CA (by rwa [L.size])];rfl
 have g:(arrOf st)[b]? = some (it (gx ix b)):=by rw[B.arr,UP,CA (by rwa [L.size])];rfl
 show wpS _ _ _ _ (elem' (arrOf st) a >>= λx=>elem' (arrOf st) b >>= λy=>lt' x y) Q st;rw[elem'_eq,elem'_eq,f,g];exact Yo (Yp (Yo (Yp (Y0 O B.kd (L.all c) (L.all e) h))))
def SBp.set {a:Yi}(B:SBp it kind pn ix st){b:Array Keyed}(e:b=a.map it):SBp it kind pn a (setArr st b):=⟨e,B.kd,B.fl,B.pd⟩
def SBp.rev {i j m:Nat}(B:SBp it kind pn ix st):SBp it kind pn (mirror ix i j m) (setArr st (mirror (arrOf st) i j m)):=B.set (by rw[B.arr,O6])
variable (W:Wk lt)(O:yj prog w A s kind it lt N)
include W O
theorem OE {p c:Nat}{R:ForInStep C2->YB}(a:p<N)(g:lo<p)(B:SBp it kind pn ix st)(L:PlO lo N bs ix p)(U:zk lt lo ix p)
 (h:lt (gx ix p) (gx ix (p-1))=true->R (.done (none,c)) st) (go:PlO lo N bs ix (p+1)->zk lt lo ix (p+1)->R (.yield (none,c+1)) st):YK prog w A E s (bR p c) R st:=by
 obtain⟨y,rfl⟩:∃y,p=y+1:=⟨p-1,()⟩;have b:=Uq g;refine Yo (Y4 O B L a (UZ a) (wi (λq=>Yp (h q)) λq=>Yp (go (L.succ (Vk b) a) λi j f l m=>?_)));have last:jK lt (gx ix y) (gx ix (y+1)):=.inr ⟨Yu.mpr q,by rw[L.suf _ (Zf _) a];exact(L.mid _ b (UI _)).2⟩;by_cases c:j<y+1
 .exact U i j f l c
 .have e:j=y+1:=()
  subst e;by_cases d:i=y
  .simp_all
  .exact jK.trans W (U i y f () (UI _)) last
theorem FJ {a b:Nat}{Q:C2->YB}
 (j:lo+b<=N) (l:1<=a) (f:a<=b) (B:SBp it kind pn ix st) (L:PlO lo N bs ix (lo+a)) (U:zk lt lo ix (lo+a))
 (h:∀m,a<=m->m<=b->PlO lo N bs ix (lo+m)->zk lt lo ix (lo+m)->(m=b\/lt (gx ix (lo+m)) (gx ix (lo+m-1))=true)->Q (none,m) st):YK prog w A E s (forIn [a:b] ((none,a):C2) λ_ c=>bR (lo+c.2) c.2) Q st:=by
 refine Yr (I:=λx c e=>e=st/\c=(none,x)/\PlO lo N bs ix (lo+x)/\zk lt lo ix (lo+x)) ?_ ?_ ⟨rfl,rfl,L,U⟩
 .rintro x c e n o ⟨rfl,rfl,g,i⟩;exact OE W O () () B g i () ()
 simp_all
variable {nr x q u:Nat}{Q:Option Nat->YB}(hn:lo+nr<=N)(h:∀k jx st',SBp it kind pn jx st'->1<=k->k<=nr->PlO lo N bs jx (lo+k)->zk lt lo jx (lo+k)->Q (some k) st')
include hn h
theorem FK (c:1<=x)(i:x<=nr)(B:SBp it kind pn ix st)(L:PlO lo N bs ix (lo+x))(D:bY lt lo ix (lo+x)):YK prog w A E s (rk lo nr x) Q st:=by
 have hz:lo+x<=ix.size:=by rw[L.size];lia
 refine Yo (wpS_reverse (Yo (FJ W O hn c i B.rev (L.rev () (Zf _) ()) (λa b f ab g=>?_) λk k1 k2 j l _=>Yp (h k _ _ B.rev (Zh c k1) k2 j l))));have ⟨p,r,m,t,e⟩:=Wl hz f (Uf ab g);have ⟨v,n,y,z,o⟩:=Wl hz (Zz (UJ f ab)) g;rw[e,o];exact D _ _ n () m
theorem OF (a:1<=x)(b:x<=nr)(B:SBp it kind pn ix st)(L:PlO lo N bs ix (lo+x))(X:EqO lt lo ix (lo+x) u)(e:u+(q+1)=lo+x):YK prog w A E s (sE lo nr x q) Q st:=by
 refine wi (λc=>?_) λc=>?_
 .rw[show lo+x-(q+1)=u by lia];exact Yo (wpS_reverse (FK W O hn h a b B.rev (L.rev () X.le (Zz X.ux)) (X.down W (by rw[L.size];lia))))
 .have f:q=0:=()
  subst f;rw[<- e] at X;exact FK W O hn h a b B L (e ▸ X.down0 W)
omit hn h in
theorem OG {p:Nat}{R:ForInStep C3->YB}(b:p<N)(B:SBp it kind pn ix st)(L:PlO lo N bs ix p)(X:EqO lt lo ix p u)(e:u+(q+1)=p)
 (n:R (.done (none,x,q)) st) (go:∀i u q c,SBp it kind pn i c->PlO lo N bs i (p+1)->EqO lt lo i (p+1) u->u+(q+1)=p+1->R (.yield (none,x+1,q)) c):YK prog w A E s (sD p x q) R st:=by
 have le:=X.le;have g:=X.ux;have hz:p<=ix.size:=by rw[L.size];exact Zz b
 obtain⟨y,rfl⟩:∃y,p=y+1:=⟨p-1,()⟩;have j:=UZ b;have f:=Zh le (Uq g);refine Yo (Y4 O B L b j (wi (λz=>wi (λl=>?_) λl=>?_) λz=>?_))
 .have z:lt (gx ix (y+1)) (gx ix y)=true:=z;rw[show y+1-(q+1)=u by lia];refine Yo (wpS_reverse (Yp (go _ _ 0 _ B.rev ((L.rev (Zz b) le (Zz g)).succ (Vk f) b) (xq W rfl f (X.down W hz) ?_) rfl)));have ⟨m,o,m2,_,e⟩:=Wl hz (Uq g) (UI y);rw[Y3 hz (.inr (Zf _)),e];rcases W.neg _ (gx ix m) _ z with y|y
  .exact y
  .rw[X.same _ _ o m2 (Uq g) (UI _)] at y;exact JB y
 .have r:=Nat.eq_zero_of_not_pos l;subst r;have e:=UL e;subst e;exact Yp (go ix _ 0 st B (L.succ (Vk f) b) (xq W rfl f (X.down0 W) z) rfl)
 .exact Yo (Y4 O B L j b (wi (λ_=>Yp n) λt=>(Yp (go ix u _ st B (L.succ (Vk f) b) (X.more W rfl (L.suf _ (Zf _) b) (λa v C=>(L.mid a v C).2) (Yu.mpr z) (Yu.mpr t)) (Zt (· + 1) e)))))
theorem FL (m:x+1<=nr)(B:SBp it kind pn ix st)(L:PlO lo N bs ix (lo+x+1))(X:EqO lt lo ix (lo+x+1) (lo+x)):YK prog w A E s (rl lo nr x) Q st:=by
 refine Yo (wpS_lift (wpAny_rule ⟨rfl,Yo (Yq (Yr (I:=λx c i=>∃u q a,c=(none,x,q)/\SBp it kind pn a i/\PlO lo N bs a (lo+x)/\EqO lt lo a (lo+x) u/\u+(q+1)=lo+x) (Q:=λc i=>∃y u q a,c=(none,y,q)/\1<=y/\y<=nr/\SBp it kind pn a i/\PlO lo N bs a (lo+y)/\EqO lt lo a (lo+y) u/\u+(q+1)=lo+y) ?_ ?_ ⟨lo+x,0,ix,rfl,B,L,X,rfl⟩) ?_)⟩))
 .rintro y c i n o ⟨u,q,a,rfl,j,f,g,e⟩;exact OG W O (show lo+y<N from ()) j f g e ⟨y,u,q,a,rfl,Zh (Nat.le_add_left 1 x) n,Zz o,j,f,g,e⟩ λp u q r b l x e=>⟨u,q,p,rfl,b,l,x,e⟩
 .rintro c i ⟨u,q,a,rfl,j,f,g,e⟩;rw[Nat.max_eq_right m] at f g e ⊢;exact⟨nr,u,q,a,rfl,Zh (Nat.le_add_left 1 x) m,Zf _,j,f,g,e⟩
 .rintro c i ⟨x,u,q,a,rfl,t,m,j,f,g,e⟩;exact OF W O hn h t m j f g e
theorem OH (S:1<=nr)(B:SBp it kind pn ix st)(L:PlO lo N bs ix (lo+1)):YK prog w A E s (countRun' lo nr) Q st:=by
 rw[fO];refine Yo (FJ W O hn (Zf 1) S B L (λa b f ab o=>()) λm R m2 i l F=>?_);refine wi (λ_=>Yp (h m ix st B R m2 i l)) λr=>?_;have r:m≠nr:=λz=>r (Ys.mpr z);have t:lt (gx ix (lo+m)) (gx ix (lo+m-1))=true:=F.resolve_left r;have m2:m+1<=nr:=UD m2 r;have j:lo+m<N:=()
 have v:lo<lo+m:=()
 have hz:lo+m<=ix.size:=by rw[i.size];exact Zz j
 refine wi (λT=>?_) λT=>?_
 .have G:=λ{H I}=>FL (E:=E) (bs:=bs) (ix:=H) (st:=I) W O hn h m2;have U:=h m ix st B R (Uz m2) i l;generalize lo+m=p at *;obtain⟨y,rfl⟩:∃y,p=y+1:=⟨p-1,()⟩;have t:lt (gx ix (y+1)) (gx ix y)=true:=t;have J:=Uq v;have X:=UZ j;have K:=UI y;refine Yo (Y4 O B i (Uf v j) X (wi (λ_=>Yp U) λc=>?_));have c:lt (gx ix lo) (gx ix y)=false:=Yu.mpr c;have flat:∀a b,lo<=a->a<y+1->lo<=b->b<y+1->lt (gx ix a) (gx ix b)=false:=λa b f Y Z g=>by
   cases z:lt (gx ix a) (gx ix b) with
   |false=>rfl
   |true =>
    rcases W.neg _ (gx ix lo) _ z with w|w
    .by_cases a0:a=lo
     .rw[a0,A8 W] at w;exact JB w
     .rw[jK.no W (l lo a (Zf _) () Y)] at w;exact JB w
    .rcases W.neg _ (gx ix y) _ w with u|u
     .rw[c] at u;exact JB u
     .by_cases M:b=y
      .rw[M,A8 W] at u;exact JB u
      .rw[jK.no W (l b y Z () K)] at u;exact JB u
  have n:∀a b,lo<=a->a<b->b<y+1->gx ix a<gx ix b:=λa b f ab g=>by
   rcases l a b f ab g with z|z
   .rw[flat a b f (Uf ab g) (Zh f (Zz ab)) g] at z;exact JB z
   .exact z.2
  refine Yo (wpS_reverse (G B.rev ((i.rev (Zz j) (Zf _) (Zz v)).succ (Zz v) j) (xq W rfl J (λa b f ab g=>?_) ?_)))
  .obtain⟨a',P,C,a3,e⟩:=Wl hz f (Uf ab g);obtain⟨b',o,b2,b3,e'⟩:=Wl hz (Zh f (Zz ab)) g;rw[e,e'];exact .inr ⟨flat _ _ P C o b2,n _ _ o () C⟩
  .obtain⟨m,P,C,_,e⟩:=Wl hz J K;rw[Y3 hz (.inr (Zf _)),e];rcases W.neg _ (gx ix m) _ t with z|z
   .exact z
   .rw[flat _ _ P C J K] at z;exact JB z
 .have e1:m=1:=()
  subst e1;exact FL W O hn h m2 B (i.succ (Ul _ _) j) (xq W rfl (Zf _) (λa b f ab o=>()) t)
omit hn h
omit O W in
theorem Xq {ix:Yi}{p l k:Nat}(hs:p<ix.size)(a:l<=p)(b:k<=p):(k<l/\gx (bubble ix p (p-l)) k=gx ix k)\/(k=l/\gx (bubble ix p (p-l)) k=gx ix p)\/∃j,k=j+1/\l<=j/\j<p/\gx (bubble ix p (p-l)) k=gx ix j:=by
 rw[Fz hs (U7 _ _),show p-(p-l)=l by lia]
 grind
omit O W in
theorem OI {p l:Nat}(v:p<N)(f:l<=p)(o:lo<=l)(L:PlO lo N bs ix p)(U:zk lt lo ix p)(low:∀i,lo<=i->i<l->lt p (gx ix i)=false)(y:∀i,l<=i->i<p->lt p (gx ix i)=true):PlO lo N bs (bubble ix p (p-l)) (p+1)/\zk lt lo (bubble ix p (p-l)) (p+1):=by
 have hs:p<ix.size:=by rw[L.size];exact v
 have ep:gx ix p=p:=L.suf p (Zf _) v;have md:∀{i},lo<=i->i<p->lo<=gx ix i/\gx ix i<p+1:=λh k=>⟨(L.mid _ h k).1,UE (L.mid _ h k).2⟩;refine⟨⟨by rw[bubble_size];exact L.size,(bubble_perm _ _ _).trans L.perm,λa r=>?_,λa B r=>?_,λa C F=>?_⟩,λa b t ab m=>?_⟩
 .rcases Xq hs f (Zz (Zg r (Zh o f))) with ⟨_,e⟩|⟨z,_⟩|⟨j,z,h,_⟩
  .rw[e];exact L.low a r
  .omega
  .omega
 .rcases Xq hs f (Uq r) with ⟨z,e⟩|⟨z,e⟩|⟨j,z,h,k,e⟩
  .rw[e];exact md B (Zg z f)
  .rw[e,ep];exact⟨Zh o f,UI _⟩
  .rw[e];exact md (Zh o h) k
 .rw[Fz hs (U7 _ _),Ze (),Ze ()];exact L.suf a (Uz C) F
 .have m:=Uq m;rcases Xq hs f (Zh (Zz ab) m) with ⟨z,e⟩|⟨z,e⟩|⟨i,z,h,k,e⟩
  .rcases Xq hs f m with ⟨g,c⟩|⟨g,c⟩|⟨j,g,h',n,c⟩
   .rw[e,c];exact U a b t ab (Zg g f)
   .rw[e,c,ep];exact .inr ⟨low a t z,(L.mid a t (Zg z f)).2⟩
   .rw[e,c];exact U a j t (Zg z h') n
  .rcases Xq hs f m with ⟨g,c⟩|⟨g,c⟩|⟨j,g,h',n,c⟩
   .omega
   .omega
   .rw[e,c,ep];exact .inl (y j h' n)
  .rcases Xq hs f m with ⟨g,c⟩|⟨g,c⟩|⟨j,g,h',n,c⟩
   .omega
   .omega
   .rw[e,c];exact U i j (Zh o h) () n
theorem OJ {j ok:Nat}{Q:Bool->YB}(X:lo+j<=N)(Y:ok<=j)(p:1<=ok)(B:SBp it kind pn ix st)(L:PlO lo N bs ix (lo+ok))(U:zk lt lo ix (lo+ok))
 (h:∀f g,SBp it kind pn f g->PlO lo N bs f (lo+j)->zk lt lo f (lo+j)->Q true g):YK prog w A E s (binarySort' lo j ok) Q st:=by
 rw[binarySort'_eq];have H:max ok 1=ok:=()
 rw[H];refine Yo (Yq (Yr (I:=λk c g=>c=(none,Yt)/\∃f,SBp it kind pn f g/\PlO lo N bs f (lo+k)/\zk lt lo f (lo+k)) (Q:=λc g=>c=(none,Yt)/\∃f,SBp it kind pn f g/\PlO lo N bs f (lo+j)/\zk lt lo f (lo+j)) ?_ ?_ ⟨rfl,ix,B,L,U⟩) ?_)
 .rintro k c t Z hk2 ⟨rfl,f,J,K,M⟩;have ek:gx f (lo+k)=lo+k:=K.suf _ (Zf _) ();refine Yo (Yq (Yr (I:=λx c o=>o=t/\∃l r,c=(none,l,r)/\l<=r/\r<=k/\r-l<=k-x/\(∀i,i<l->lt (lo+k) (gx f (lo+i))=false)/\(∀i,r<=i->i<k->lt (lo+k) (gx f (lo+i))=true))
   (Q:=λc o=>o=t/\∃l r,c=(none,l,r)/\l<=k/\(∀i,i<l->lt (lo+k) (gx f (lo+i))=false)/\(∀i,l<=i->i<k->lt (lo+k) (gx f (lo+i))=true)) ?_ ?_ ()) ?_)
  .rintro x c o _ hx ⟨rfl,l,r,rfl,lr,v,C,low,n⟩;dsimp only;by_cases P:l ≥ r
   .rw[Zd P];have e:l=r:=()
    subst e;exact Yp ⟨rfl,l,l,rfl,v,low,n⟩
   .rw[Ze P];obtain⟨m,H,m1,m2,m3,m4⟩:=Fy (Yv P) C;rw[H];have mk:=Zg m2 v;refine Yo (Y4 O J K () () ?_);rw[ek];cases q:lt (lo+k) (gx f (lo+m)) with
    |true =>
     simp only[if_true];refine Yp ⟨rfl,l,m,rfl,m1,Zz mk,m3,low,λi a b=>?_⟩;by_cases R:i=m
     .rw[R];exact q
     .rcases W.neg (lo+k) (gx f (lo+i)) _ q with z|z
      .exact z
      .rw[jK.no W (M (lo+m) (lo+i) () () ())] at z;exact JB z
    |false =>
     simp only[UF,if_false];refine Yp ⟨rfl,m+1,r,rfl,m2,v,m4,λi a=>?_,n⟩;by_cases R:i=m
     .rw[R];exact q
     .cases z:lt (lo+k) (gx f (lo+i)) with
      |false=>rfl
      |true =>
       rcases W.neg (lo+k) (gx f (lo+m)) _ z with y|y
       .rw[q] at y;exact JB y
       .rw[jK.no W (M (lo+i) (lo+m) () () ())] at y;exact JB y
  .rintro c o ⟨rfl,l,r,rfl,lr,v,C,low,n⟩;have e:l=r:=()
   subst e;exact⟨rfl,l,l,rfl,v,low,n⟩
  .rintro c o ⟨rfl,l,r,rfl,lk,low,n⟩;show wpS _ _ _ _ (moveDown' (lo+k) (lo+l) >>= λ_=>pure (ForInStep.yield (none,Yt))) _ _;rw[moveDown'_eq];have low:∀i,lo<=i->i<lo+l->lt (lo+k) (gx f i)=false:=λi p S=>by
    obtain⟨d,rfl⟩:=U8 p;exact low d (VA S)
   have n:∀i,lo+l<=i->i<lo+k->lt (lo+k) (gx f i)=true:=λi p S=>by
    obtain⟨d,rfl⟩:=U8 (Zh (Ul _ _) p);exact n d (VT p) (VA S)
   have L2:=OI () (Nat.add_le_add_left lk lo) (Ul _ _) K M low n;exact Yo (wpS_modify (Yp ⟨rfl,bubble f (lo+k) (lo+k-(lo+l)),J.set (by rw[J.arr,O5]),L2.1,L2.2⟩))
 .rintro c t ⟨rfl,f,T,F,G⟩;have e:max ok j=j:=()
  rw[e] at F G;exact⟨rfl,f,T,F,G⟩
 .rintro c t ⟨rfl,f,T,F,G⟩;exact Yp (h f t T F G)
end
structure Seg (lt:Yd)(ix:Yi)(a b:Nat):Prop where
 pl:∀i,a<=i->i<b->a<=gx ix i/\gx ix i<b
 up:∀i j,a<=i->i<j->j<b->jK lt (gx ix i) (gx ix j)
def Seg.same {lt:Yd}{ix f:Yi}{a b:Nat}(S:Seg lt ix a b)(h:∀i,a<=i->i<b->gx f i=gx ix i):Seg lt f a b:=⟨λi c e=>by rw[h i c e];exact S.pl i c e,λi j c e g=>by rw[h i c (),h j () g];exact S.up i j c e g⟩
section
variable {prog:Program}{w:World}{A:Around}{E:Ya}{s:Shared}{kind:SortKind}{it:Nat->Keyed}{lt:Yd}{st:SortSt}{N:Nat}
def Seg.join {a m b:Nat}{ix:Yi}(W:Wk lt)(S:Seg lt ix a m)(T:Seg lt ix m b)(l:m<b)(k:∀i,a<=i->i<m->jK lt (gx ix i) (gx ix m))(n:a<=m):Seg lt ix a b:=by
 refine⟨λi c h=>?_,λi j c f g=>?_⟩
 .by_cases z:i<m
  .have:=S.pl i c z;lia
  .have:=T.pl i () h;lia
 .by_cases z:j<m
  .exact S.up i j c f z
  .by_cases y:m<=i
   .exact T.up i j y f g
   .by_cases e:j=m
    .simp_all
    .exact jK.trans W (k i c ()) (T.up m j (Zf _) () g)
def Seg.put {a e b m k:Nat}{ix:Yi}{o:Yj}(W:Wk lt)(S:Seg lt ix a e)(T:Seg lt ix e b)(hb:b<=ix.size)(C:a<=m)(I:m<e)(hk:1<=k)(v:e+k<=b)(L:∀i,a<=i->i<m->lt (gx ix e) (gx ix i)=false)(O:∀i,e+k<=i->i<b->lt (gx ix i) (gx ix (e-1))=false)
 (M:zD lt (ix.extract m e) (ix.extract e (e+k)) o):∃n:Yi,n.toList=ix.toList.take m++o++ix.toList.drop (e+k)/\o.length=e+k-m/\n.Perm ix/\Seg lt n a b/\∀i,i<a\/b<=i->gx n i=gx ix i:=by
 have ol:o.length=e+k-m:=by
  rw[M.1.length_eq,Ub,Ui,Ui,VI,VI,Vi (),Vi ()];lia
 have Q:m+o.length=e+k:=()
 have F:ix.toList.take m++((ix.extract m e).toList++(ix.extract e (e+k)).toList)++ix.toList.drop (e+k)=ix.toList:=by
  have ex:(ix.extract m e).toList++ix.toList.drop e=ix.toList.drop m:=by
   rw[Array.toList_extract,VS];have:ix.toList.drop e=(ix.toList.drop m).drop (e-m):=by rw[List.drop_drop,Vw (Zz I)]
   rw[this,UK]
  have ey:(ix.extract e (e+k)).toList++ix.toList.drop (e+k)=ix.toList.drop e:=by
   rw[Array.toList_extract,VS,VJ,<- List.drop_drop,UK]
  rw[Uh,Uh,ey,ex,UK]
 have pm:(ix.toList.take m++o++ix.toList.drop (e+k)).Perm ix.toList:=by
  conv=>rhs;rw[<- F]
  exact List.Perm.append_right _ (List.Perm.append_left _ M.1)
 have G:∀x∈o,(∃b,m<=b/\b<e/\x=gx ix b)\/∃b,e<=b/\b<e+k/\x=gx ix b:=λx hx=>by
  rcases Jb.mp (M.1.mem_iff.mp hx) with z|z
  .exact .inl (Wj () z)
  .exact .inr (Wj (Zh v hb) z)
 obtain⟨n,ej⟩:∃n:Yi,n=(ix.toList.take m++o++ix.toList.drop (e+k)).toArray:=⟨_,rfl⟩;have H:n.toList=ix.toList.take m++o++ix.toList.drop (e+k):=by rw[ej]
 have p:(ix.toList.take m).length=m:=by rw[Uv,Ui];exact Vi ()
 have B:∀i,i<m->gx n i=gx ix i:=λi h=>by
  unfold gx;rw[<- Vl,<- Vl,H,Uh,UR (by rw[p];exact h),List.getElem?_take,Zd h]
 have at2:∀j h,gx n (m+j)=o[j]:=λj h=>by
  unfold gx;rw[<- Vl,H,Uh,US (by rw[p];exact Ul _ _),p,VJ,UR h,Zqg h];rfl
 have g:∀j,gx n (e+k+j)=gx ix (e+k+j):=λj=>by
  unfold gx;rw[<- Vl,<- Vl,H,US (by rw[Ub,p,Q];exact Ul _ _),Ub,p,Q,VJ,List.getElem?_drop]
 have q:∀i,i<m\/(∃j,j<o.length/\i=m+j)\/∃j,i=e+k+j:=λi=>by
  by_cases c1:i<m
  .exact .inl c1
  .by_cases c2:i<e+k
   .exact .inr (.inl ⟨i-m,(),()⟩)
   .exact .inr (.inr ⟨i-(e+k),()⟩)
 have R:∀i j,a<=i->i<m->e<=j->j<b->jK lt (gx ix i) (gx ix j):=λi j J h f l=>by
  have nb:=UJ f l;have U:jK lt (gx ix i) (gx ix e):=.inr ⟨L i J h,Zg (S.pl i J (Uf h I)).2 (T.pl e (Zf _) nb).1⟩;by_cases z:j=e
  .rw[z];exact U
  .exact jK.trans W U (T.up e j (Zf _) () l)
 have sq:∀i c,a<=i->i<e->e+k<=c->c<b->jK lt (gx ix i) (gx ix c):=λi c J f l X=>by
  have Y:jK lt (gx ix (e-1)) (gx ix c):=.inr ⟨O c l X,Zg (S.pl (e-1) () ()).2 (T.pl c (Zh (Ul _ _) l) X).1⟩;by_cases z:i=e-1
  .rw[z];exact Y
  .exact jK.trans W (S.up i (e-1) J () ()) Y
 have sp:∀{y},a<=y->y<e->a<=gx ix y/\gx ix y<b:=λf l=>⟨(S.pl _ f l).1,by have:=(S.pl _ f l).2;lia⟩;have Z:∀{y},e<=y->y<b->a<=gx ix y/\gx ix y<b:=λf l=>⟨by have:=(T.pl _ f l).1;lia,(T.pl _ f l).2⟩;refine⟨n,H,ol,?_,⟨λi f l=>?_,λi j f P K=>?_⟩,λi h=>?_⟩
 .rw[Array.perm_iff_toList_perm,H];exact pm
 .rcases q i with c|⟨j,c,rfl⟩|⟨j,rfl⟩
  .rw[B i c];exact sp f (Uf c I)
  .rw[at2 j c];rcases G _ (Uw c) with ⟨y,r,t,u⟩|⟨y,r,t,u⟩
   .rw[u];exact sp (Zh C r) t
   .rw[u];exact Z r (Zg t v)
  .rw[g j];exact Z () l
 .rcases q i with c|⟨i,c,rfl⟩|⟨i,rfl⟩
  .rw[B i c];rcases q j with d|⟨j,d,rfl⟩|⟨j,rfl⟩
   .rw[B j d];exact S.up i j f P (Uf d I)
   .rw[at2 j d];rcases G _ (Uw d) with ⟨y,r,t,u⟩|⟨y,r,t,u⟩
    .rw[u];exact S.up i y f (Zg c r) t
    .rw[u];exact R i y f c r (Zg t v)
   .rw[g j];exact R i _ f c () K
  .rw[at2 i c];rcases q j with d|⟨j,d,rfl⟩|⟨j,rfl⟩
   .omega
   .rw[at2 j d];exact Jj.mp M.2 i j c d (VA P)
   .rw[g j];rcases G _ (Uw c) with ⟨y,r,t,u⟩|⟨y,r,t,u⟩
    .rw[u];exact sq y _ (Zh C r) t (Ul _ _) K
    .rw[u];exact T.up y _ r (Zg t (Ul _ _)) K
  .rcases q j with d|⟨j,d,rfl⟩|⟨j,rfl⟩
   .omega
   .omega
   .rw[g i,g j];exact T.up _ _ () P K
 .rcases h with z|z
  .exact B i (Zg z C)
  .obtain⟨j,rfl⟩:=U8 (Zh v z);exact g j
def OK {l r:Yc}{x y z:Nat×Nat×Nat}:((l++x::y::r).toArray.setIfInBounds l.length z).eraseIdxIfInBounds (l.length+1)=(l++z::r).toArray:=by
 simp_all [List.eraseIdx_append_of_length_le]
noncomputable def mX (b:Nat)(v:KA):SM Bool:=(modify λs=>setArr s (List.foldl (λa x=>match x with|(p,j)=>a.setIfInBounds (b+j) p) (arrOf s) v.toList.zipIdx)) >>= λ_=>get >>= λz=>pure (failedOf z).isNone
noncomputable def rX (a:KA)(c na b k:Nat):SM Bool:=if(k == 0)=true then pure true else if na<=k then CC (a.extract c b) (a.extract b (b+k)) >>= mX c else CD (a.extract c b) (a.extract b (b+k)) >>= mX c
noncomputable def rY (a:KA)(b na c nb:Nat):SM Bool:=if(na == 0)=true then pure true else elem' a (b+na-1) >>= λx=>Wi true x a c nb (nb-1) >>= λr=>match r with
 |some k=>rX a b na c k
 |_=>pure false
noncomputable def rZ (a:KA)(b na c nb:Nat):SM Bool:=elem' a c >>= λx=>Wi false x a b na 0 >>= λr=>match r with
 |some k=>rY a (b+k) (na-k) c nb
 |_=>pure false
set_option smartUnfolding false in
def kM {i:Nat}:mergeAt' i=(get >>= λz=>match (pendingOf z)[i]?,(pendingOf z)[i+1]? with
 |some (sa,na,pw),some (sb,nb,_)=>set (setPending z (((pendingOf z).setIfInBounds i (sa,na+nb,pw)).eraseIdxIfInBounds (i+1))) >>= λ_=>rZ (arrOf z) sa na sb nb
 |_,_=>liftM (unsupported "internal:list.sort.pending")):=rfl
def CJ {p:Array (Nat×Nat×Nat)}:pendingOf (setPending st p)=p:=by rfl
section
variable {a b q am u k x y:Nat}{ix:Yi}{pn:Array (Nat×Nat×Nat)}{Q:Bool->YB}(W:Wk lt)(S:Seg lt ix a (q+1))(T:Seg lt ix (q+1) b)(hz:ix.size=N)(hb:b<=N)(B:SBp it kind pn ix st)
 (h:∀jx st',SBp it kind pn jx st'->jx.Perm ix->Seg lt jx a b->(∀i,i<a\/b<=i->gx jx i=gx ix i)->Q true st')
include W S T hz hb B h
theorem FM {o:Yj}{j:SortSt}(e:a<=am)(g:am<q+1)(k1:1<=k)(l:q+1+k<=b)(m:∀i,a<=i->i<am->lt (gx ix (q+1)) (gx ix i)=false)(n:∀i,q+1+k<=i->i<b->lt (gx ix i) (gx ix q)=false)
 (c:SEq st j) (M:zD lt (ix.extract am (q+1)) (ix.extract (q+1) (q+1+k)) o):YK prog w A E s (mX am (ar it o)) Q j:=by
 obtain⟨p,r,H,t,v,C⟩:=S.put W T (by rwa [hz]) e g k1 l m n M;refine Yo (wpS_modify (Yo (wpS_get (Yp ?_))));have f:=c.fl.trans B.fl;rw[f];refine h p _ ⟨?_,c.kd.trans B.kd,f,c.pd.trans B.pd⟩ t v C;rw[c.arr,B.arr];apply Vj;have F:(ar it o).toList=o.map it:=by simp[ar]
 refine Eq.trans (Zt (λz=>(List.foldl (λ(a:Array Keyed) (x:Keyed×Nat)=>a.setIfInBounds (am+x.2) x.1) (ix.map it) z.zipIdx).toList) F) ?_;have G:am+o.length=q+1+k:=()
 rw[FF am (o.map it) 0 _ (),Array.toList_map,Array.toList_map,r,Zql,Nat.add_zero,G,Uc,Uc,List.map_take,List.map_drop]
theorem FN (j:∀i,a<=i->i<q+1->jK lt (gx ix i) (gx ix (q+1)))(c:a<=q+1)(e:q+1<b):Q true st:=h ix st B (.refl _) (S.join W T e j c) λ_ _=>rfl
variable (O:yj prog w A s kind it lt N)(wQ:∀i,i<N->gx ix i<N)
include O wQ
theorem mU (e:am+u=q+1)(u1:1<=u)(f:a<=am)(G:q+1<b)(r:q+1+k<=b)(m3:∀i,a<=i->i<am->lt (gx ix (q+1)) (gx ix i)=false)(m4:∀i,am<=i->i<q+1->lt (gx ix (q+1)) (gx ix i)=true)
 (k3:∀i,q+1<=i->i<q+1+k->lt (gx ix i) (gx ix q)=true) (I:∀i,q+1+k<=i->i<b->lt (gx ix i) (gx ix q)=false):YK prog w A E s (rX (ix.map it) am u (q+1) k) Q st:=by
 have g:am<q+1:=()
 have bz:b<=ix.size:=by rw[hz];exact hb
 refine wi (λc=>Yp (FN W S T hz hb B h (λi h3 hi=>?_) (Zz (UJ f g)) G)) λc=>?_
 .have c:k=0:=Ys.mp c;subst c;have b:jK lt (gx ix q) (gx ix (q+1)):=.inr ⟨I _ (Zf _) G,Zg (S.pl q (Zh f (Uq g)) (UI _)).2 (T.pl _ (Zf _) G).1⟩;by_cases z:i=q
  .rw[z];exact b
  .exact by grind
 have k1:1<=k:=by grind
 have t:q+1<=ix.size:=()
 have kz:=Zh r bz;have xn:∀x∈(ix.extract am (q+1)).toList,x<N:=λx m=>by
  grind[Wj]
 have yn:∀y∈(ix.extract (q+1) (q+1+k)).toList,y<N:=λx m=>by
  obtain⟨l,n,p,rfl⟩:=Wj kz m;exact wQ _ ()
 have J:∀x∈(ix.extract am (q+1)).toList,∀y∈(ix.extract (q+1) (q+1+k)).toList,x<y:=λx m y K=>by
  obtain⟨l,n,p,rfl⟩:=Wj t m;obtain⟨l',L,P,rfl⟩:=Wj kz K;exact Zg (S.pl l (Zh f n) p).2 (T.pl l' L (Zg P r)).1
 have px:=FH (ix:=ix) (R:=jK lt) (i:=am) (j:=q+1) t λa b h ab U=>S.up a b (Zh f h) ab U;have py:=FH (ix:=ix) (R:=jK lt) (i:=q+1) (j:=q+1+k) kz λa b h ab U=>T.up a b h ab (Zg U r);have H:MH lt N (ix.extract am (q+1)) (ix.extract (q+1) (q+1+k)):=⟨W,xn,yn,J,px,py⟩;have F:(ix.extract am (q+1)).size=u:=by rw[VI];lia
 have X:(ix.extract (q+1) (q+1+k)).size=k:=by rw[VI];lia
 have Y:gx (ix.extract am (q+1)) 0=gx ix am:=Y2 g t;have v:gx (ix.extract am (q+1)) (u-1)=gx ix q:=by rw[Y2 () t,show am+(u-1)=q by lia]
 have C:gx (ix.extract (q+1) (q+1+k)) 0=gx ix (q+1):=Y2 () kz;have Z:gx (ix.extract (q+1) (q+1+k)) (k-1)=gx ix (q+k):=by rw[Y2 () kz,show q+1+(k-1)=q+k by lia]
 rw[FG,FG];refine wi (λ_=>Yo (O8 H O B.kd (by rw[F];exact u1) (by rw[X];exact k1) (by rw[C,Y];exact m4 am (Zf _) g) (λy K=>?_) λo s2 se M=>FM W S T hz hb B h f g k1 r m3 I se M))
  λ_=>Yo (OB H O B.kd (by rw[F];exact u1) (by rw[X];exact k1) (λx m=>?_) (by rw[F,X,Z,v];exact k3 _ () ()) λo s2 se M=>FM W S T hz hb B h f g k1 r m3 I se M)
 .obtain⟨l,n,p,rfl⟩:=Wj kz K;rw[F,v];exact .inl (k3 l n p)
 .obtain⟨l,n,p,rfl⟩:=Wj t m;rw[C];exact .inl (m4 l n p)
theorem mV (e:am+u=q+1)(G:1<=y)(H:q+1+y=b)(g:a<=am)(m:∀i,a<=i->i<am->lt (gx ix (q+1)) (gx ix i)=false)(p:∀i,am<=i->i<q+1->lt (gx ix (q+1)) (gx ix i)=true):YK prog w A E s (rY (ix.map it) am u (q+1) y) Q st:=by
 have l:q+1<b:=()
 have r:q+1<N:=()
 have t:a<=q+1:=()
 refine wi (λc=>Yp (FN W S T hz hb B h (λi n v=>.inr ⟨m i n ?_,Zg (S.pl i n v).2 (T.pl _ (Zf _) l).1⟩) t l)) λc=>?_
 .simp_all
 have z:1<=u:=by grind
 rw[show am+u-1=q by rw[e];rfl];refine Yo (Qu () (Yo (Xn O B.kd (wQ _ (UZ r)) () () () (λi j C I q=>OD W (T.up _ _ (Ul _ _) (Nat.add_lt_add_left C _) ()) q) λk k2 k3 F=>(mU W S T hz hb B h O wQ e z g l () m p (λi f o=>?_) λi f o=>?_))))
 .obtain⟨d,rfl⟩:=U8 f;exact k3 d (VA o)
 .obtain⟨d,rfl⟩:=U8 (Zh (Ul _ _) f);exact F d (VT f) ()
theorem mW (e:a+x=q+1)(g:1<=x)(l:1<=y)(n:q+1+y=b):YK prog w A E s (rZ (ix.map it) a x (q+1) y) Q st:=by
 have o:q+1<N:=()
 refine Yo (Qu () (Yo (Xn O B.kd (wQ _ o) () () g (λi j p v q=>OC W (S.up _ _ (Ul _ _) (Nat.add_lt_add_left p _) ()) q) λm m2 r t=>(mV W S T hz hb B h O wQ (by rwa [Nat.add_assoc,Vw m2]) l n (Ul _ _) (λi c f=>?_) λi c f=>?_))))
 .obtain⟨d,rfl⟩:=U8 c;have z:(!lt (gx ix (q+1)) (gx ix (a+d)))=true:=r d (VA f);simpa using z
 .obtain⟨d,rfl⟩:=U8 (Zh (Ul _ _) c);have z:(!lt (gx ix (q+1)) (gx ix (a+d)))=false:=t d (VT c) ();simpa using z
end
def OL {a x y b g:Nat}{l r:Yc}{ix:Yi}{Q:Bool->YB}(W:Wk lt)(O:yj prog w A s kind it lt N)(B:SBp it kind (l++(a,x,b)::(a+x,y,g)::r).toArray ix st)(hz:ix.size=N)(m:ix.Perm (Array.range N))(S:Seg lt ix a (a+x))(T:Seg lt ix (a+x) (a+x+y))(n:1<=x)(o:1<=y)(j:a+x+y<=N)
 (h:∀f c,SBp it kind (l++(a,x+y,b)::r).toArray f c->f.Perm ix->Seg lt f a (a+x+y)->(∀i,i<a\/a+x+y<=i->gx f i=gx ix i)->Q true c):YK prog w A E s (mergeAt' l.length) Q st:=by
 have p:(pendingOf st)[l.length]? = some (a,x,b):=by rw[B.pd];simp
 have t:(pendingOf st)[l.length+1]? = some (a+x,y,g):=by
  rw[B.pd,List.getElem?_toArray,US (Ul _ _),VJ];rfl
 rw[kM];refine Yo (wpS_get ?_);rw[p,t];rw[B.arr];have u:SBp it kind (l++(a,x+y,b)::r).toArray ix (setPending st (((pendingOf st).setIfInBounds l.length (a,x+y,b)).eraseIdxIfInBounds (l.length+1))):=⟨B.arr,B.kd,B.fl,by rw[CJ,B.pd];exact OK⟩;obtain⟨q,e⟩:∃q,a+x=q+1:=⟨a+x-1,()⟩;rw[e] at S T j h ⊢;exact mW W S T hz j u h O (λi v=>FI m (by rwa [hz])) e n o rfl
def yq (lt:Yd)(ix:Yi):Nat->List (Nat×Nat×Nat)->Nat->Prop
 |a,[],b=>a=b
 |a,p::r,b=>p.1=a/\1<=p.2.1/\Seg lt ix a (a+p.2.1)/\yq lt ix (a+p.2.1) r b
theorem yq.le {ix:Yi}:∀{l:Yc} {a b:Nat},yq lt ix a l b->a+l.length<=b
 | [],a,b,h=>by rw[h];simp
 |p::r,a,b,⟨_,h2,_,h4⟩=>by have:=h4.le;grind
theorem yq.app {ix:Yi}:∀{l r:Yc} {a b:Nat},yq lt ix a (l++r) b->∃c,yq lt ix a l c/\yq lt ix c r b
 | [],r,a,b,h=>⟨a,rfl,h⟩
 |p::l,r,a,b,⟨h1,h2,h3,h4⟩=>have ⟨c,e,f⟩:=yq.app h4;⟨c,⟨h1,h2,h3,e⟩,f⟩
theorem yq.cat {ix:Yi}:∀{l r:Yc} {a b c:Nat},yq lt ix a l c->yq lt ix c r b->yq lt ix a (l++r) b
 | [],r,a,b,c,h,k=>by rwa [h]
 |p::l,r,a,b,c,⟨h1,h2,h3,h4⟩,k=>⟨h1,h2,h3,yq.cat h4 k⟩
theorem yq.same {ix c:Yi}:∀{l:Yc} {a b:Nat},yq lt ix a l b->(∀i,a<=i->i<b->gx c i=gx ix i)->yq lt c a l b
 | [],a,b,h,_=>h
 |p::r,a,b,⟨h1,h2,h3,h4⟩,k=>⟨h1,h2,h3.same λi x y=>k i x (by have:=h4.le;lia),h4.same ()⟩
structure RI (it:Nat->Keyed)(kind:SortKind)(lt:Yd)(N:Nat)(ps:Yc)(lo:Nat)(ix:Yi)(st:SortSt):Prop where
 b:SBp it kind ps.toArray ix st
 size:ix.size=N
 perm:ix.Perm (Array.range N)
 ch:yq lt ix 0 ps lo
 le:lo<=N
def FP {i lo:Nat}{ps:Yc}{ix:Yi}{Q:Bool->YB}(W:Wk lt)(O:yj prog w A s kind it lt N)(R:RI it kind lt N ps lo ix st)(M:i+1<ps.length)
 (h:∀b e a,b.length+1=ps.length->RI it kind lt N b lo e a->(∀i,lo<=i->gx e i=gx ix i)->Q true a):YK prog w A E s (mergeAt' i) Q st:=by
 obtain⟨l,x,y,r,rfl,hl⟩:∃l x y r,ps=l++x::y::r/\l.length=i:=⟨ps.take i,ps[i],ps[i+1],ps.drop (i+2),by
  simp,()⟩
 have ⟨c,o,p⟩:=R.ch.app;have ⟨q,f,t⟩:=x;have ⟨P,g,S⟩:=y;have ⟨u,v,z,B,C,F,G⟩:=p;have H:=u;have I:=B;have J:=v;have K:=C;have j:yq lt ix (c+f+g) r lo:=G;subst H I;have T:=j.le;have le:=R.le;subst hl;refine OL W O R.b R.size R.perm z F J K () λe a L m n U=>h (l++(q,f+g,t)::r) e a () ⟨L,by rw[m.size_eq];exact R.size,m.trans R.perm,?_,R.le⟩ ();rw[Nat.add_assoc] at n;refine(o.same ()).cat ⟨rfl,(),n,?_⟩;rw[<- Nat.add_assoc];exact j.same ()
def OM {l:Yc}{x:Nat×Nat×Nat}(f):(l++[x]).toArray.modify ((l++[x]).toArray.size-1) f=(l++[f x]).toArray:=by
 have e:∀l:Yc,(l++[x]).modify l.length f=l++[f x]:=λl=>by
  induction l with
  |nil=>rfl
  |cons y l a=>show y::(l++[x]).modify l.length f=_;rw[a];rfl
 simp[e]
abbrev U2:=Option Unit×Unit
abbrev U1:=Option Unit×Nat
noncomputable def rR (a:Nat):SM (ForInStep U2):=get >>= λz=>match (if(pendingOf z).size > 1 then(pendingOf z)[(pendingOf z).size-2]? else none) with
 |some (_,_,older)=>if older<=a then pure (.done (none,Yt)) else mergeAt' ((pendingOf z).size-2) >>= λb=>if(!b)=true then pure (.done (some Yt,Yt)) else pure (.yield (none,Yt))
 |_=>pure (.done (none,Yt))
noncomputable def m8 (lo n:Nat):SM (ForInStep U1):=(modify λs=>setPending s ((pendingOf s).push (lo,n,0))) >>= λ_=>pure (.yield (none,lo+n))
noncomputable def rP (lo n a:Nat)(c:U2):SM (ForInStep U1):=match c.1 with
 |some r=>pure (.done (some r,lo))
 |none=>(modify λs=>setPending s ((pendingOf s).modify ((pendingOf s).size-1) λ(st,len,_)=>(st,len,a))) >>= λ_=>m8 lo n
noncomputable def bf (N lo n:Nat):SM (ForInStep U1):=get >>= λz=>match (pendingOf z).back? with
 |some (s1,n1,_)=>(forIn [:N] ((none,Yt):U2) λ_ _=>rR (power' N (2*s1+n1) (2*s1+n1+n1+n) N)) >>= rP lo n (power' N (2*s1+n1) (2*s1+n1+n1+n) N)
 |_=>m8 lo n
noncomputable def pE (N a lo:Nat):SM (ForInStep U1):=if lo ≥ N then pure (.done (none,lo)) else countRun' lo (N-lo) >>= λr=>match r with
 |some n=>if n<a then(liftM (rule "list.sort.binary-insertion"):SM PUnit) >>= λ_=>binarySort' lo (min (N-lo) a) n >>= λb=>if(!b)=true then pure (.done (some Yt,lo)) else bf N lo (min (N-lo) a) else bf N lo n
 |_=>pure (.done (some Yt,lo))
def rQ (p:Array (Nat×Nat×Nat)):Nat:=if Option.any (λx=>decide (x<p[p.size-2+1]?.elim 0 λx=>x.2.1)) (if p.size-2 > 0 then p[p.size-2-1]?.map (λx=>x.2.1) else none)=true then p.size-2-1 else p.size-2
noncomputable def rS:SM (ForInStep U2):=get >>= λz=>if(pendingOf z).size<=1 then pure (.done (none,Yt)) else mergeAt' (rQ (pendingOf z)) >>= λb=>if(!b)=true then pure (.done (some Yt,Yt)) else pure (.yield (none,Yt))
set_option smartUnfolding false in
def uI:sortRuns'=(get >>= λz=>(forIn [:(arrOf z).size] ((none,0):U1) λ_ c=>pE (arrOf z).size (minRun' (arrOf z).size (arrOf z).size 0) c.2) >>= λc=>match c.1 with
 |some r=>pure r
 |none=>(forIn [:(arrOf z).size] ((none,Yt):U2) λ_ _=>rS) >>= λc=>match c.1 with
  |some r=>pure r
  |none=>pure Yt):=rfl
def ON {c:Prop}[Decidable c]{x y z:Nat}(h:x<=z)(k:y<=z):(if c then x else y)<=z:=by split<;>assumption
def OO {p:Array (Nat×Nat×Nat)}:rQ p<=p.size-2:=ON (U7 _ _) (Zf _)
section
variable {ps:Yc}{lo k pw:Nat}{jx px:Yi}{R:ForInStep U1->YB}(Sg:Seg lt jx lo (lo+k))(k1:1<=k)(k2:lo+k<=N)(suf:∀i,lo+k<=i->i<N->gx jx i=i)
 (go:∀ps jx st',RI it kind lt N ps (lo+k) jx st'->(∀i,lo+k<=i->i<N->gx jx i=i)->R (.yield (none,lo+k)) st')
include Sg k1 k2 suf go
theorem FQ (a:RI it kind lt N ps lo jx st):YK prog w A E s (m8 lo k) R st:=
 Yo (wpS_modify (Yp (go (ps++[(lo,k,0)]) jx _ ⟨⟨a.b.arr,a.b.kd,a.b.fl,by rw[CJ,a.b.pd];simp⟩,a.size,a.perm,a.ch.cat ⟨rfl,k1,Sg,rfl⟩,k2⟩ suf)))
theorem OP (i:1<=ps.length)(a:RI it kind lt N ps lo jx st):YK prog w A E s (rP lo k pw (none,Yt)) R st:=by
 rcases List.eq_nil_or_concat ps with z|⟨l2,v,z⟩
 .simp_all
 .subst z;rw[List.concat_eq_append] at a;refine Yo (wpS_modify (FQ (ps:=l2++[(v.1,v.2.1,pw)]) Sg k1 k2 suf go ⟨⟨a.b.arr,a.b.kd,a.b.fl,?_⟩,a.size,a.perm,?_,a.le⟩))
  .rw[CJ,a.b.pd];exact OM _
  .obtain⟨c,b,e,f,g,h⟩:=a.ch.app;exact b.cat ⟨e,f,g,h⟩
end
def OQ {ps:Yc}{lo h:Nat}{e:Yi}{Q:ForInStep U2->YB}(W:Wk lt)(O:yj prog w A s kind it lt N)(m:1<=ps.length)(f:RI it kind lt N ps lo e st)(g:Q (.done (none,Yt)) st)
 (go:∀a c b,1<=a.length->RI it kind lt N a lo c b->(∀i,lo<=i->gx c i=gx e i)->Q (.yield (none,Yt)) b):YK prog w A E s (rR h) Q st:=by
 refine Yo (wpS_get ?_);rw[f.b.pd]
 split
 .have hp:2<=ps.length:=by
   grind
  refine wi (λ_=>Yp g) λ_=>Yo (FP W O f () λa c b n j l=>Yp (go a c b () j l))
 .exact Yp g
def OR {ps:Yc}{lo k:Nat}{ix a:Yi}{R:ForInStep U1->YB}(W:Wk lt)(O:yj prog w A s kind it lt N)(B:SBp it kind ps.toArray a st)(L:PlO lo N ix a (lo+k))(U:zk lt lo a (lo+k))(ch:yq lt ix 0 ps lo)(le:lo<=N)(k1:1<=k)(k2:lo+k<=N)
 (go:∀ps b e,RI it kind lt N ps (lo+k) b e->(∀i,lo+k<=i->i<N->gx b i=i)->R (.yield (none,lo+k)) e):YK prog w A E s (bf N lo k) R st:=by
 have m:Seg lt a lo (lo+k):=⟨L.mid,U⟩;have n:RI it kind lt N ps lo a st:=⟨B,L.size,L.perm,ch.same λi _ g=>L.low i g,le⟩;refine Yo (wpS_get ?_);rw[B.pd];rcases List.eq_nil_or_concat ps with z|⟨l,y,z⟩
 .subst z;exact FQ m k1 k2 L.suf go n
 .have f:1<=ps.length:=by simp_all
  rw[show ps.toArray.back? = some y by simp_all];refine Yo (Yq (Yr (I:=λ_ c h=>c=(none,Yt)/\∃ps b,1<=ps.length/\RI it kind lt N ps lo b h/\∀i,lo<=i->gx b i=gx a i) ?_ (λ_ _ z=>z) ⟨rfl,_,a,f,n,λ_ _=>rfl⟩) ?_)
  .rintro y c h _ _ ⟨rfl,ps,b,f,j,un⟩;exact OQ W O f j () ()
  .rintro c h ⟨rfl,ps,b,f,j,un⟩;exact OP (m.same ()) k1 k2 (λi o g=>(un i (Zh (Ul _ _) o)).trans (L.suf i o g)) go f j
def OS {ps:Yc}{e:Yi}{Q:ForInStep U2->YB}(W:Wk lt)(O:yj prog w A s kind it lt N)(R:RI it kind lt N ps N e st)(f:ps.length<=1->Q (.done (none,Yt)) st)
 (go:∀a g b,a.length+1=ps.length->RI it kind lt N a N g b->Q (.yield (none,Yt)) b):YK prog w A E s rS Q st:=by
 refine Yo (wpS_get ?_);rw[R.b.pd];refine wi (λc=>Yp (f c)) λc=>Yo (FP W O R ?_ λa e b h i _=>Yp (go a e b h i));have:=OO (p:=ps.toArray)
 grind
def OT {ix:Yi}{Q:Unit->YB}(W:Wk lt)(O:yj prog w A s kind it lt N)(C:RI it kind lt N [] 0 ix st)(l:∀i,i<N->gx ix i=i)(o:2<=N)
 (h:∀j f,arrOf f=j.map it->failedOf f=none->Pl N j N->Up lt j N->Q Yt f):YK prog w A E s sortRuns' Q st:=by
 have sz:(arrOf st).size=N:=by rw[C.b.arr,Uo];exact C.size
 rw[uI];refine Yo (wpS_get ?_);rw[sz];refine Yo (Yq (Yr (I:=λx c t=>∃lo ps ix,c=(none,lo)/\x<=lo/\RI it kind lt N ps lo ix t/\∀i,lo<=i->i<N->gx ix i=i) (Q:=λc t=>∃ps ix,c=(none,N)/\RI it kind lt N ps N ix t) ?_ ?_ ⟨0,[],ix,rfl,Zf _,C,λi _ T=>l i T⟩) ?_)
 .rintro x c t _ X ⟨lo,ps,ix,rfl,J,R,l⟩;have le:=R.le;refine wi (λq=>?_) λq=>?_
  .have e:lo=N:=Nat.le_antisymm le q;subst e;exact Yp ⟨ps,ix,rfl,R⟩
  have q:lo<N:=Yv q;have Y:PlO lo N ix ix (lo+1):=⟨R.size,R.perm,λ_ _=>rfl,λa u o=>by
   rw[l a u (Zg o q)];exact⟨u,o⟩,λa u o=>l a (Uz u) o⟩
  have sub:∀{k},k<=N-lo->lo+k<=N:=λh=>Zh (Nat.add_le_add_left h _) (Yx (Vw le));have y:∀{k z F} {n:ForInStep U1->YB},SBp it kind ps.toArray z F->1<=k->k<=N-lo->PlO lo N ix z (lo+k)->zk lt lo z (lo+k)->(∀ps j f,x+1<=lo+k->RI it kind lt N ps (lo+k) j f->(∀i,lo+k<=i->i<N->gx j i=i)->n (.yield (none,lo+k)) f)->YK prog w A E s (bf N lo k) n F:=
   λB k1 k2 L U g=>OR W O B L U R.ch le k1 (sub k2) λps j f n s'=>g ps j f (Nat.add_le_add J k1) n s'
  exact Yo (OH W O (sub (Zf _)) (λm kx s2 K M m2 L2 U2=>wi (λP=>Yo (wpS_lift (wpAny_rule ⟨rfl,Yo (OJ W O (sub (Nat.min_le_left _ _)) (Nat.le_min.mpr ⟨m2,Zz P⟩) M K L2 U2 λz F Z L3 U3=>y Z (Nat.le_min.mpr ⟨Nat.sub_pos_of_lt q,Nat.zero_lt_of_lt P⟩) (Nat.min_le_left _ _) L3 U3 λps j f g n s'=>⟨_,ps,j,rfl,g,n,s'⟩)⟩))) λ_=>y K M m2 L2 U2 λps j f g n s'=>⟨_,ps,j,rfl,g,n,s'⟩) (Nat.sub_pos_of_lt q) R.b Y)
 .rintro c t ⟨lo,ps,ix,rfl,J,R,l⟩;have le:=R.le
  grind
 .rintro c t ⟨ps,ix,rfl,R⟩;refine Yo (Yq (Yr (I:=λx c v=>∃ps ix,c=(none,Yt)/\(ps.length<=1\/ps.length+x<=N)/\RI it kind lt N ps N ix v) (Q:=λc v=>∃ps ix,c=(none,Yt)/\ps.length<=1/\RI it kind lt N ps N ix v) ?_ ?_ ⟨ps,ix,rfl,.inr (by have:=R.ch.le;lia),R⟩) ?_)
  .rintro x c v _ X ⟨ps,ix,rfl,S,R⟩;exact OS W O R (λc1=>⟨ps,ix,rfl,c1,R⟩) ()
  .grind
  .rintro c v ⟨ps,ix,rfl,S,R⟩;cases ps with
   |nil =>
    have:0=N:=R.ch;lia
   |cons p r =>
    have e:r=[]:=List.eq_nil_of_length_eq_zero (Nat.le_zero.mp (Nat.le_of_succ_le_succ S));subst e;obtain⟨d1,d2,G,H⟩:=R.ch;have H:0+p.2.1=N:=H;rw[H] at G;exact Yp (h ix v R.b.arr R.b.fl ⟨R.size,R.perm,λa ha=>(G.pl a (Ua _) ha).2,λa u o=>Zn o (Nat.not_lt_of_le u)⟩ λa b ab bn=>G.up a b (Ua _) ab bn)
end
open PySem PyProof.Rows
section
variable {prog:Program}{w:World}{A:Around}{E:Ya}{s:Shared}{kind:SortKind}{it:Nat->Keyed}{lt:Yd}{n:Nat}{ix:Yi}{st:SortSt}
def FR (W:Wk lt)(O:yj prog w A s kind it lt n){Q:Unit->YB}(B:SB it kind ix st)(L:Pl n ix 1)(c:2<=n)(e:n<1000)
 (h:∀b a,arrOf a=b.map it->failedOf a=none->Pl n b n->Up lt b n->Q Yt a):YK prog w A E s sortRuns' Q st:=
 OT W O ⟨⟨B.arr,B.kd,B.fl,B.pd⟩,L.size,L.perm,rfl,Ua _⟩ (λi f=>if z:i=0 then by rw[z];have:=L.pre 0 ();lia else L.suf i () f) c h
end
def jD (a:Yf)(i:Nat):Value:=a.getD i .none
def CK (vs):vs.toArray.zip vs.toArray=(Array.range vs.length).map λi=>(jD vs i,jD vs i):=by
 apply Array.ext_getElem?;intro k;rw[UP];by_cases h:k<vs.length
 .rw[Array.getElem?_range,Zd h];have e:jD vs k=vs[k]:=by unfold jD;rw[Ur,Zqg h];rfl
  simp[Array.getElem?_zip_eq_some,h,e]
 .rw[Array.getElem?_range,Ze h,VU (by simp;lia)];rfl
def FU (h:k<n):gx (Array.range n) k=k:=by
 simp_all [gx]
def A9 (n k)(b:k<=n):Pl n (Array.range n) k:=by
 refine⟨Array.size_range,Array.Perm.refl _,λa c=>?_,λa _ h=>FU h⟩
 rwa [FU ()]
section
variable {prog:Program}{w:World}{A:Around}{E:Ya}{s:Shared}{lt:Yd}
def wg (prog:Program)(w:World)(A:Around)(s:Shared)(a:Yf)(lt:Yd):Prop:=
 ∃kind,(∀(E:Ya) (Q:SortKind->YC),Q kind s->YJ prog w A (keyKind' a.toArray) Q E s)/\yj prog w A s kind (λi=>(jD a i,jD a i)) lt a.length
def FV (W:Wk lt)(m:s.heap.get? a=some (seqObj "list" vs.toArray n))(r:vs.length<1000)
 (y:∀h',(∀b o,b≠a->s.heap.get? b=some o->h'.get? b=some o)->2<=vs.length->wg prog w A { s with heap:=h' } vs lt)
 (h:∀c,Pl vs.length c vs.length->Up lt c vs.length->P (.done (.ret .none)) { s with heap:=sortedHeap s.heap a vs (c.map (jD vs)) }):
 YJ prog w A (Builtin.«list.sort» ⟨[.ref a],[]⟩) P E s:=by
 rw[list_sort_plain];have H:a<s.heap.objs.size:=Zk m;obtain⟨t,g1⟩:∃t,(s.heap.update a (Obj.mapSeq λ_ => #[])).get? a=some (seqObj "list" #[] t):=⟨_,get?_update_seq m (λ_ => #[])⟩;refine Za (listItems_at m rfl (Za (listUpdate_at m rfl (Za (seqEpoch_at g1 rfl (Za (wpAny_newTuple (Za (wpAny_newList (wpAny_holding ?_))))))))));have u:∀b,b<s.heap.objs.size->b≠(s.heap.update a (Obj.mapSeq λ_ => #[])).objs.size:=λb p=>by
  rw[Heap.size_update];exact Zi p
 have v:∀b,b<s.heap.objs.size->b≠((s.heap.update a (Obj.mapSeq λ_ => #[])).push (seqObj "tuple" vs.toArray 0)).objs.size:=λb p=>by
  rw[size_push',Heap.size_update];exact by lia
 have q:(((s.heap.update a (Obj.mapSeq λ_ => #[])).push (seqObj "tuple" vs.toArray 0)).push (seqObj "list" #[] 0)).get? a=some (seqObj "list" #[] t):=by
  grind[Heap.get?_push_ne]
 have z:∀b o,b≠a->s.heap.get? b=some o->(((s.heap.update a (Obj.mapSeq λ_ => #[])).push (seqObj "tuple" vs.toArray 0)).push (seqObj "list" #[] 0)).get? b=some o:=λb o p e=>by
  rw[Heap.get?_push_ne _ _ _ (v b (Zk e)),Heap.get?_push_ne _ _ _ (u b (Zk e)),Heap.get?_update_ne _ _ _ _ p];exact e
 have x:∀(c:Yi),(c.map λi=>(jD vs i,jD vs i)).map (·.2)=c.map (jD vs):=by simp
 show YJ prog w A _ P E { s with heap:=((s.heap.update a (Obj.mapSeq λ_ => #[])).push (seqObj "tuple" vs.toArray 0)).push (seqObj "list" #[] 0) };dsimp only;have sz:vs.toArray.size=vs.length:=by simp
 by_cases g:vs.toArray.size<2
 .rw[Zd g,Zd g];refine Za (Zb ?_);rw[StateT.run_pure];refine Za (Zb ?_);dsimp only;refine Za (seqEpoch_at q rfl (Za (listUpdate_at q rfl ?_ (hsz2:=by rw[Uo,CK,Uo,Array.size_range,sizeLine_eq];lia))));simp only[bne_self_eq_false,UF,if_false];have f:=h (Array.range vs.length) (A9 _ _ (Zf _)) λi j I J=>()
  rw[<- x,<- CK] at f;exact Zb f
 .rw[Ze g,Ze g];obtain⟨kind,k1,k2⟩:=y _ z ();refine Za (k1 _ _ ?_);refine Za (Zc (FR W k2 (ix:=Array.range vs.length) (st:=SortSt.mk' kind (vs.toArray.zip vs.toArray) #[] 7 none) (Q:=λ_ l=>∃c,arrOf l=c.map (λi=>(jD vs i,jD vs i))/\failedOf l=none/\Pl vs.length c vs.length/\Up lt c vs.length)
   ⟨CK vs,rfl,rfl,rfl⟩ (A9 _ _ ()) () r λc l B C F G=>⟨c,B,C,F,G⟩) ?_ λ_ _ e=>e)
  rintro⟨⟨⟩,l⟩ s' ⟨rfl,c,q1,q2,q3,q4⟩;dsimp only;refine Za (seqEpoch_at q rfl (Za (listUpdate_at q rfl ?_ (hsz2:=by
   rw[Uo,q1,Uo,q3.size,sizeLine_eq];lia))))
  rw[q2];simp only[bne_self_eq_false,UF,if_false];have f:=h c q3 q4;rw[<- x,<- q1] at f;exact Zb f
def FW (W:Wk lt)
 (i:wpAny (model prog w) A.in1 (collect x) (λa c=>a.length<1000/\(∀h',(∀b o,c.heap.get? b=some o->h'.get? b=some o)->2<=a.length->wg prog w A.in1.in1 { c with heap:=h' } a lt) /\
  ∀f h' l,Pl a.length f a.length->Up lt f a.length->(∀b o,c.heap.get? b=some o->h'.get? b=some o)->c.heap.objs.size<=l->(∃e,h'.get? l=some (seqObj "list" (f.map (jD a)) e))->Q (.ref l) { c with heap:=h' }) E s):
 YJ prog w A (call (.builtin "sorted") [x]) Q E s:=by
 refine Calls.call_function_entry kind_sorted plain_sorted entry_sorted (args_sorted1 _) (Za (Zb (Za (Zc i (λa c z=>?_) λ_ _ e=>e))));obtain⟨g,j,m⟩:=z;have h:(c.heap.push (seqObj "list" a.toArray 0)).get? c.heap.objs.size=some (seqObj "list" a.toArray 0):=Zr _ rfl;have n:∀b o,c.heap.get? b=some o->b≠c.heap.objs.size:=λb o e=>Zi (Zk e);refine Za (wpAny_newList (Za (wpAny_holding (wpAny_call_entry slot_list_sort ⟨_,h,rfl⟩ entry_list_sort (FV W h g (λh' q=>j h' λb o e=>q b o (n b o e) (Zq _ e)) λf p u=>⟨_,rfl,Zb ⟨_,rfl,m f _ _ p u (λb o e=>?_) (Zf _) (sortedHeap_at h)⟩⟩) (args_list_sort _)))))
 grind[size_push',sortedHeap_old,Nat.lt_succ_of_lt,Heap.lt_size,Heap.get?_push_of_some]
end
structure Tot {α: Type}(ltb:α -> α -> Bool):Prop where
 asy:∀a b,ltb a b=true->ltb b a=false
 neg:∀a b c,ltb a c=true->ltb a b=true\/ltb b c=true
 tot:∀a b,ltb a b=false->ltb b a=false->a=b
def Tot.irr {α: Type}{ltb:α -> α -> Bool}(T:Tot ltb)(a):ltb a a=false:=by
 cases q:ltb a a with
 |false=>rfl
 |true=>have:=T.asy _ _ q;simp_all
def Tot.wk {α: Type}{ltb:α -> α -> Bool}(T:Tot ltb)(f:Nat -> α):Wk λi j=>ltb (f i) (f j):=⟨λi j=>T.asy _ _,λi j k=>T.neg _ _ _⟩
def jT (p q:Int×Int):Bool:=decide (p.1<q.1)||(decide (p.1=q.1)&&decide (p.2<q.2))
theorem WH:jT p q=true↔p.1<q.1\/(p.1=q.1/\p.2<q.2):=by
 unfold jT;simp
theorem Y5:jT p q=false↔¬(p.1<q.1\/(p.1=q.1/\p.2<q.2)):=by
 rw[<- WH];simp
def wC:Tot jT:=by
 refine⟨λa b h=>?_,λa b c h=>?_,λa b e f=>?_⟩
 .rw[WH] at h;rw[Y5];lia
 .grind[WH]
 grind[Y5]
def j3:Jy->Jy->Bool
 | [],[]=>false
 | [],_::_=>true
 |_::_,[]=>false
 |p::r,q::s=>if p=q then j3 r s else jT p q
def KW (p q)(r s):j3 (p::r) (q::s)=if p=q then j3 r s else jT p q:=rfl
theorem FY:∀a b:Jy,j3 a b=true->j3 b a=false
 | [],[],h=>JB h
 | [],_::_,_=>rfl
 |_::_,[],h=>JB h
 |p::r,q::s,h=>by
  rw[KW] at h ⊢;by_cases e:p=q
  .rw[Zd e] at h;rw[Zd e.symm];exact FY r s h
  .rw[Ze e] at h;rw[Ze (λz=>e z.symm)];exact wC.asy _ _ h
theorem FZ:∀a b c:Jy,j3 a c=true->j3 a b=true\/j3 b c=true
 | [],[],c,h=>.inr h
 | [],_::_,_,_=>.inl rfl
 |_::_,_,[],h=>JB h
 |p::r,[],q::s,_=>.inr rfl
 |p::r,x::t,q::s,h=>by
  rw[KW] at h;rw[KW,KW];by_cases e:p=q
  .rw[Zd e] at h;by_cases f:p=x
   .rw[Zd f,Zd (f.symm.trans e)];exact FZ r t s h
   .rw[Ze f,Ze (λz=>f (e.trans z.symm))];cases z:jT p x with
    |true=>simp
    |false =>
     right;rw[<- e];cases y:jT x p with
     |true=>rfl
     |false=>exact Zn (wC.tot _ _ z y) f
  .rw[Ze e] at h;by_cases f:p=x
   .simp_all
   .rw[Ze f];by_cases g:x=q
    .left
     rwa [g]
    .rw[Ze g];exact wC.neg _ _ _ h
theorem Ga:∀a b:Jy,j3 a b=false->j3 b a=false->a=b
 | [],[],_,_=>rfl
 | [],_::_,h,_=>by cases h
 |_::_,[],_,h=>by cases h
 |p::r,q::s,h1,h2=>by
  rw[KW] at h1 h2;by_cases e:p=q
  .rw[Zd e] at h1;rw[Zd e.symm] at h2;rw[e,Ga r s h1 h2]
  .rw[Ze e] at h1;rw[Ze (λz=>e z.symm)] at h2;exact Zn (wC.tot _ _ h1 h2) e
def ya:Tot j3:=⟨FY,FZ,Ga⟩
section
variable {α: Type}(ltb:α -> α -> Bool)
def xN (x:α):List α -> List α
 | []=>[x]
 |y::r=>if ltb x y=true then x::y::r else y::xN x r
def JL:List α -> List α
 | []=>[]
 |x::r=>xN ltb x (JL r)
def Sd (l:List α):Prop:=l.Pairwise λa b=>ltb b a=false
variable {ltb}
theorem CL (x):∀l:List α,(xN ltb x l).Perm (x::l)
 | []=>Vz _
 |y::r=>by
  unfold xN
  split
  .rfl
  .exact((CL x r).cons y).trans (List.Perm.swap x y r)
theorem Qr:∀l:List α,(JL ltb l).Perm l
 | []=>Vz _
 |x::r=>(CL x _).trans ((Qr r).cons x)
theorem Gb (T:Tot ltb)(x):∀l:List α,Sd ltb l->Sd ltb (xN ltb x l)
 | [],_=>VV _ _
 |y::r,h=>by
  have ⟨b,a⟩:=Ji.mp h;unfold xN
  split
  .rename_i c;refine Ji.mpr ⟨λz hz=>?_,h⟩;rcases Us.mp hz with e|e
   .rw[e];exact T.asy _ _ c
   .cases q:ltb z x with
    |false=>rfl
    |true =>
     rcases T.neg x z y c with u|u
     .rw[T.asy _ _ u] at q;exact JB q
     simp_all
  .refine Ji.mpr ⟨λz hz=>?_,Gb T x r a⟩
   grind[CL]
theorem WI (T:Tot ltb):∀l:List α,Sd ltb (JL ltb l)
 | []=>List.Pairwise.nil
 |x::r=>Gb T x _ (WI T r)
theorem AA (T:Tot ltb):∀{a b:List α},a.Perm b->Sd ltb a->Sd ltb b->a=b
 | [],b,p,_,_=>p.nil_eq
 |x::r,b,p,ha,hb=>by
  cases b with
  |nil=>simp_all
  |cons y t =>
   have ⟨c,f⟩:=Ji.mp ha;have ⟨g,h⟩:=Ji.mp hb;have e:x=y:=by
    rcases Us.mp (p.mem_iff.mp Zqs) with z|z
    .exact z
    .rcases Us.mp (p.mem_iff.mpr Zqs) with u|u
     .exact u.symm
     .exact T.tot _ _ (g x z) (c y u)
   subst e;rw[AA T p.cons_inv f h]
def CM (T:Tot ltb){l:List α}{d:α}(p:Pl l.length jx l.length)(u:Up (λi j=>ltb (l.getD i d) (l.getD j d)) jx l.length):jx.toList.map (λi=>l.getD i d)=JL ltb l:=by
 refine AA T ?_ ?_ (WI T l)
 .refine Vx ?_ (Qr l).symm;have q:jx.toList.Perm (List.range l.length):=by
   have:=Jp.mp p.perm;simpa using this
  refine(q.map _).trans (List.Perm.of_eq ?_);apply List.ext_getElem
  .simp
  .intro i m c;simp[c]
 .refine Jj.mpr λa b e f ab=>?_;rw[VL,VL];have sz:jx.toList.length=l.length:=by rw[Ui,p.size]
  rw[Zql] at e f;have g:jx.toList[a]=gx jx a:=by
   simp_all [gx]
  have h:jx.toList[b]=gx jx b:=by
   simp_all [gx]
  rw[g,h];exact jK.no (T.wk λi=>l.getD i d) (u a b ab ())
end
theorem Qf {α: Type}{l:List α}{d x:α}(h:l[i]? = some x):l.getD i d=x:=()
def WJ (h:Heap)(b:Yf)(ps:Jy):Prop:=b.length=ps.length/\∀(i:Nat) p,ps[i]? = some p->∃a o n t u,b[i]? = some (.ref a)/\h.get? a=some o/\o.cls=.type "tuple" /\ o.data=.seq #[.int p.1 t,.int p.2 u] n
section
variable {prog:Program}{w:World}{A:Around}{s:Shared}
theorem Gc:∀{b:Yf} {ps:Jy},WJ h b ps->∃fs,W.KatTups h b fs/\fs.length=b.length/\∀v∈fs,∃k t,v=Value.int k t
 | [],ps,q=>⟨[],.nil,rfl,()⟩
 |v::b,[],q=>by have:=q.1;simp at this
 |v::b,p::ps,q=>by
  obtain⟨a,o,n,t,u,c,e,f,g⟩:=q.2 0 p rfl;obtain rfl:=Zqi c;have ⟨fs,k1,k2,k3⟩:=Gc ⟨by have:=q.1;simp_all,λi p hp=>q.2 (i+1) p hp⟩;refine⟨.int p.1 t::fs,.cons e f g rfl k1,by simp[k2],λv j=>?_⟩
  grind
def OU (q:WJ s.heap vs ps)(B:2<=vs.length):wg prog w A s vs λi j=>jT (ps.getD i (0,0)) (ps.getD j (0,0)):=by
 obtain⟨fs,k1,k2,k3⟩:=Gc q;refine⟨tuples' (Value.type "int" != Value.type "tuple"),λE Q h=>W.kat_kind (T:=Value.type "int") k1 () (λv b=>?_) rfl h,λi j C F E Q h=>?_⟩
 .obtain⟨k,t,rfl⟩:=k3 v b;exact W.Looks.of_pure rfl
 .have G:=q.1;obtain⟨p,hp⟩:∃p,ps[i]? = some p:=by grind
  obtain⟨p',hp'⟩:∃p,ps[j]? = some p:=by grind
  obtain⟨a,o,n,t,u,e,f,H,l⟩:=q.2 i p hp;obtain⟨I,J,K,t',m,r,x,L,y⟩:=q.2 j p' hp';dsimp only at h;rw[Qf hp,Qf hp'] at h;show YJ prog w A (keyLt' _ (jD vs i) (jD vs j)) Q E s;unfold jD;rw[Qf e,Qf r];refine W.kat_lt f l x y ?_;refine W.kat_cons (PySem.SeqAt.EqAt.int_int p.1 t p'.1 t' prog w _ _ ?_);by_cases c:p.1=p'.1
  .rw[show(p.1 == p'.1)=true by simpa using c];refine W.kat_yes (W.kat_cons (PySem.SeqAt.EqAt.int_int p.2 u p'.2 m prog w _ _ ?_));by_cases d:p.2=p'.2
   .rw[show(p.2 == p'.2)=true by simpa using d];refine W.kat_yes (W.kat_nil ?_)
    grind[Y5]
   .rw[show(p.2 == p'.2)=false by simp_all];refine W.kat_no (W.kat_one _ _ (lt_int ?_));have z:jT p p'=decide (p.2<p'.2):=by
     grind[WH,Y5]
    rw[z] at h;exact h
  .rw[show(p.1 == p'.1)=false by simpa using c];refine W.kat_no (oneLt_int ?_);have z:jT p p'=decide (p.1<p'.1):=by
    by_cases g:p.1<p'.1
    .rw[Zp g,WH];lia
    .rw[Zo g,Y5];lia
   rwa [z] at h
structure RowAt (h:Heap)(v:Value)(r:Jy)(a:Addr)(o:Obj)(us:Yf)(n:Nat):Prop where
 isv:v=.ref a
 get:h.get? a=some o
 cls:o.cls=.type "tuple"
 dat:o.data=.seq us.toArray n
 prs:WJ h us r
def CN (ok:qK P w H h)(g:Is H (rD r) x)(j:ju x v):∃a o l n,RowAt h v r a o l n:=by
 obtain⟨a,J,rfl,m,c⟩:=g;obtain rfl:=j;obtain⟨_,its,e,o,q,t,n,y⟩:=(ok a _ m);refine⟨a,o,its,n,rfl,q,t,y,?_,λi p hp=>?_⟩
 .have K:=c.length;have L:=e.length
  simp_all
 .obtain⟨x,z,B⟩:=c.get (by rw[Zv,hp];rfl);obtain⟨u,M,C⟩:=e.get z;obtain⟨b,rfl,E⟩:=ma.mp B;obtain rfl:=C;obtain⟨_,f,F,N,O,Q,R,S⟩:=(ok b _ E);obtain⟨T,U,rfl,G,I⟩:=Cj F;obtain⟨X,rfl⟩:=(G);obtain⟨Y,rfl⟩:=(I)
  simp_all
theorem Gd (I:A.units+4<cLine){f:Bool}{E:Ya}{Q:Bool->YC}:∀{r g:Jy} {e b:Yf} i,WJ s.heap e r->WJ s.heap b g ->
 f=decide (r.length<g.length)->Q (j3 r g) s->W.KatLex prog w A false f Q (e.zip b) i s
 | [],[],e,b,i,q,q',hf,h=>by
  obtain rfl:e=[]:=Jo.mp q.1;refine W.kat_nil ?_;rw[hf];exact h
 | [],p::g,e,b,i,q,q',hf,h=>by
  obtain rfl:e=[]:=Jo.mp q.1;refine W.kat_nil ?_;rw[hf,Zp ()];exact h
 |p::r,[],e,b,i,q,q',hf,h=>by
  obtain rfl:b=[]:=Jo.mp q'.1;rw[List.zip_nil_right];refine W.kat_nil ?_;rw[hf,Zo ()];exact h
 |p::r,p'::g,e,b,i,q,q',hf,h=>by
  obtain⟨a,o,n,t,u,j,m,x,y⟩:=q.2 0 p rfl;obtain⟨B,J,K,t',C,l,F,G,H⟩:=q'.2 0 p' rfl;cases e with
  |nil=>exact J6 j
  |cons v e =>
   cases b with
   |nil=>exact J6 l
   |cons L b =>
    have j:some v=some (Value.ref a):=j;have l:some L=some (Value.ref B):=l;obtain rfl:=Zqi j;obtain rfl:=Zqi l;have M:Reads s.heap (.ref a) (pD p) _:=.tuple m x y (.cons (.int p.1 t) (.cons (.int p.2 u) .nil));have R2:Reads s.heap (.ref B) (pD p') _:=.tuple F G H (.cons (.int p'.1 t') (.cons (.int p'.2 C) .nil));have P:∀z:Int×Int,(pD z).depth=1:=λz=>by
     rfl
    refine W.kat_cons (PySem.SeqAt.eqAt_reads _ _ A s _ _ _ _ M R2 rfl rfl () prog w _ _ ?_);rw[KW] at h;by_cases c:p=p'
    .subst c;rw[Ou (C7 p)];rw[Zd rfl] at h;refine W.kat_yes (Gd I (E:=E) (i+1) ⟨by have:=q.1;simp_all,λi z hz=>q.2 (i+1) z hz⟩ ⟨by have:=q'.1;simp_all,λi z hz=>q'.2 (i+1) z hz⟩ () h)
    .rw[Ze c] at h;have ne:pD p≠pD p':=λz=>c (by
      grind[pD])
     rw[Ot (C7 p) (C7 p') ne];have N:IntsAre (#[Value.int p.1 t,Value.int p.2 u]:Yn).toList [p.1,p.2]:=.cons _ _ (.cons _ _ .nil);have O:IntsAre (#[Value.int p'.1 t',Value.int p'.2 C]:Yn).toList [p'.1,p'.2]:=.cons _ _ (.cons _ _ .nil);refine W.kat_one _ _ (HT.lt_tupInts ⟨o,m,x,n,y⟩ ⟨J,F,G,K,H⟩ N O () ?_);have z:HT.lexLt [p.1,p.2] [p'.1,p'.2]=jT p p':=by
      grind[jT,HT.lexLt_cons,HT.lexLt_nil_nil]
     rwa [z]
def Ge {P:Program}{H:Hp}{rs:Jz}{J:YE}{c:Yf}(S:A.units+4<cLine)(ok:qK P w H s.heap)(K:qh H (rs.map rD) J)(L:js J c)(e:∀r∈rs,r ≠ [])(h2:2<=c.length):
 wg prog w A s c λi j=>j3 (rs.getD i []) (rs.getD j []):=by
 have U:=K.length;have l2:=L.length;rw[Zql] at U;have at_:∀(i:Nat) r,rs[i]? = some r->∃v a o l n,c[i]? = some v/\RowAt s.heap v r a o l n:=λi r g=>by
  obtain⟨x,X,M⟩:=K.get (i:=i) (d:=rD r) (by rw[Zv,g];rfl);obtain⟨v,m,Y⟩:=L.get X;obtain⟨a,o,l,n,R⟩:=CN ok M Y;exact⟨v,a,o,l,n,m,R⟩
 have f:∀c (rs:Jz),c.length=rs.length->(∀r∈rs,r ≠ [])->(∀(i:Nat) r,rs[i]? = some r->∃v a o l n,c[i]? = some v/\RowAt s.heap v r a o l n)->∃fs,W.KatTups s.heap c fs/\fs.length=c.length/\∀v∈fs,∃b q,v=Value.ref b/\s.heap.get? b=some q/\q.cls=.type "tuple" := by
  intro c
  induction c with
  |nil=>exact λ_ _ _ _=>⟨[],.nil,rfl,λv m=>nomatch m⟩
  |cons v c Z =>
   intro rs N e B;cases rs with
   |nil=>simp at N
   |cons r rs =>
    obtain⟨O,a,o,l,n,C,R⟩:=B 0 r rfl;have C:some v=some O:=C;obtain rfl:=Zqi C;obtain⟨fs,k1,k2,k3⟩:=Z rs (by simpa using N) (λr g=>e r (Zqm _ g)) λi r g=>B (i+1) r g;cases r with
    |nil=>exact Zn rfl (e [] Zqs)
    |cons p r =>
     obtain⟨b,q,nb,t,u,G,I,g3,g4⟩:=R.prs.2 0 p rfl;obtain rfl:v=Value.ref a:=R.isv;refine⟨.ref b::fs,.cons R.get R.cls R.dat (by simpa using G) k1,by simp[k2],λz hz=>?_⟩;rcases Us.mp hz with y|y
     .exact⟨b,q,y,I,g3⟩
     .exact k3 z y
 obtain⟨fs,k1,k2,k3⟩:=f c rs () e at_;refine⟨tuples' (Value.type "tuple" != Value.type "tuple"),λE Q h=>W.kat_kind (T:=Value.type "tuple") k1 () (λv m=>?_) rfl h,λi j M hj E Q h=>?_⟩
 .obtain⟨b,q,rfl,G,I⟩:=k3 v m;rw[<- I];exact(W.Looks.ld G).andThen .now
 .obtain⟨r,g⟩:∃r,rs[i]? = some r:=by grind
  obtain⟨r',hr'⟩:∃r,rs[j]? = some r:=⟨_,Zqg ()⟩;obtain⟨v,a,o,l,n,C,R⟩:=at_ i r g;obtain⟨O,a',o',us',n',f1,F⟩:=at_ j r' hr';dsimp only at h;rw[Qf g,Qf hr'] at h;show YJ prog w A (keyLt' _ (jD c i) (jD c j)) Q E s;unfold jD;rw[Qf C,Qf f1,R.isv,F.isv];refine W.kat_lt R.get R.dat F.get F.dat ?_;exact Gd S (E:=E) 0 R.prs F.prs (by rw[Zm,Zm,R.prs.1,F.prs.1]) h
end
section
variable {X:Cx}{tg iter elt c:Expr}{scope:Scope}{pos:Pos}{wi:TI}{g:TG}{te:TE}{tt:TT}
def Gf (N)(cap)(p:X.calm=true)(l:QP scope X.env N X.N cap=true)(r:PI X tg iter wi)(t:∀a C s H f,PG (JJ X scope N a C s H f) tg g)(u:∀a C s H f,PT (JJ X scope N a C s H f) c tt)(v:∀a C s H f,PE (JJ X scope N a C s H f) elt te)
 (hs:∀x,foldedSetIterable iter X.env x=pure x) {use:Option (Value->Sem Unit)} {R:Ya} {i:Pos} {Y:Yb} {s:Shared} {Z: St} {H:Hp} {Q:VK} (I:Inv X Y Z H s) (h:XT cap wi g tt te Z H Q) (m:XU X Y Z Q use R):
 YI X (comprehension (.ListComp elt [⟨tg,iter,[c],0⟩] scope pos) scope X.env i (newList []) false (eval iter X.env) use) R X.xe s:=
 Fi (test:=λenv R Q s=>YI X (isTrue c env (eval c env)) Q (notedBy (model X.prog X.w) X.A env λe s'=>R (.error e) s') s) N (λI j n h=>W.kct_loop I j n h)
  (λa C s H f _ _ _ _ _ _ _ _ o I q k=>Zc (u a C s H f _ _ _ _ _ I q) (λb w z=>by obtain⟨y,A,B⟩:=z;exact k b w y A B) λe s' E=>Zc E (λ_ F z=>o _ _ z) λ_ _ z=>o _ _ z) cap p l r t (λa C s H f _=>v a C s H f) hs I h m
def OV (N)(cap)(f:X.calm=true)(e:QP scope X.env N X.N cap=true)(i:PI X tg iter wi)(j:∀a C s H b,PG (JJ X scope N a C s H b) tg g)(l:∀a C s H b,PT (JJ X scope N a C s H b) c tt)(m:∀a C s H b,PE (JJ X scope N a C s H b) elt te)
 (hs:∀x,foldedSetIterable iter X.env x=pure x:=by intro _;rfl):PE X (.ListComp elt [⟨tg,iter,[c],0⟩] scope pos) (XT cap wi g tt te):=λY s Z H Q I h=>Gf N cap f e i j l m hs I h Fh
end
theorem OW {L:List (Addr×HO)}{b:Addr}{u:HO}(h:L.lookup b=some u):(b,u)∈L:=by
 induction L with
 |nil=>exact J6 h
 |cons p r a =>
  grind
def qC (H:Hp)(L:List (Addr×HO)):Hp:=λb=>match L.lookup b with
 |some o=>some o
 |none=>H b
def AB (h:∀p∈L,p.1≠b):qC H L b=H b:=by
 grind[qC,List.lookup_cons]
def Gg (b:(L.map (·.1)).Nodup)(h:(a,o)∈L):qC H L a=some o:=by
 unfold qC;have e:L.lookup a=some o:=by
  induction L with
  |nil=>cases h
  |cons p r c =>
   grind
 rw[e]
def Gh (h:qC H L b=some u):(b,u)∈L\/((∀p∈L,p.1≠b)/\H b=some u):=by
 grind[qC,Zqi,OW]
def Inv.laidMany (I:Inv X Y Z H s)(k:∀b u,s.heap.get? b=some u->h'.get? b=some u)(hp:∀p∈L,s.heap.objs.size<=p.1)
 (ok:∀p∈L,xZ X.prog X.w (qC H L) h' p.1 p.2):Inv X Y Z (qC H L) { s with heap:=h',toks:=t' }:=by
 have a:∀b u,s.heap.get? b=some u->∀p∈L,p.1≠b:=λb u e p c z=>Zn (Zg (Zk e) (by rw[<- z];exact hp p c)) (Zy _);have f:∀b u,H b=some u->qC H L b=some u:=λb u e=>by
  rwa [AB λp c z=>Zn (Zg (I.hok.lt e) (by rw[<- z];exact hp p c)) (Zy _)]
 refine I.un ⟨(),λb u q _ _ _=>⟨u.slots,k b u q⟩,λb u q n _=>by rwa [AB (a b u q)],(),(),(),λb ps q=>⟨#[],()⟩⟩ λb u e=>?_;rcases Gh e with z|⟨z,e'⟩
 .exact ok (b,u) z
 .exact(I.hok b u e').stay () () ()
theorem Gi:∀{L:Yj},(∀i∈L,Is H (f i) (g i))->qh H (L.map f) (L.map g)
 | [],_=>by rfl
 |i::L,h=>⟨_,_,rfl,(),Gi ()⟩
theorem Xr:∀{L:Yj},(∀i∈L,ju (g i) (u i))->js (L.map g) (L.map u)
 | [],_=>.nil
 |i::L,h=>.cons () (Xr ())
def Pl.mem (p:Pl n jx n)(h:i∈jx.toList):i<n:=by
 have q:=(Jp.mp p.perm).mem_iff.mp h
 simp_all
def Pl.len (p:Pl n jx k):jx.toList.length=n:=by rw[Ui,p.size]
section
variable {X:Cx}
def OX (O:X.A.units+64<cLine):qa X (.builtin "sorted") (λt H Q=>∃a ys rs,t=[.ref a]/\Rd H a (.lst ys)/\qh H (rs.map rD) ys/\(∀r∈rs,r ≠ [])/\rs.length<1000 /\
 ∀l (ix:Yj),H l=none->(∀i∈ix,i<rs.length)->ix.map (λi=>rs.getD i [])=JL j3 rs->Q (.ref l) (upd H l (.lst (ix.map λi=>ys.getD i .non)))):=by
 intro Y s Z H t P Q I z h;obtain⟨a,ys,rs,rfl,A,g,j,B,q⟩:=h;obtain⟨u,rfl,C⟩:=Ka z;obtain rfl:u=Value.ref a:=C;obtain⟨its,m,pl,hz⟩:=I.list (.inl A);have E:=g.length;have R:=m.length;rw[Zql] at E;have F:its.length=rs.length:=()
 have G:∀b o,s.heap.get? b=some o->((s.heap.push (seqObj "list" #[] 0)).update s.heap.objs.size (Obj.mapSeq (· ++ its.toArray))).get? b=some o:=λb o e=>by
  rw[Heap.get?_update_ne _ _ _ _ (Zi (Zk e)),Heap.get?_push_ne _ _ _ (Zi (Zk e))];exact e
 refine FW (ya.wk λi=>rs.getD i []) (collect_list pl.isList ⟨(),λh' w J=>Ge () (I.hok.kept λb o e=>w b o (G b o e)) g m j J,λf h' l p u w S n=>?_⟩ ());obtain⟨e,n⟩:=n;rw[F] at p u;have c:s.heap.objs.size<=l:=by
  grind[Heap.size_update,size_push']
 have at_:∀i∈f.toList,∃x v,ys[i]? = some x/\its[i]? = some v/\ju x v/\Is H (rD (rs.getD i [])) x:=λi K=>by
  have T:=p.mem K;obtain⟨x,y,L⟩:=g.get (i:=i) (d:=rD (rs.getD i [])) (by
   grind[List.getElem?_map,Zqg,Qf])
  obtain⟨v,M,N⟩:=m.get y;exact⟨x,v,y,M,N,L⟩
 refine⟨.ref l,upd H l (.lst (f.toList.map λi=>ys.getD i .non)),I.laid () c ⟨?_,f.toList.map (jD its),e,?_,?_⟩,rfl,q l f.toList (I.hok.fresh c) () (CM ya p u)⟩
 .rw[Zql,p.len];lia
 .grind[jD,Xr,Qf]
 .rw[n]
  congr 3
  apply Vj;simp
def Wm (a d:Addr):HO:=.ext λh=>h.IsItemsView a d
def OY:r3 X "dict.items" (λx c H Q=>∃d a,x=.ref d/\c=[]/\H d=some (.dK a)/\∀p,H p=none->Q (.ref p) (upd H p (Wm p d))):=by
 intro Y s Z H x c v m Q I f g h;obtain⟨d,a,rfl,rfl,i,q⟩:=h;obtain rfl:=f;obtain rfl:=zy g;obtain⟨z,lo,ws,j,dd⟩:=Cv I.hok i;exact call_meetsIn PySem.F.slot_dict_items dd.typeIs PySem.F.entry_dict_items (PySem.F.args_dict_items_1 _) (meets_dict_items (Qx X.prog X.w) d lo) ⟨⟨ws,dd⟩,⟨.ref s.heap.objs.size,upd H s.heap.objs.size (Wm s.heap.objs.size d),I.laid (λb o e=>Zq _ e) (Zf _) (⟨⟨_,Zr _ rfl,rfl,rfl⟩,⟨_,Zr _ rfl⟩,λn t z l=>have ⟨o,e,r⟩:=z;⟨o,l o e,r⟩⟩),rfl,q _ (I.hok.fresh (Zf _))⟩⟩
def OZ (hc:X.calm=true):qa X (.builtin "sorted") (λxs H Q=>∃j d r,xs=[.ref j]/\H j=some (Wm j d)/\H d=some (.dK (xy r))/\r ≠ []/\r.length<1000 /\
 ∀l L,(∀p∈L,H p.1=none)->(L.map (·.1)).Nodup->(∀G,Is (qC G L) (.list ((JL jT r).map pD)) (.ref l))->Q (.ref l) (qC H L)):=by
 intro Y s Z H xs us Q I rv h;obtain⟨j,d,r,rfl,hv,hd,R,h64,q⟩:=h;obtain⟨u,rfl,ru⟩:=Ka rv;obtain rfl:u=Value.ref j:=ru;obtain⟨v,_,_⟩:=(show xZ X.prog X.w H s.heap j (Wm j d) from I.hok j _ hv);obtain⟨z,lo,ws,F,od,es,ep,d1,d2,d3,d4,d5,d6⟩:=Cv I.hok hd;have lk:=F.length;have lr:(xy r).length=r.length:=Zql _;have S:s.heap.DictAt (Qx X.prog X.w) d ws ep:=⟨od,es,d1,d2,d3,d4,d5,d6⟩;refine FW (wC.wk λi=>r.getD i (0,0)) (W.kdx_collect (knd:=Qx X.prog X.w) (I.ok.hd hc) v S (by rw[<- lk,lr];exact QQ ()) λh1 tk c T la G=>?_);have U:(c.map Value.ref).length=r.length:=by rw[Zql];lia
 have pa:∀h',(∀b o,h1.get? b=some o->h'.get? b=some o)->WJ h' (c.map Value.ref) r:=λh' w=>by
  refine⟨U,λi p hp=>?_⟩;have f:i<c.length:=by
   have:=(Jc.mp hp).1;lia
  obtain⟨A,k,x,g1,g2,g3⟩:=G.pairs i c[i] ();have kv:KV (xy r) ws:=F;have hk:(xy r)[i]? = some (Ue p.1,V.int p.2):=by unfold xy;rw[Zv,hp];rfl
  have J:∀{l1:List (jC×V)} {l2:List (jC×Value)} {i:Nat} {a:jC×V} {b:jC×Value},KV l1 l2->l1[i]? = some a->l2[i]? = some b->a.1=b.1/\ju a.2 b.2:=by
   intro l1 l2 i a b K;unfold KV at K
   induction K generalizing i with
   |nil=>intro e;simp at e
   |cons hh tt ih =>
    cases i with
    |zero =>
     intro n B;simp at n B;subst n B;exact hh
    |succ i =>
     intro n B;exact ih (by simpa using n) (by simpa using B)
  obtain⟨b1,b2⟩:=J kv hk g1;have b1:(Ue p.1:jC)=k:=b1;subst b1;obtain⟨t1,rfl⟩:=(show ∃t,x=Value.int p.2 t from b2);obtain⟨t0,rfl⟩:∃t,A=Value.int p.1 t:=by
   rcases KJ (show W8 (Ue p.1) A=true from g2) with ⟨i0,t,n,B⟩|⟨x0,t,n,B⟩
   .cases n;exact⟨t,B⟩
   .cases n
  exact⟨c[i],_,_,t0,t1,by rw[Zv,Zqg f];rfl,w _ _ g3,rfl,rfl⟩
 refine⟨(),λh' w h2=>OU (pa h' w) h2,λjx h' l p u w hl gl=>?_⟩;obtain⟨e,gl⟩:=gl;rw[U] at p u;have kk:∀b o,s.heap.get? b=some o->h'.get? b=some o:=λb o e=>w b o (T b o e);have M:∀a∈c,s.heap.objs.size<a:=G.above;have N:∀a∈c,a<l:=λa ha=>Zg (G.there ha) hl;have szl:s.heap.objs.size<=l:=by
  cases c with
  |nil=>exact Zn (Jo.mp (by rw[<- U];rfl)) R
  |cons a as'=>exact Zz (Uf (M a Zqs) (N a Zqs))
 obtain⟨L,hL⟩:∃L:List (Addr×HO),L=(l,.lst (jx.toList.map λi=>V.ref (c.getD i 0)))::(c.zip r).map λz=>(z.1,HO.tup [.int z.2.1,.int z.2.2]):=⟨_,rfl⟩;have g:L.map (·.1)=l::c:=by
  rw[hL,Zl,Zw];show l::(c.zip r).map (λz=>z.1)=_;rw[List.map_fst_zip ()]
 have nd:(L.map (·.1)).Nodup:=by
  rw[g];refine Jl.mpr ⟨λm=>Zy _ (N l m),?_⟩;exact G.rise.imp λhlt=>Zi hlt
 have O:∀p∈L,s.heap.objs.size<=p.1:=λp hp=>by
  have:p.1∈L.map (·.1):=Ja.mpr ⟨p,hp,rfl⟩;rw[g] at this;rcases Us.mp this with z|z
  .rw[z];exact szl
  .exact Zz (M _ z)
 have C:∀G (i:Nat) p,r[i]? = some p->qC G L (c.getD i 0)=some (.tup [.int p.1,.int p.2]):=λG i p hp=>by
  have f:i<c.length:=by
   have:=(Jc.mp hp).1;lia
  refine Gg nd ?_;rw[hL];refine Zqm _ (Ja.mpr ⟨(c[i],p),?_,by rw[Qf (Zqg f)]⟩);refine Ug (i:=i) ?_;rw[VR];exact⟨Zqg f,hp⟩
 refine⟨.ref l,qC H L,I.laidMany (t':=tk) kk O λy hy=>?_,rfl,q l L (λp hp=>I.hok.fresh (O p hp)) nd λG'=>?_⟩
 .rw[hL] at hy;rcases Us.mp hy with z'|z'
  .rw[z'];refine⟨?_,jx.toList.map (jD (c.map Value.ref)),e,?_,?_⟩
   .rw[Zql,p.len];exact QQ ()
   .refine Xr λi f=>?_;have hn:=p.mem f;have P:i<c.length:=()
    unfold jD;rw[Qf (Zqg P),Qf (x:=Value.ref c[i]) (by rw[Zv,Zqg P];rfl)];rfl
   .rw[gl]
    congr 3
    apply Vj;simp
  .obtain⟨⟨a,p'⟩,hm,rfl⟩:=Ja.mp z';obtain⟨i,f⟩:=Jm.mp hm;rw[VR] at f;obtain⟨i1,i2⟩:=f;obtain⟨a',o',n',t',u',f1,f2,f3,f4⟩:=(pa h' w).2 i p' i2;rw[Zv,i1] at f1;cases f1;obtain⟨A,k,x,g1,g2,g3⟩:=G.pairs i a i1;have E:=w _ _ g3;rw[E] at f2;obtain rfl:=Zqi f2;exact⟨⟨(by show 2<=sizeLine;decide),_,E,rfl⟩,[.int p'.1 t',.int p'.2 u'],.cons ⟨t',rfl⟩ (.cons ⟨u',rfl⟩ .nil),_,E,rfl,n',f4⟩
 .rw[xD];refine⟨l,_,rfl,Gg nd (by rw[hL];exact Zqs),?_⟩;rw[<- CM wC p u,Zw];refine Gi λi f=>?_;have hn:=p.mem f;refine ma.mpr ⟨c.getD i 0,rfl,?_⟩;have:=C G' i (r.getD i (0,0)) (by rw[Qf (Zqg hn)];exact Zqg hn);exact this
end
def qF (r:Jy)(t w:Int):Jy:=if(r.any λp=>decide (p.1=t))=true then r.map (λp=>if p.1=t then(p.1,w) else p) else r++[(t,w)]
def Pa:decide ((Ue a:jC)=Ue b)=decide (a=b):=()
def Pb (r)(t w):q0 (xy r) (Ue t) (V.int w)=xy (qF r t w):=by
 have e:((xy r).any λa=>decide (a.1=Ue t))=r.any λp=>decide (p.1=t):=by
  unfold xy;rw[List.any_map]
  congr 1
  funext p
  exact Pa
 unfold q0 qF;rw[e]
 split
 .unfold xy;rw[Zw,Zw];apply UT;intro p _;by_cases c:p.1=t
  .simp[c]
  .simp[c]
 .unfold xy;rw[Uc];rfl
theorem Y6 (p)(r)(t):J8 (p::r) t=match J8 r t with|some w=>some w|none=>if p.1=t then some p.2 else none:=rfl
def Pc (r)(t w j):J8 (r.map λp=>if p.1=t then(p.1,w) else p) j=(J8 r j).map λx=>if j=t then w else x:=by
 induction r with
 |nil=>rfl
 |cons p r a =>
  grind[List.map_cons,Y6,Option.map]
def Pd (r)(t):(r.any λp=>decide (p.1=t))=(J8 r t).isSome:=by
 cases q:J8 r t with
 |none =>
  grind[Option.isSome_none,List.any_eq_false,Fw]
 |some w =>
  rw[Option.isSome_some,U0];exact⟨_,Qj q,()⟩
def Pe (r)(t w j):J8 (qF r t w) j=if j=t then some w else J8 r j:=by
 unfold qF;rw[Pd];by_cases a:(J8 r t).isSome=true
 .rw[Zd a,Pc];by_cases e:j=t
  .rw[Zd e,e];have ⟨x,b⟩:=Js.mp a;rw[b];simp
  simp_all
 .rw[Ze a,O2];show(match (if t=j then some w else none) with|some w=>some w|none=>J8 r j)=_
  grind
def Pf (r)(t w):(qF r t w).map (·.1)=if(r.any λp=>decide (p.1=t))=true then r.map (·.1) else r.map (·.1)++[t]:=by
 grind[qF,List.map_map,List.map_append,List.map_congr_left]
def Pg (h:j7 r):j7 (qF r t w):=by
 unfold j7;rw[Pf]
 split
 .exact h
 .rename_i c;unfold j7 at h;rw[List.nodup_append];refine⟨h,(),λa g b f=>?_⟩;simp at f;subst f;rintro rfl;obtain⟨p,hp,e⟩:=Ja.mp g;exact c (U0.mpr ⟨p,hp,by simp[e]⟩)
def Ph (r)(t w):(qF r t w).length<=r.length+1:=by
 grind[qF,Zql,List.length_append]
theorem Gj:∀r b,WC (xy b) (xy r)=xy (r.foldl (λa p=>qF a p.1 p.2) b)
 | [],b=>rfl
 |p::r,b=>by
  have e:WC (xy b) (xy (p::r))=WC (q0 (xy b) (Ue p.1) (V.int p.2)) (xy r):=rfl;rw[e,Pb,Gj r];rfl
theorem Gk:∀r b,j7 (b++r)->r.foldl (λa p=>qF a p.1 p.2) b=b++r
 | [],b,_=>by simp
 |p::r,b,h=>by
  have c:(b.any λq=>decide (q.1=p.1))=false:=by
   grind[j7,List.any_eq_false,List.map_append,List.nodup_append]
  have e:qF b p.1 p.2=b++[p]:=by
   unfold qF;rw[c];simp
  rw[Vh,e,Gk r (b++[p]) (),Uh];rfl
def jw:Option Int->Option Int->Option Int
 |none,b=>b
 |some x,none=>some x
 |some x,some y=>some (if x > y then x else y)
def KY (a:Jy)(p:Int×Int):Jy:=qF a p.1 (if(J8 a p.1).getD p.2 > p.2 then(J8 a p.1).getD p.2 else p.2)
def Qo (r o:Jy):Jy:=o.foldl KY r
def Pi (acc)(p)(t):J8 (KY acc p) t=if t=p.1 then jw (J8 acc t) (some p.2) else J8 acc t:=by
 unfold KY;rw[Pe];by_cases e:t=p.1
 .rw[Zd e,Zd e,e];cases J8 acc p.1 with
  |none=>simp[jw]
  |some x=>simp[jw]
 simp_all
theorem AC (t):∀o r,j7 o->J8 (Qo r o) t=jw (J8 r t) (J8 o t)
 | [],r,_=>by
  show J8 r t=jw (J8 r t) none;cases J8 r t<;>rfl
 |p::o,r,h=>by
  have ⟨a,b⟩:=Jl.mp (h);have e:Qo r (p::o)=Qo (KY r p) o:=rfl;rw[e,AC t o _ b,Pi,Y6];by_cases c:t=p.1
  .have n:J8 o t=none:=by
    cases q:J8 o t with
    |none=>rfl
    |some w=>exact Zn (Ja.mpr ⟨_,Qj q,c⟩) a
   rw[Zd c,n,Zd c.symm];cases jw (J8 r t) (some p.2)<;>rfl
  grind
theorem AD:∀o r,j7 r->j7 (Qo r o)
 | [],r,h=>h
 |p::o,r,h=>AD o _ (Pg h)
theorem CO:∀o r,(Qo r o).length<=r.length+o.length
 | [],r=>Zf _
 |p::o,r=>by
  have a:=CO o (KY r p);have b:(KY r p).length<=r.length+1:=Ph _ _ _;show(Qo (KY r p) o).length<=_
  grind
def Gm (h:r ≠ [])(b:j7 o):Qo r o ≠ []:=by
 intro z;cases r with
 |nil=>exact h rfl
 |cons p r =>
  have q:=AC p.1 o (p::r) b;rw[z] at q;have:∃x,J8 (p::r) p.1=some x:=by
   grind[Y6]
  obtain⟨x,c⟩:=this;rw[c] at q;cases a:J8 o p.1 with
  |none=>rw[a] at q;exact J6 q
  |some y=>rw[a] at q;exact J6 q
def Gn (h:j7 r):(t,w)∈r↔J8 r t=some w:=⟨λm=>h.look m,Qj⟩
theorem WK {α: Type}{ltb:α -> α -> Bool}(T:Tot ltb):∀{a b:List α},a.Pairwise (λx y=>ltb x y=true)->b.Pairwise (λx y=>ltb x y=true)->(∀x,x∈a↔x∈b)->a=b
 | [],[],_,_,_=>rfl
 | [],y::b,_,_,h=>by
  cases ((h y).mpr Zqs)
 |x::a,[],_,_,h=>by
  cases ((h x).mp Zqs)
 |x::a,y::b,ha,hb,h=>by
  obtain⟨f,g⟩:=Ji.mp ha;obtain⟨c,i⟩:=Ji.mp hb;have e:x=y:=by
   rcases Us.mp ((h x).mp Zqs) with z|z
   .exact z
   .rcases Us.mp ((h y).mpr Zqs) with u|u
    .exact u.symm
    .have:=T.asy _ _ (c x z)
     simp_all
  subst e
  congr 1
  refine WK T g i λz=>⟨λhz=>?_,λhz=>?_⟩
  .rcases Us.mp ((h z).mp (Zqm _ hz)) with u|u
   .rw[u] at hz;have:=f x hz;rw[T.irr] at this;exact JB this
   lia
  .rcases Us.mp ((h z).mpr (Zqm _ hz)) with u|u
   .rw[u] at hz;have:=c x hz;rw[T.irr] at this;exact JB this
   lia
theorem Go {α β: Type}(f:α -> β):∀{l:List α},(l.map f).Nodup->l.Nodup
 | [],_=>VB
 |x::r,h=>by
  rw[Zl,List.nodup_cons] at h;exact Jl.mpr ⟨(),Go f h.2⟩
def Pj (h:j7 r):(JL jT r).Pairwise λx y=>jT x y=true:=by
 refine(List.Pairwise.and (WI wC r) ((Qr r).nodup_iff.mpr (Go (λp:Int×Int=>p.1) h))).imp λ{x y} z=>?_;cases q:jT x y with
 |true=>rfl
 |false=>exact Zn (wC.tot _ _ q z.1) z.2
end L2
namespace L2.DL
def Pk {c:Prop}{_:Decidable c}{α: Type}{a z:α}(h:(if c then some a else none)=some z):c/\a=z:=()
inductive D where
 |non|bl (b:Bool)|int (i:Int)|str (x:Str)|ty (n:String)|scr (ns:Yh)
 |tup (ds:List D)|lst (ds:List D)|dct (ks:List jC) (ds:List D)|ins (c:Str) (fs:Yk) (ds:List D)
 |exc (c:Str)|ucl (c:Str)
 |adr (a:Addr)|dcf (ks:List jC) (ds:List D)
 |pin (a:Addr) (d:D)
abbrev _root_.YG:=List D
abbrev _root_.YH:=Option D
inductive Res (α: Type) where
 |ok (a:α)|ex (c:Str) (fs:YG)|no
noncomputable def Res.bind {α β: Type}(r:Res α)(g:α -> Res β):Res β:= match r with
 | .ok a=>g a
 | .ex c fs=>.ex c fs
 | .no=>.no
def Res.need {α: Type}(r:Res α)(p:α -> Prop)(q:Str->YG->Prop):Prop:=match r with
 | .ok a=>p a
 | .ex c fs=>q c fs
 | .no=>False
@[simp]theorem jt {α β: Type}(a)(g:α -> Res β):(Res.ok a).bind g=g a:=rfl
@[simp]def vv {α β: Type}(c)(fs)(g:α -> Res β):(Res.ex c fs:Res α).bind g=.ex c fs:=rfl
@[simp]def vu {α β: Type}(g:α -> Res β):(Res.no:Res α).bind g=.no:=rfl
def ja {α β: Type}{r:Res α}{g:α -> Res β}{p:β -> Prop}(h:(r.bind g).need p q):r.need (λa=>(g a).need p q) q:=by
 cases r<;>exact h
def Res.need.mono {α: Type}{r:Res α}{p b: α -> Prop}(h:r.need p q)(hp:∀a,p a->b a)(e:∀c fs,q c fs->q' c fs):r.need b q':=by
 cases r with
 |ok a=>exact hp a h
 |ex c fs=>exact e c fs h
 |no=>exact h
def Res.need.monoE {α: Type}{r:Res α}{p b: α -> Prop}(h:r.need p q)(hp:∀a,r=.ok a->p a->b a)(e:∀c fs,q c fs->q' c fs):r.need b q':=by
 cases r with
 |ok a=>exact hp a rfl h
 |ex c fs=>exact e c fs h
 |no=>exact h
def hJ (C x:Addr):HO:=.ext λh=>∃o,h.get? x=some o/\o.cls=.ref C
def yi (_:W.Frag)(H:Hp)(a:Addr)(b:YE):Prop:=H a=some (.tup b)
def yi.same {K:W.Frag}{H b:Hp}{a:Addr}{c:YE}(e:jk H b)(h:yi K H a c):yi K b a c:=e _ _ h
def yi.of {K:W.Frag}{H:Hp}{a:Addr}{b:YE}(h:H a=some (.tup b)):yi K H a b:=h
def yi.sq {K:W.Frag}{H:Hp}{a:Addr}{b:YE}(h:yi K H a b):y9 K H a b:=y9.of h
def xl (_:W.Frag)(H:Hp)(a:Addr)(b:YE):Prop:=Rd H a (.lst b)
def xl.same {K:W.Frag}{H b:Hp}{a:Addr}{c:YE}(e:jk H b)(h:xl K H a c):xl K b a c:=h.imp (λq=>e _ _ q) λ⟨o,q⟩=>⟨o,e _ _ q⟩
def xl.of {K:W.Frag}{H:Hp}{a:Addr}{b:YE}(h:H a=some (.lst b)):xl K H a b:=.inl h
def xl.sq {K:W.Frag}{H:Hp}{a:Addr}{b:YE}(h:xl K H a b):qy K H a b:=.inl h
section
variable (K:W.Frag)
mutual
def jf (H:Hp):D->V->Prop
 | .non,v=>v=.non
 | .bl b,v=>v=.bl b
 | .int i,v=>v=.int i
 | .str x,v=>v=.str x
 | .ty n,v=>v=.ty n
 | .scr ns,v=>∃a,v=.ref a/\qy K H a (ns.map V.int)
 | .tup ds,v=>∃a e,v=.ref a/\yi K H a e/\jd H ds e
 | .lst ds,v=>∃a e,v=.ref a/\xl K H a e/\jd H ds e
 | .dct ks ds,v=>∃a e,v=.ref a/\H a=some (.dK (ks.zip e))/\ks.length=e.length/\jd H ds e
 | .ins c fs ds,v=>∃a C f e,v=.ref a/\W.nsIn K mainGlobals c=some (some (.ref C))/\H a=some (.ins C f (fs.zip e))/\fs.length=e.length/\jd H ds e
 | .exc c,v=>∃a C,v=.ref a/\W.nsIn K mainGlobals c=some (some (.ref C))/\H a=some (hJ C a)
 | .ucl c,v=>∃C,v=.ref C/\W.nsIn K mainGlobals c=some (some (.ref C))
 | .adr a,v=>v=.ref a
 | .dcf ks ds,v=>∃a o e,v=.ref a/\H a=some (.frz o (.dK (ks.zip e)))/\ks.length=e.length/\jd H ds e
 | .pin a d,v=>v=.ref a/\jf H d v
def jd (H:Hp):YG->YE->Prop
 | [],xs=>xs=[]
 |d::ds,xs=>∃x r,xs=x::r/\jf H d x/\jd H ds r
end
end
section
variable {K:W.Frag}{H H':Hp}
def jG:jf K H .non v↔v=.non:=.rfl
def jp:jf K H (.bl b) v↔v=.bl b:=.rfl
def je:jf K H (.int i) v↔v=.int i:=.rfl
def jy:jf K H (.str x) v↔v=.str x:=.rfl
def zd:jf K H (.ty n) v↔v=.ty n:=.rfl
def qq:jf K H (.scr ns) v↔∃a,v=.ref a/\qy K H a (ns.map V.int):=.rfl
theorem jv:jf K H (.tup ds) v↔∃a b,v=.ref a/\yi K H a b/\jd K H ds b:=.rfl
theorem jm:jf K H (.lst ds) v↔∃a b,v=.ref a/\xl K H a b/\jd K H ds b:=.rfl
def jY:jf K H (.dct ks ds) v↔∃a b,v=.ref a/\H a=some (.dK (ks.zip b))/\ks.length=b.length/\jd K H ds b:=.rfl
def jX:jf K H (.ins c fs ds) v↔∃a C e b,v=.ref a/\W.nsIn K mainGlobals c=some (some (.ref C))/\H a=some (.ins C e (fs.zip b))/\fs.length=b.length/\jd K H ds b:=.rfl
def qP:jf K H (.exc c) v↔∃a C,v=.ref a/\W.nsIn K mainGlobals c=some (some (.ref C))/\H a=some (hJ C a):=.rfl
def yO:jf K H (.ucl c) v↔∃C,v=.ref C/\W.nsIn K mainGlobals c=some (some (.ref C)):=.rfl
def jL:jf K H (.adr a) v↔v=.ref a:=.rfl
def qs:jf K H (.dcf ks ds) v↔∃a o b,v=.ref a/\H a=some (.frz o (.dK (ks.zip b)))/\ks.length=b.length/\jd K H ds b:=.rfl
def qr:jf K H (.pin a d) v↔v=.ref a/\jf K H d v:=.rfl
def jd.nil_iff:jd K H [] xs↔xs=[]:=.rfl
theorem jn:jd K H (d::ds) xs↔∃x r,xs=x::r/\jf K H d x/\jd K H ds r:=.rfl
mutual
theorem jf.same (e:jk H H'):∀d v,jf K H d v->jf K H' d v
 | .non,_,h=>h
 | .bl _,_,h=>h
 | .int _,_,h=>h
 | .str _,_,h=>h
 | .ty _,_,h=>h
 | .scr _,_,h=>by
  obtain⟨a,f,g⟩:=qq.mp h;exact qq.mpr ⟨a,f,jk.seq e g⟩
 | .tup ds,_,h=>by
  obtain⟨a,b,f,g,i⟩:=jv.mp h;exact jv.mpr ⟨a,b,f,g.same e,jd.same e ds b i⟩
 | .lst ds,_,h=>by
  obtain⟨a,b,f,g,i⟩:=jm.mp h;exact jm.mpr ⟨a,b,f,g.same e,jd.same e ds b i⟩
 | .dct ks ds,_,h=>by
  obtain⟨a,b,f,g,j,i⟩:=jY.mp h;exact jY.mpr ⟨a,b,f,e _ _ g,j,jd.same e ds b i⟩
 | .ins c fs ds,_,h=>by
  obtain⟨a,C,l,b,f,m,g,j,i⟩:=jX.mp h;exact jX.mpr ⟨a,C,l,b,f,m,e _ _ g,j,jd.same e ds b i⟩
 | .exc _,_,h=>by
  obtain⟨a,C,f,g,i⟩:=qP.mp h;exact qP.mpr ⟨a,C,f,g,e _ _ i⟩
 | .ucl _,_,h=>h
 | .adr _,_,h=>h
 | .dcf ks ds,_,h=>by
  obtain⟨a,o,b,f,g,j,i⟩:=qs.mp h;exact qs.mpr ⟨a,o,b,f,e _ _ g,j,jd.same e ds b i⟩
 | .pin a d,v,h=>qr.mpr ⟨(qr.mp h).1,jf.same e d v (qr.mp h).2⟩
theorem jd.same (e:jk H H'):∀ds a,jd K H ds a->jd K H' ds a
 | [],_,h=>h
 |d::ds,_,h=>have ⟨x,r,b,c,f⟩:=jn.mp h;jn.mpr ⟨x,r,b,jf.same e d x c,jd.same e ds r f⟩
end
def jd.mk (h:jf K H d x)(r:jd K H ds xs):jd K H (d::ds) (x::xs):=jn.mpr ⟨x,xs,rfl,h,r⟩
def jd.nil:jd K H [] []:=jd.nil_iff.mpr rfl
theorem jd.length:∀{ds:YG} {a:YE},jd K H ds a->a.length=ds.length
 | [],a,h=>by simp_all [jd.nil_iff]
 |d::ds,a,h=>by
  obtain⟨x,r,rfl,_,b⟩:=h;rw[Zu,Zu,jd.length b]
theorem jd.get:∀{ds:YG} {a:YE} {i:Nat} {d:D},jd K H ds a->ds[i]? = some d->∃x,a[i]? = some x/\jf K H d x
 | [],_,_,_,_,e=>J6 e
 |d::ds,a,i,e,h,q=>by
  obtain⟨x,r,rfl,c,b⟩:=h;cases i with
  |zero=>simp_all
  |succ i=>exact jd.get (i:=i) b q
def jd.getV {ds:YG}{a:YE}{i:Nat}{x:V}(h:jd K H ds a)(q:a[i]? = some x):∃d,ds[i]? = some d/\jf K H d x:=by
 have c:=h.length;have b:i<ds.length:=();obtain⟨y,e,f⟩:=h.get (Zqg b)
 simp_all
theorem jd.append:∀{ds es:YG} {a ys:YE},jd K H ds a->jd K H es ys->jd K H (ds++es) (a++ys)
 | [],_,a,_,h,h'=>by simp_all [jd.nil_iff]
 |d::ds,_,a,_,h,h'=>by
  obtain⟨x,r,rfl,b,c⟩:=h;exact jd.mk b (jd.append c h')
def jd.snoc (h:jd K H ds xs)(h':jf K H d x):jd K H (ds++[d]) (xs++[x]):=h.append (.mk h' .nil)
theorem jd.set:∀n {ds:YG} {a:YE} {d:D} {x:V},jd K H ds a->jf K H d x->jd K H (ds.set n d) (a.set n x)
 |_,[],a,_,_,h,_=>by simp_all [jd.nil_iff]
 | 0,d::ds,a,_,_,h,q=>by
  grind[jn]
 |n+1,d::ds,a,_,_,h,q=>by
  obtain⟨x,r,rfl,b,c⟩:=h;exact jd.mk b (jd.set n c q)
theorem qd:∀(ns:Yh),jd K H (ns.map D.int) (ns.map V.int)
 | []=>.nil
 |n::ns=>.mk (je.mpr rfl) (qd ns)
theorem qx:∀{ns:Yh} {a:YE},jd K H (ns.map D.int) a->a=ns.map V.int
 | [],_,h=>jd.nil_iff.mp h
 |n::ns,a,h=>by
  obtain⟨x,r,rfl,b,c⟩:=h;rw[b,qx c];rfl
end
structure Ext (F H F' H':Hp):Prop where
 ff:jk F F'
 fh:jk F' H'
 hh:jk H H'
 new:∀a,F a=none->H a≠none->F' a=none
theorem Ext.refl (h:jk F H):Ext F H F H:=⟨.refl _,h,.refl _,λ_ e _=>e⟩
theorem Ext.trans (a:Ext F H F1 H1)(b:Ext F1 H1 F2 H2):Ext F H F2 H2:=
 ⟨a.ff.trans b.ff,b.fh,a.hh.trans b.hh,λx e n=>b.new x (a.new x e n) (by
  cases q:H x with
  |none=>exact Zn q n
  |some o=>rw[a.hh _ _ q];simp)⟩
def Qg (h:jk F H)(hp:H p=none):F p=none:=h.free hp
def qf (h:jk F H)(hp:H p=none)(o):Ext F H (upd F p o) (upd H p o):=
 ⟨Kz (h.free hp) o,λb u e=>by
  by_cases q:b=p
  .simp_all [JM]
  .rw[JF q] at e ⊢;exact h _ _ e,Kz hp o,λa e n=>by
  have q:a≠p:=by grind
  rwa [JF q]⟩
def Ext.keep (h:jk F H)(hp:H p=none)(o):Ext F H F (upd H p o):=
 ⟨.refl _,h.trans (Kz hp o),Kz hp o,λ_ e _=>e⟩
def Ext.grow (h:jk F H)(a:jk H H'):Ext F H F H':=⟨.refl _,h.trans a,a,λ_ e _=>e⟩
inductive SV where
 |val (d:D)|own (p:Bool) (d:D)
structure Bs where
 F0:Hp
 H0:Hp
 pa:Nat->Option (Addr×YE)
abbrev SD:=List (Option SV)
def yF (K:W.Frag)(F H:Hp)(l:Addr):D->Prop
 | .lst ds=>∃a,H l=some (.lst a)/\jd K F ds a
 | .dct ks ds=>∃a,H l=some (.dK (ks.zip a))/\ks.length=a.length/\jd K F ds a
 | .ins c fs ds=>∃C b a,W.nsIn K mainGlobals c=some (some (.ref C))/\H l=some (.ins C b (fs.zip a))/\fs.length=a.length/\jd K F ds a
 |_=>False
def yF.has {K:W.Frag}{F H:Hp}{l:Addr}{d:D}(h:yF K F H l d):∃o,H l=some o:=by
 cases d with
 |lst ds=>have ⟨a,e,_⟩:=h;exact⟨_,e⟩
 |dct ks ds=>have ⟨a,e,_⟩:=h;exact⟨_,e⟩
 |ins c fs ds=>have ⟨C,b,a,_,e,_⟩:=h;exact⟨_,e⟩
 |_=>exact False.elim h
def yF.ext {K:W.Frag}{F H g i:Hp}{l:Addr}{d:D}(h:yF K F H l d)(b:jk F g)(f:∀o,H l=some o->i l=some o):yF K g i l d:=by
 cases d with
 |lst ds=>have ⟨a,e,q⟩:=h;exact⟨a,f _ e,jd.same b _ _ q⟩
 |dct ks ds=>obtain⟨a,e,z,q⟩:=h;exact⟨a,f _ e,z,jd.same b _ _ q⟩
 |ins c fs ds=>obtain⟨C,j,a,k,e,z,q⟩:=h;exact⟨C,j,a,k,f _ e,z,jd.same b _ _ q⟩
 |_=>exact False.elim h
def yF.frz {K:W.Frag}{F H:Hp}{l:Addr}{d:D}{o:HO}(h:yF K F H l d)(e:H l=Option.some o)(n:F l=none):jf K (upd F l o) d (.ref l):=by
 cases d with
 |lst ds =>
  have ⟨b,a,q⟩:=h;rw[e] at a;obtain rfl:=Zqi a;exact jm.mpr ⟨l,b,rfl,.of JM,jd.same (Kz n _) _ _ q⟩
 |dct ks ds =>
  obtain⟨b,a,z,q⟩:=h;rw[e] at a;obtain rfl:=Zqi a;exact jY.mpr ⟨l,b,rfl,JM,z,jd.same (Kz n _) _ _ q⟩
 |ins c fs ds =>
  obtain⟨C,f,b,k,a,z,q⟩:=h;rw[e] at a;obtain rfl:=Zqi a;exact jX.mpr ⟨l,C,f,b,rfl,k,JM,z,jd.same (Kz n _) _ _ q⟩
 |_=>exact False.elim h
def hV (H:Hp)(l:Addr)(o:Option (Addr×YE)):Prop:=∃a,o=some (l,a)/\H l=some (.lst a)
structure RS (K:W.Frag)(B:Bs)(F H:Hp)(sd:SD)(Z: St):Prop where
 ext:Ext B.F0 B.H0 F H
 len:Z.length=sd.length
 val:∀{i:Nat} {d:D},sd[i]? = some (~~~d)->∃v,Z[i]? = some (some v)/\jf K F d v
 own:∀{i:Nat} {p:Bool} {d:D},sd[i]? = some (some (.own p d))->∃l,Z[i]? = some (some (.ref l))/\B.H0 l=none/\F l=none/\yF K F H l d/\(p=true->hV H l (B.pa i))
 apart:∀{i j:Nat} {p q:Bool} {d e:D} {l:Addr},i≠j->sd[i]? = some (some (.own p d))->sd[j]? = some (some (.own q e)) -> Z[i]? = some (some (.ref l)) -> Z[j]? ≠ some (some (.ref l))
section
variable {K:W.Frag}{B:Bs}{F H F' H':Hp}{sd:SD}{Z: St}
def hV.mono (h:hV H l o)(k:∀u,H l=some u->H' l=some u):hV H' l o:=let ⟨xs,h1,h2⟩:=h;⟨xs,h1,k _ h2⟩
def RS.step (r:RS K B F H sd Z)(e:Ext F H F' H'):RS K B F' H' sd Z where
 ext:=r.ext.trans e
 len:=r.len
 val:=λh=>let ⟨v,a,b⟩:=r.val h;⟨v,a,jf.same e.ff _ _ b⟩
 own:=λh=>by
  obtain⟨l,a,b,f,c,g⟩:=r.own h;obtain⟨o,i⟩:=c.has;exact⟨l,a,b,e.new l f (),c.ext e.ff λo q=>e.hh _ _ q,λp=>(g p).mono λu q=>e.hh _ _ q⟩
 apart:=r.apart
def Qv {α: Type}{l:List α}{a:α}(h:i≠j):(l.set i a)[j]? = l[j]?:= Zx h
def Ko {α: Type}{l:List α}{a b:α}(h:(l.set i a)[i]? = some b):b=a/\i<l.length:=()
def RS.setVal (r:RS K B F H sd Z)(h:jf K F d v):RS K B F H (sd.set i (~~~d)) (Z.set i (some v)) where
 ext:=r.ext
 len:=by rw[UG,UG,r.len]
 val:=λ{j e} q=>by
  by_cases z:i=j
  .subst z;obtain⟨a,o⟩:=Ko q;cases a;exact⟨v,UO (by rwa [r.len]),h⟩
  .rw[Qv z] at q ⊢;exact r.val q
 own:=λ{j p e} q=>by
  by_cases z:i=j
  .subst z;obtain⟨a,_⟩:=Ko q;cases a
  .rw[Qv z] at q ⊢;exact r.own q
 apart:=λ{j k s t u w l} n b c f=>by
  have g:i≠j:=λz=>by subst z;obtain⟨a,_⟩:=Ko b;cases a
  have m:i≠k:=λz=>by subst z;obtain⟨a,_⟩:=Ko c;cases a
  rw[Qv g] at b f;rw[Qv m] at c ⊢;exact r.apart n b c f
def RS.setOwn (r:RS K B F H sd Z)(u:B.H0 l=none)(v:F l=none)(h:yF K F H l d)(g:∀(j:Nat) p e,sd[j]? = some (some (SV.own p e)) -> Z[j]? ≠ some (some (.ref l))):
 RS K B F H (sd.set i (some (.own false d))) (Z.set i (some (.ref l))) where
 ext:=r.ext
 len:=by rw[UG,UG,r.len]
 val:=λ{j e} q=>by
  by_cases z:i=j
  .subst z;obtain⟨f,_⟩:=Ko q;cases f
  .rw[Qv z] at q ⊢;exact r.val q
 own:=λ{j p e} q=>by
  by_cases z:i=j
  .subst z;obtain⟨f,o⟩:=Ko q;cases f;exact⟨l,UO (by rwa [r.len]),u,v,h,λz=>by cases z⟩
  .rw[Qv z] at q ⊢;exact r.own q
 apart:=λ{j k w x y A m} n c a b=>by
  by_cases s:i=j
  .subst s;obtain⟨_,o⟩:=Ko c;rw[Qv n] at a ⊢;rw[UO (by rwa [r.len])] at b;cases b;exact g k x A a
  .rw[Qv s] at c b;by_cases t:i=k
   .subst t;obtain⟨_,o⟩:=Ko a;rw[UO (by rwa [r.len])];intro e;cases e;exact g j w y c b
   .rw[Qv t] at a ⊢;exact r.apart n c a b
def RS.chg {i:Nat}{p:Bool}{d a:D}{l:Addr}{o:HO}(r:RS K B F H sd Z)(b:sd[i]? = some (some (.own p d)))(c:Z[i]? = some (some (.ref l)))(h:yF K F (upd H l o) l a):
 RS K B F (upd H l o) (sd.set i (some (.own false a))) Z:= by
 obtain⟨O,f,v,w,_,_⟩:=r.own b;rw[c] at f;cases f;have x:i<sd.length:=by grind
 refine⟨⟨r.ext.ff,C6 o r.ext.fh w,C6 o r.ext.hh v,r.ext.new⟩,by rw[UG,r.len],λ{j e} q=>?_,λ{j p e} q=>?_,λ{j k s t P Q m} n y A C=>?_⟩
 .by_cases z:i=j
  .simp_all
  .rw[Qv z] at q;exact r.val q
 .by_cases z:i=j
  .simp_all
  .rw[Qv z] at q;obtain⟨m,E,m2,G,I,J⟩:=r.own q;have ne:m≠l:=λe=>r.apart z b q c (by rwa [<- e]);exact⟨m,E,m2,G,I.ext (.refl _) λu L=>by rwa [JF ne],λp=>(J p).mono λu L=>by rwa [JF ne]⟩
 .have g:∀{j:Nat} {p:Bool} {e:D},(sd.set i (some (.own false a)))[j]? = some (some (.own p e))->∃M N,sd[j]? = some (some (.own M N)):=by grind
  have ⟨_,_,s⟩:=g y;have ⟨_,_,t⟩:=g A;exact r.apart n s t C
def RS.frz1 (r:RS K B F H sd Z)(h:sd[i]? = some (some (.own p d))):∃F',jk F F'/\RS K B F' H (sd.set i (~~~d)) Z:= by
 obtain⟨l,s,P,t,w,_⟩:=r.own h;obtain⟨o,e⟩:=w.has;have y:i<sd.length:=();have c:=Kz t o;refine⟨upd F l o,c,⟨r.ext.ff.trans c,λb u q=>?_,r.ext.hh,λa f g=>?_⟩,by rw[UG,r.len],λ{j x} q=>?_,λ{j p x} q=>?_,λ{j k Q R S T m} n f g A=>?_⟩
 .by_cases z:b=l
  .simp_all [JM]
  .rw[JF z] at q;exact r.ext.fh _ _ q
 .have z:a≠l:=by grind
  rw[JF z];exact r.ext.new a f g
 .by_cases z:i=j
  .subst z;obtain⟨C,_⟩:=Ko q;cases C;exact⟨_,s,w.frz e t⟩
  .rw[Qv z] at q;have ⟨v,E,G⟩:=r.val q;exact⟨v,E,jf.same c _ _ G⟩
 .by_cases z:i=j
  .simp_all
  .rw[Qv z] at q;obtain⟨m,I,m2,U,J,L⟩:=r.own q;have ne:m≠l:=λe=>r.apart z h q s (by rwa [<- e]);exact⟨m,I,m2,by rwa [JF ne],J.ext c λu M=>M,L⟩
 .have N:i≠j:=λz=>by simp_all
  have O:i≠k:=λz=>by simp_all
  rw[Qv N] at f;rw[Qv O] at g;exact r.apart n f g A
def jU:Yj->SD->SD
 | [],sd=>sd
 |i::is,sd=>jU is (match sd[i]? with
  |some (some (.own _ d))=>sd.set i (~~~d)
  |_=>sd)
theorem RS.frz:∀is {F:Hp} {sd:SD},RS K B F H sd Z -> ∃F',jk F F'/\RS K B F' H (jU is sd) Z
 | [],F,sd,r=>⟨F,.refl _,r⟩
 |i::is,F,sd,r=>by
  unfold jU
  split
  .rename_i p d h;obtain⟨g,a,b⟩:=r.frz1 h;obtain⟨c,e,f⟩:=RS.frz is b;exact⟨c,a.trans e,f⟩
  .exact RS.frz is r
end
def hO (K:W.Frag)(F H:Hp)(c:Str)(fs:YG)(b:Value)(a:Option Addr):Prop:=
 ∃C,b=.ref C/\W.nsIn K mainGlobals c=some (some (.ref C))/\(fs=[]\/∃p n d x,fs=[d]/\a=some p/\H p=some (.xd [(n,x)])/\jf K F d x)
def XW (K:W.Frag)(E:XK)(F H:Hp)(c:Str)(fs:YG):Prop:=∀e a f b,Ext F H f b->hO K f b c fs e a->E e a b
def XW.ext {K:W.Frag}{E:XK}{F H b f:Hp}{c:Str}{fs:YG}(h:XW K E F H c fs)(e:Ext F H b f):XW K E b f c fs:=λg a i j l q=>h g a i j (e.trans l) q
abbrev FE:=SD->Res D
abbrev FT:=SD->Res Bool
abbrev FA:=SD->Res YG
def yo (K:W.Frag)(F H:Hp)(Q:VK)(d:D):Prop:=∀v a b,Ext F H a b->jf K a d v->Q v b
def vF (F H:Hp)(Q:Bool->Hp->Prop)(b:Bool):Prop:=∀c a,Ext F H c a->Q b a
def pW (K:W.Frag)(F H:Hp)(Q:YE->Hp->Prop)(ds:YG):Prop:=∀a b c,Ext F H b c->jd K b ds a->Q a c
def xY (K:W.Frag)(F H:Hp)(Q:VK)(d:D):Prop:=∀l a b,Ext F H a b->H l=none->a l=none->yF K a b l d->Q (.ref l) b
def tD (K:W.Frag)(E:XK)(f:FE):TE:=λZ H Q=>∃B F sd,RS K B F H sd Z /\ (f sd).need (yo K F H Q) (XW K E F H)
def hY (K:W.Frag)(E:XK)(f:FT):TT:=λZ H Q=>∃B F sd,RS K B F H sd Z /\ (f sd).need (vF F H Q) (XW K E F H)
def rO (K:W.Frag)(E:XK)(f:FA):TA:=λZ H Q=>∃B F sd,RS K B F H sd Z /\ (f sd).need (pW K F H Q) (XW K E F H)
def vP (K:W.Frag)(E:XK)(f:FE):TE:=λZ H Q=>∃B F sd,RS K B F H sd Z /\ (f sd).need (xY K F H Q) (XW K E F H)
abbrev QE (X:Cx)(E:XK)(e:Expr)(f:FE):Prop:=PE X e (tD X.K E f)
abbrev QT (X:Cx)(E:XK)(e:Expr)(f:FT):Prop:=PT X e (hY X.K E f)
abbrev QW (X:Cx)(E:XK)(e:Expr)(f:FT):Prop:=PW X e (hY X.K E f)
abbrev QA (X:Cx)(E:XK)(es:Ym)(f:FA):Prop:=PA X es (rO X.K E f)
abbrev QN (X:Cx)(E:XK)(e:Expr)(f:FE):Prop:=PE X e (vP X.K E f)
def PE.weak (h:PE X e t)(w:∀Z H Q,t' Z H Q->t Z H Q):PE X e t':=λY s Z H Q I q=>h Y s Z H Q I (w _ _ _ q)
def PT.weak (h:PT X e t)(w:∀Z H Q,t' Z H Q->t Z H Q):PT X e t':=λY s Z H Q I q=>h Y s Z H Q I (w _ _ _ q)
def PW.weak (h:PW X e t)(w:∀Z H Q,t' Z H Q->t Z H Q):PW X e t':=λa Y s Z H Q I q=>h a Y s Z H Q I (w _ _ _ q)
def PA.weak (h:PA X e t)(w:∀Z H Q,t' Z H Q->t Z H Q):PA X e t':=λa Y s Z H Q I q=>h a Y s Z H Q I (w _ _ _ q)
def PS.weak (h:PS X e t)(w:∀D Z H,t' D Z H->t D Z H):PS X e t':=λY s Z H D I q=>h Y s Z H D I (w _ _ _ q)
def qI.weak (h:qI X e t)(w:∀D Z H,t' D Z H->t D Z H):qI X e t':=λY s Z H D I q=>h Y s Z H D I (w _ _ _ q)
def PI.weak (h:PI X tg e t)(w:∀Z H R,t' Z H R->t Z H R):PI X tg e t':=λY s Z H R I q=>h Y s Z H R I (w _ _ _ q)
section
variable {K:W.Frag}{E:XK}{F H F' H':Hp}
def yo.ext (h:yo K F H Q d)(e:Ext F H F' H'):yo K F' H' Q d:=λv a b c q=>h v a b (e.trans c) q
def vF.ext (h:vF F H Q b)(e:Ext F H F' H'):vF F' H' Q b:=λa c f=>h a c (e.trans f)
def xY.ext (h:xY K F H Q d)(e:Ext F H F' H'):xY K F' H' Q d:=λl a b c q=>h l a b (e.trans c) (Qg e.hh q)
def AE {Q:VK}{r:Res D}(h:r.need (yo K F H Q) (XW K E F H))(e:Ext F H F' H'):r.need (yo K F' H' Q) (XW K E F' H'):=h.mono (λ_ q=>q.ext e) λ_ _ q=>q.ext e
def Gp {Q:Bool->Hp->Prop}{r:Res Bool}(h:r.need (vF F H Q) (XW K E F H))(e:Ext F H F' H'):r.need (vF F' H' Q) (XW K E F' H'):=h.mono (λ_ q=>q.ext e) λ_ _ q=>q.ext e
def CP {Q:VK}{r:Res D}(h:r.need (xY K F H Q) (XW K E F H))(e:Ext F H F' H'):r.need (xY K F' H' Q) (XW K E F' H'):=h.mono (λ_ q=>q.ext e) λ_ _ q=>q.ext e
theorem yo.new (h:yo K F H Q d):xY K F H Q d:=λl F' H' e n c o=>by
 obtain⟨u,f⟩:=o.has;refine h (.ref l) (upd F' l u) H' ⟨e.ff.trans (Kz c u),λb v q=>?_,e.hh,λa g i=>?_⟩ (o.frz f c)
 .by_cases z:b=l
  .simp_all [JM]
  .rw[JF z] at q;exact e.fh _ _ q
 .have z:a≠l:=by grind
  rw[JF z];exact e.new a g i
end
section
variable {X:Cx}{E:XK}
def jq (h:QN X E e f):QE X E e f:=PE.weak h λZ H Q ⟨B,F,sd,r,n⟩=>⟨B,F,sd,r,n.mono (λ_ q=>q.new) λ_ _ q=>q⟩
def jb (i:Nat):FE:=λsd=>match sd[i]? with
 |some (~~~d)=>.ok d
 |_=>.no
def dC (d:D):FE:=λ_=>.ok d
def uY (h:PE X e (yc i)):QE X E e (jb i):=PE.weak h λZ H Q a=>by
 obtain⟨B,F,sd,r,n⟩:=a;unfold jb at n
 split at n
 .rename_i d q;obtain⟨v,b,c⟩:=r.val q;exact⟨v,b,n v F H (.refl r.ext.fh) c⟩
 .exact n.elim
def AF (h:PE X e (tC v))(i:∀F,jf X.K F d v):QE X E e (dC d):=PE.weak h λZ H Q ⟨B,F,sd,r,n⟩=>n v F H (.refl r.ext.fh) (i F)
def J3 {i j pos}:QE X E (.Constant (.int i) j pos) (dC (.int i)):=AF MG λ_=>je.mpr rfl
def K7 {b j pos}:QE X E (.Constant (.bool b) j pos) (dC (.bl b)):=AF kj λ_=>jp.mpr rfl
def Gq {j pos}:QE X E (.Constant .none j pos) (dC .non):=AF MI λ_=>jG.mpr rfl
def WL {x j pos}:QE X E (.Constant (.str x) j pos) (dC (.str x)):=AF E1 λ_=>jy.mpr rfl
def Res.ofO {α: Type}:Option α -> Res α
 |some a=>.ok a
 |none=>.no
@[simp]def wY {α: Type}(a:α):Res.ofO (some a)=.ok a:=rfl
@[simp]def wZ {α: Type}:Res.ofO (none:Option α)=.no:=rfl
def jh {α: Type}{o:Option α}{p:α -> Prop}(h:(Res.ofO o).need p q):∃a,o=some a/\p a:=by
 cases o with
 |none=>exact h.elim
 |some a=>exact⟨a,rfl,h⟩
def jg (g:D->D->YH)(a b:FE):FE:=λsd=>(a sd).bind λx=>(b sd).bind λy=>.ofO (g x y)
def qV (g:D->YH)(a:FE):FE:=λsd=>(a sd).bind λx=>.ofO (g x)
def vp (K:W.Frag)(g:D->D->YH):R2:=λv w H Q=>∃F d e z,jk F H/\jf K F d v/\jf K F e w/\g d e=some z/\yo K F H Q z
def uT (K:W.Frag)(g:D->D->YH):R2:=λv w H Q=>∃F d e z,jk F H/\jf K F d v/\jf K F e w/\g d e=some z/\xY K F H Q z
def mO (K:W.Frag)(g:D->YH):V->Hp->VK->Prop:=λv H Q=>∃F d z,jk F H/\jf K F d v/\g d=some z/\yo K F H Q z
def wM (K:W.Frag)(g:YG->YH):YE->Hp->VK->Prop:=λa H Q=>∃F ds z,jk F H/\jd K F ds a/\g ds=some z/\yo K F H Q z
def zO (K:W.Frag)(g:YG->YH):YE->Hp->VK->Prop:=λa H Q=>∃F ds z,jk F H/\jd K F ds a/\g ds=some z/\xY K F H Q z
def Y7 {K:W.Frag}{g:D->D->YH}{c e:FE}{Z: St}{H:Hp}{Q:VK}(h:tD K E (jg g c e) Z H Q):vm (vp K g) (tD K E c) (tD K E e) Z H Q:=by
 obtain⟨B,F,sd,r,n⟩:=h;refine⟨B,F,sd,r,(ja n).mono (λx f v i p a j=>⟨B,i,sd,r.step a,(ja f).mono (λy l w m s b o=>?_) λ_ _ q=>q.ext a⟩) λ_ _ q=>q⟩;obtain⟨z,hz,q⟩:=jh l;exact⟨m,x,y,z,b.fh,jf.same b.ff _ _ j,o,hz,q.ext (a.trans b)⟩
def Pm {K:W.Frag}{g:D->D->YH}{c e:FE}{Z: St}{H:Hp}{Q:VK}(h:vP K E (jg g c e) Z H Q):vm (uT K g) (tD K E c) (tD K E e) Z H Q:=by
 obtain⟨B,F,sd,r,n⟩:=h;refine⟨B,F,sd,r,(ja n).mono (λx f v i p a j=>⟨B,i,sd,r.step a,(ja f).mono (λy l w m s b o=>?_) λ_ _ q=>q.ext a⟩) λ_ _ q=>q⟩;obtain⟨z,hz,q⟩:=jh l;exact⟨m,x,y,z,b.fh,jf.same b.ff _ _ j,o,hz,q.ext (a.trans b)⟩
def uB {K:W.Frag}{g:D->YH}{a:FE}{Z: St}{H:Hp}{Q:VK}(h:tD K E (qV g a) Z H Q):rM (mO K g) (tD K E a) Z H Q:=by
 obtain⟨B,F,sd,r,n⟩:=h;refine⟨B,F,sd,r,(ja n).mono (λx c v e i b f=>?_) λ_ _ q=>q⟩;obtain⟨z,hz,q⟩:=jh c;exact⟨e,x,z,b.fh,f,hz,q.ext b⟩
abbrev yS (X:Cx)(f:Value->Value->Sem Value)(g:D->D->YH):Prop:=xb X f (vp X.K g)
abbrev fZ (X:Cx)(f:Value->Value->Sem Value)(g:D->D->YH):Prop:=xb X f (uT X.K g)
def xb.weak (h:xb X f r)(w:∀x y H Q,r' x y H Q->r x y H Q):xb X f r':=λY s Z H x y v u Q I a b q=>h Y s Z H x y v u Q I a b (w _ _ _ _ q)
def wW.weak (h:wW X f r)(w:∀x H Q,r' x H Q->r x H Q):wW X f r':=λY s Z H x v Q I a q=>h Y s Z H x v Q I a (w _ _ _ q)
def qa.weak (h:qa X f r)(w:∀x H Q,r' x H Q->r x H Q):qa X f r':=λY s Z H x v Q I a q=>h Y s Z H x v Q I a (w _ _ _ q)
def yU.weak (h:yU X r)(w:∀x y H Q,r' x y H Q->r x y H Q):yU X r':=λa b Y s Z H x y v u Q I c f q e=>h a b Y s Z H x y v u Q I c f (w _ _ _ _ q) e
variable {a b:Expr}{fa fb:FE}{pos:Pos}
def jj (c:yS X (binaryOp op) g)(e:QE X E a fa)(f:QE X E b fb):QE X E (.BinOp a op b pos) (jg g fa fb):=PE.weak (EB c e f) λ_ _ _ h=>Y7 h
def uZ (c:fZ X (binaryOp op) g)(e:QE X E a fa)(f:QE X E b fb):QN X E (.BinOp a op b pos) (jg g fa fb):=PE.weak (EB c e f) λ_ _ _ h=>Pm h
def yZ (c:wW X (unaryOp op) (mO X.K g))(e:QE X E a fa):QE X E (.UnaryOp op a pos) (qV g fa):=PE.weak (ki c e) λ_ _ _ h=>uB h
def WM (c:yS X (compareOp op) g)(e:QE X E a fa)(f:QE X E b fb)(i:behindInMarks op b=false):QE X E (.Compare a [op] [b] pos) (jg g fa fb):=PE.weak (Nh c e f i) λ_ _ _ h=>Y7 h
def JG (fa:FE):FT:=λsd=>(fa sd).bind λx=>match x with
 | .bl b=>.ok b
 |_=>.no
def Y8 {K:W.Frag}{Z: St}{H:Hp}{Q:Bool->Hp->Prop}(h:hY K E (JG fa) Z H Q):tD K E fa Z H (λx e=>∃k,x=.bl k/\Q k e):=by
 obtain⟨B,F,sd,r,n⟩:=h;refine⟨B,F,sd,r,(ja n).mono (λx c v f g i j=>?_) λ_ _ q=>q⟩;cases x with
 |bl k=>exact⟨k,jp.mp j,c f g i⟩
 |_=>exact c.elim
def QC {op:CmpOp}{g:D->D->YH}(c:yS X (compareOp op) g)(e:QE X E a fa)(f:QE X E b fb)(i:behindInMarks op b=false):QT X E (.Compare a [op] [b] pos) (JG (jg g fa fb)):=
 PT.weak (EG c e f i) λZ H Q h=>have h:=Y8 h;Y7 h
def KZ (e:QE X E a fa)(f:∀c,isTrue a X.env c=(do let v <- c;standAt a.pos;holding [v] (truthy v)):=by intro _;rfl):QT X E a (JG fa):=PT.weak (E4 e f) λZ H Q q=>Y8 q
def WN (f:FT):FT:=λsd=>(f sd).bind λb=>.ok (!b)
def Wn (f g:FT):FT:=λsd=>(f sd).bind λb=>if b then g sd else .ok false
def v8 (f g:FT):FT:=λsd=>(f sd).bind λb=>if b then .ok true else g sd
variable {f g:FT}{rest:Ym}
def CQ (c:QT X E a f):QT X E (.UnaryOp .Not a pos) (WN f):=PT.weak (E7 c) λZ H Q ⟨B,F,sd,r,n⟩ =>
 ⟨B,F,sd,r,(ja n).mono (λ_ q=>q) λ_ _ q=>q⟩
def CS (c:QT X E a f):QW X E (.BoolOp .And [a] pos) f:=E5 c
def Pn (c:QT X E a f):QW X E (.BoolOp .Or [a] pos) f:=ML c
def CT (i:QT X E a f)(j:QW X E (.BoolOp .And (b::rest) pos) g):QW X E (.BoolOp .And (a::b::rest) pos) (Wn f g):=PW.weak (E6 i j) λZ H Q l=>by
 obtain⟨B,F,sd,r,n⟩:=l;refine⟨B,F,sd,r,(ja n).mono (λk e h m c=>?_) λ_ _ q=>q⟩;cases k with
 |true=>exact⟨B,h,sd,r.step c,Gp e c⟩
 |false=>exact e h m c
def uW (i:QT X E a f)(j:QW X E (.BoolOp .Or (b::rest) pos) g):QW X E (.BoolOp .Or (a::b::rest) pos) (v8 f g):=PW.weak (ke i j) λZ H Q l=>by
 obtain⟨B,F,sd,r,n⟩:=l;refine⟨B,F,sd,r,(ja n).mono (λk e h m c=>?_) λ_ _ q=>q⟩;cases k with
 |true=>exact e h m c
 |false=>exact⟨B,h,sd,r.step c,Gp e c⟩
def zl (h:QW X E e f):QT X E e f:=vw h
def Xs (fa fb:FE):FE:=λsd=>(JG fa sd).bind λb=>if b then fb sd else .ok (.bl false)
def Gr {op}(h:QE X E a fa):QE X E (.BoolOp op [a] pos) fa:=MM h
def Gs (i:QE X E a fa)(j:QE X E (.BoolOp .And (b::rest) pos) fb):QE X E (.BoolOp .And (a::b::rest) pos) (Xs fa fb):=PE.weak (MN i j) λZ H Q l=>by
 obtain⟨B,F,sd,r,n⟩:=l;refine Y8 ⟨B,F,sd,r,(ja n).mono (λk e h m c=>?_) λ_ _ q=>q⟩;cases k with
 |true=>exact⟨B,h,sd,r.step c,AE e c⟩
 |false=>exact e _ h m c (jp.mpr rfl)
def jc:FA:=λ_=>.ok []
def J0 (fa:FE)(c:FA):FA:=λsd=>(fa sd).bind λx=>(c sd).bind λe=>.ok (x::e)
def J2:QA X E [] jc:=PA.weak W9 λZ H Q ⟨B,F,sd,r,n⟩=>n [] F H (.refl r.ext.fh) .nil
def J1 (i:QE X E e fe)(j:QA X E es fr)(hs:starEach (e::es) X.env=(false,eval e X.env)::starEach es X.env:=by rfl):QA X E (e::es) (J0 fe fr):=
 PA.weak (Wh i j hs) λZ H Q ⟨B,F,sd,r,n⟩=>⟨B,F,sd,r,(ja n).mono (λx l v m w c o=>⟨B,m,sd,r.step c,(ja l).mono (λy p z s t h u=>(p _ s t (c.trans h) (.mk (jf.same h.ff _ _ o) u))) λ_ _ q=>q.ext c⟩) λ_ _ q=>q⟩
def qc (e:FA):FE:=λsd=>(e sd).bind λc=>if c.length<=1000 then .ok (.lst c) else .no
def qm (e:FA):FE:=λsd=>(e sd).bind λc=>if c.length<=1000 then .ok (.tup c) else .no
def QD (h:QA X E es fr):QN X E (.List es pos) (qc fr):=PE.weak (N0 h) λZ H Q l=>by
 obtain⟨B,F,sd,r,n⟩:=l;refine⟨B,F,sd,r,(ja n).mono (λs e i m o c j=>?_) λ_ _ q=>q⟩
 split at e
 .have hz:=j.length;exact⟨QQ (),λp hp=>(e p m (upd o p (.lst i)) (c.trans (.keep c.fh hp _)) (Qg c.hh hp) (Qg c.fh hp) ⟨i,JM,j⟩)⟩
 .exact e.elim
def K0 {x1}(h:QA X E es fr):QE X E (.Tuple es x1 pos) (qm fr):=PE.weak (Nz h) λZ H Q m=>by
 obtain⟨B,F,sd,r,n⟩:=m;refine⟨B,F,sd,r,(ja n).mono (λo c e s t i j=>?_) λ_ _ q=>q⟩
 split at c
 .have hz:=j.length;refine⟨QQ (),λp hp=>?_⟩;have l:=qf i.fh hp (.tup e);exact c _ _ _ (i.trans l) (jv.mpr ⟨p,e,rfl,.of JM,jd.same l.ff _ _ j⟩)
 .exact c.elim
def qJ (K:W.Frag)(c:YG->Res D):Sp:=λe H Q _=>∃F ds,jk F H/\jd K F ds e/\(c ds).need (yo K F H Q) (XW K E0 F H)
def yM (K:W.Frag)(c:YG->Res D):Sp:=λe H Q _=>∃F ds,jk F H/\jd K F ds e/\(c ds).need (xY K F H Q) (XW K E0 F H)
def J5 (c:YG->Res D)(e:FA):FE:=λsd=>(e sd).bind c
def jF {name:Str}{k:Nat}{ps:Yk}{h:YG->Res D}{p:Pos}{e:Expr}{es:Ym}{l:FA}(c:zn X.prog X.w X.K X.mg X.base name k ps (qJ X.K h))(o:Room k X.A)(s:Gl X name)(t:QA X E0 (e::es) l)
 (i:(name == ("__debug__" : Str))=false:=by decide) (u:starEach (e::es) X.env=(false,eval e X.env)::starEach es X.env:=by rfl) (j:(backTo pos (starEach es X.env)).any (·.1)=false:=by rfl):
 QE X E0 (.Call (.Name name p) (e::es) [] pos) (J5 h l):=PE.weak (XX c o s t i u j) λZ H Q v=>by
 obtain⟨B,F,sd,r,n⟩:=v;refine⟨B,F,sd,r,(ja n).mono (λw x y z A m C=>?_) λ_ _ q=>q⟩;show qJ X.K h (y++[]) A Q E0;rw[ZB];exact⟨z,w,m.fh,C,AE x m⟩
def CU {name:Str}{k:Nat}{ps:Yk}{h:YG->Res D}{p:Pos}{e:Expr}{es:Ym}{l:FA}(c:zn X.prog X.w X.K X.mg X.base name k ps (yM X.K h))(o:Room k X.A)(s:Gl X name)(t:QA X E0 (e::es) l)
 (i:(name == ("__debug__" : Str))=false:=by decide) (u:starEach (e::es) X.env=(false,eval e X.env)::starEach es X.env:=by rfl) (j:(backTo pos (starEach es X.env)).any (·.1)=false:=by rfl):
 QN X E0 (.Call (.Name name p) (e::es) [] pos) (J5 h l):=PE.weak (XX c o s t i u j) λZ H Q v=>by
 obtain⟨B,F,sd,r,n⟩:=v;refine⟨B,F,sd,r,(ja n).mono (λw x y z A m C=>?_) λ_ _ q=>q⟩;show yM X.K h (y++[]) A Q E0;rw[ZB];exact⟨z,w,m.fh,C,CP x m⟩
def j8 (g:YG->YH)(c:FA):FE:=λsd=>(c sd).bind λe=>.ofO (g e)
def Q3 {id:String}{x:Str}{p:Pos}{e:Expr}{es:Ym}{g:YG->YH}{i:FA}(l:qa X (.builtin id) (wM X.K g))(m:Gl X x)(o:X.mg x=none)(s:bootBuiltins x=some (.builtin id))(t:QA X E (e::es) i)(u:x ≠ "__name__" := by decide)(c:(x == ("__debug__" : Str))=false:=by decide)
 (v:starEach (e::es) X.env=(false,eval e X.env)::starEach es X.env:=by rfl) (h:(backTo pos (starEach es X.env)).any (·.1)=false:=by rfl):QE X E (.Call (.Name x p) (e::es) [] pos) (j8 g i):=
 PE.weak (Au l m o s t u c v h) λZ H Q w=>by
  obtain⟨B,F,sd,r,n⟩:=w;refine⟨B,F,sd,r,(ja n).mono (λy A I C J j G=>?_) λ_ _ q=>q⟩;obtain⟨z,hz,q⟩:=jh A;exact⟨C,y,z,j.fh,G,hz,q.ext j⟩
def CV {id:String}{x:Str}{p:Pos}{e:Expr}{es:Ym}{g:YG->YH}{i:FA}(l:qa X (.builtin id) (zO X.K g))(m:Gl X x)(o:X.mg x=none)(s:bootBuiltins x=some (.builtin id))(t:QA X E (e::es) i)(u:x ≠ "__name__" := by decide)(c:(x == ("__debug__" : Str))=false:=by decide)
 (v:starEach (e::es) X.env=(false,eval e X.env)::starEach es X.env:=by rfl) (h:(backTo pos (starEach es X.env)).any (·.1)=false:=by rfl):QN X E (.Call (.Name x p) (e::es) [] pos) (j8 g i):=
 PE.weak (Au l m o s t u c v h) λZ H Q w=>by
  obtain⟨B,F,sd,r,n⟩:=w;refine⟨B,F,sd,r,(ja n).mono (λy A I C J j G=>?_) λ_ _ q=>q⟩;obtain⟨z,hz,q⟩:=jh A;exact⟨C,y,z,j.fh,G,hz,q.ext j⟩
def WO {T:String}{x:Str}{p:Pos}{e:Expr}{es:Ym}{g:YG->YH}{i:FA}(l:qa X (.type T) (wM X.K g))(m:Gl X x)(o:X.mg x=none)(s:bootBuiltins x=some (.type T))(t:QA X E (e::es) i)(u:x ≠ "__name__" := by decide)(c:(x == ("__debug__" : Str))=false:=by decide)
 (v:starEach (e::es) X.env=(false,eval e X.env)::starEach es X.env:=by rfl) (h:(backTo pos (starEach es X.env)).any (·.1)=false:=by rfl):QE X E (.Call (.Name x p) (e::es) [] pos) (j8 g i):=
 PE.weak (Co l m o s t u c v h) λZ H Q w=>by
  obtain⟨B,F,sd,r,n⟩:=w;refine⟨B,F,sd,r,(ja n).mono (λy A I C J j G=>?_) λ_ _ q=>q⟩;obtain⟨z,hz,q⟩:=jh A;exact⟨C,y,z,j.fh,G,hz,q.ext j⟩
def KN {T:String}{x:Str}{p:Pos}{e:Expr}{es:Ym}{g:YG->YH}{i:FA}(l:qa X (.type T) (zO X.K g))(m:Gl X x)(o:X.mg x=none)(s:bootBuiltins x=some (.type T))(t:QA X E (e::es) i)(u:x ≠ "__name__" := by decide)(c:(x == ("__debug__" : Str))=false:=by decide)
 (v:starEach (e::es) X.env=(false,eval e X.env)::starEach es X.env:=by rfl) (h:(backTo pos (starEach es X.env)).any (·.1)=false:=by rfl):QN X E (.Call (.Name x p) (e::es) [] pos) (j8 g i):=
 PE.weak (Co l m o s t u c v h) λZ H Q w=>by
  obtain⟨B,F,sd,r,n⟩:=w;refine⟨B,F,sd,r,(ja n).mono (λy A I C J j G=>?_) λ_ _ q=>q⟩;obtain⟨z,hz,q⟩:=jh A;exact⟨C,y,z,j.fh,G,hz,q.ext j⟩
def K2:D->Bool
 | .tup _=>false
 | .lst _=>false
 | .dct _ _=>false
 | .ins _ _ _=>false
 | .exc _=>false
 | .dcf _ _=>false
 | .pin _ _=>false
 | .scr _=>false
 |_=>true
def jf.scal {K:W.Frag}{F c:Hp}{d:D}{v:V}(s:K2 d=true)(h:jf K F d v):jf K c d v:=by
 cases d with
 |tup _=>exact JB s
 |lst _=>exact JB s
 |dct _ _=>exact JB s
 |ins _ _ _=>exact JB s
 |exc _=>exact JB s
 |dcf _ _=>exact JB s
 |pin _ _=>exact JB s
 |scr _=>exact JB s
 |_=>exact h
def Res.bare {α: Type}(r:Res α):Res α:= match r with
 | .ok a=>.ok a
 | .ex c []=>.ex c []
 |_=>.no
def qW {α: Type}{K:W.Frag}{F H e:Hp}{r:Res α}{p:α -> Prop}(i:jk F H)(h:r.bare.need p (XW K E0 F H)):r.need p (XW K E0 e H):=by
 cases r with
 |ok a=>exact h
 |no=>exact h
 |ex c fs =>
  cases fs with
  |nil=>exact λj a q l m ⟨C,n,o,_⟩=>h j none F l (.grow i m.hh) ⟨C,n,o,.inl rfl⟩
  |cons d r=>exact h.elim
def y8 (is:Yj)(f:FE):FE:=λsd=>(f (jU is sd)).bare.bind λd=>if K2 d then .ok d else .no
def Y9 {e:Expr}{j:FE}(is)(h:QE X E0 e j):QE X E0 e (y8 is j):=PE.weak h λZ H Q l=>by
 obtain⟨B,F,sd,r,n⟩:=l;obtain⟨m,u,o⟩:=r.frz is;refine⟨B,m,_,o,(qW r.ext.fh (ja n)).mono (λd i v w p s t=>?_) λc fs q=>q⟩
 split at i
 .rename_i hs;exact i v F p (.grow r.ext.fh s.hh) (t.scal hs)
 .exact i.elim
end
inductive Out where
 |next (sd:SD)|ret (d:D)|brk (sd:SD)|cont (sd:SD)
def bW (K:W.Frag)(F H:Hp)(Q:VK)(d:D):Prop:=if K2 d=true then yo K F H Q d else xY K F H Q d
def AG (K:W.Frag)(m:Option Bool)(B:Bs)(Q:VK)(d:D):Prop:=match m with
 |some true=>xY K B.F0 B.H0 Q d
 |some false=>yo K B.F0 B.H0 Q d
 |none=>bW K B.F0 B.H0 Q d
def zC (K:W.Frag)(m:Option Bool)(B:Bs)(F:Hp)(T:Ends):Out->Prop
 | .next sd=>∀Z a b,jk F a->RS K B a b sd Z -> T.nx Z b
 | .brk sd=>∀Z a b,jk F a->RS K B a b sd Z -> T.bk Z b
 | .cont sd=>∀Z a b,jk F a->RS K B a b sd Z -> T.ct Z b
 | .ret d=>AG K m B T.rt d
abbrev FS:=SD->Res Out
def hZ (K:W.Frag)(E:XK)(m:Option Bool)(g:FS):TS:=λT Z H=>∃B F sd,RS K B F H sd Z /\ (g sd).need (zC K m B F T) (XW K E B.F0 B.H0)
abbrev QS (X:Cx)(E:XK)(m:Option Bool)(st:Stmt)(g:FS):Prop:=PS X st (hZ X.K E m g)
abbrev zm (X:Cx)(E:XK)(m:Option Bool)(st:List Stmt)(g:FS):Prop:=qI X st (hZ X.K E m g)
section
variable {K:W.Frag}{E:XK}{m:Option Bool}{B:Bs}{F F' H:Hp}{T:Ends}
def zC.mono (h:zC K m B F T o)(e:jk F F'):zC K m B F' T o:=by
 cases o with
 |next sd=>exact λZ a b s r=>h Z a b (e.trans s) r
 |brk sd=>exact λZ a b s r=>h Z a b (e.trans s) r
 |cont sd=>exact λZ a b s r=>h Z a b (e.trans s) r
 |ret d=>exact h
end
section
variable {X:Cx}{E:XK}{m:Option Bool}{st:Stmt}{sts:List Stmt}{g g1 g2:FS}{pos:Pos}
def Qh:FS:=λsd=>.ok (.next sd)
def jl (g1 g2:FS):FS:=λsd=>(g1 sd).bind λo=>match o with
 | .next sd'=>g2 sd'
 |o=>.ok o
def QF:zm X E m [] Qh:=qI.weak An λT Z H ⟨B,F,sd,r,n⟩=>n Z F H (.refl _) r
def J9 (h:QS X E m st g):zm X E m [st] g:=Cf h
def JA (b:QS X E m st g1)(c:zm X E m sts g2):zm X E m (st::sts) (jl g1 g2):=qI.weak (XN b c) λT Z H e=>by
 obtain⟨B,F,sd,r,n⟩:=e;refine⟨B,F,sd,r,(ja n).mono (λo a=>?_) λ_ _ q=>q⟩;cases o with
 |next sd'=>exact λi f j s h=>⟨B,f,sd',h,a.mono (λo q=>q.mono s) λ_ _ q=>q⟩
 |ret d=>exact a
 |brk sd'=>exact a
 |cont sd'=>exact a
def Xt (is)(h:QS X E m st g):QS X E m st (λsd=>g (jU is sd)):=PS.weak h λT Z H a=>by
 obtain⟨B,F,sd,r,n⟩:=a;obtain⟨b,c,e⟩:=r.frz is;exact⟨B,b,_,e,n.mono (λ_ q=>q.mono c) λ_ _ q=>q⟩
def v3:FS:=λsd=>.ok (.brk sd)
def Po:QS X E m (.Break pos) v3:=PS.weak MP λT Z H ⟨B,F,sd,r,n⟩=>n Z F H (.refl _) r
variable {e:Expr}{fe:FE}
def j4 (i:Nat)(f:FE):FS:=λsd=>(f sd).bind λd=>.ok (.next (sd.set i (~~~d)))
def qj (i:Nat)(f:FE):FS:=λsd=>(f sd).bind λd=>.ok (.next (sd.set i (some (.own false d))))
def JT (b:X.N.Nodup)(c:X.N[i]? = some x)(f:yT X.env.scope x)(h:QE X E e fe)(hs:swapsWith e (some (.Name x pos')) pos.line X.env=pure false:=by rfl)
 (j:X.fn x=true\/X.env.scope.names.lookup x=some .local:=by trivial):QS X E m (.Assign [.Name x pos'] e pos) (j4 i fe):=PS.weak (Ch b c f h hs j) λT Z H ⟨B,F,sd,r,n⟩=>⟨B,F,sd,r,(ja n).mono (λd l v o p a s=>(l _ o p a.ff ((r.step a).setVal s))) λ_ _ q=>q.ext r.ext⟩
def Kc (b:X.N.Nodup)(c:X.N[i]? = some x)(f:yT X.env.scope x)(h:QN X E e fe)(hs:swapsWith e (some (.Name x pos')) pos.line X.env=pure false:=by rfl)
 (s:X.fn x=true\/X.env.scope.names.lookup x=some .local:=by trivial):QS X E m (.Assign [.Name x pos'] e pos) (qj i fe):=PS.weak (Ch b c f h hs s) λT Z H t=>by
 obtain⟨B,F,sd,r,n⟩:=t;refine⟨B,F,sd,r,(ja n).mono (λd u l v w a y z A=>(u _ v w a.ff ((r.step a).setOwn (Qg r.ext.hh y) z A λj p I C J=>?_))) λ_ _ q=>q.ext r.ext⟩;obtain⟨K,L,_,_,G,_⟩:=r.own C;obtain⟨o,M⟩:=G.has
 simp_all
def j6 (f:FE):FS:=λsd=>(f sd).bind λd=>.ok (.ret d)
def JP (a:QE X E e fe):QS X E false (.Return (some e) pos) (j6 fe):=PS.weak (Ao a) λT Z H ⟨B,F,sd,r,n⟩=>⟨B,F,sd,r,(ja n).mono (λd b v c f h i=>(b v c f (r.ext.trans h) i)) λ_ _ q=>q.ext r.ext⟩
def Uk (a:QN X E e fe):QS X E true (.Return (some e) pos) (j6 fe):=PS.weak (Ao a) λT Z H ⟨B,F,sd,r,n⟩=>⟨B,F,sd,r,(ja n).mono (λd b l c f h i j o=>(b l c f (r.ext.trans h) (Qg r.ext.hh i) j o)) λ_ _ q=>q.ext r.ext⟩
def Kg (i:Nat):FS:=λsd=>match sd[i]? with
 |some (some (.own _ d))=>.ok (.ret d)
 |_=>.no
def Xu (a:PE X e (yc i)):QS X E true (.Return (some e) pos) (Kg i):=PS.weak (Ao a) λT Z H b=>by
 obtain⟨B,F,sd,r,n⟩:=b;unfold Kg at n
 split at n
 .rename_i d q;obtain⟨l,c,f,h,j,_⟩:=r.own q;exact⟨.ref l,c,n l F H r.ext f h j⟩
 .exact n.elim
def xX (c:FT)(g1 g2:FS):FS:=λsd=>(c sd).bind λb=>if b then g1 sd else g2 sd
def QR (j:QT X E c fc)(l:zm X E m a g1)(o:zm X E m b g2):QS X E m (.If c a b pos) (xX fc g1 g2):=PS.weak (Ap j l o) λT Z H p=>by
 obtain⟨B,F,sd,r,n⟩:=p;refine⟨B,F,sd,r,(ja n).mono (λb h i s f=>?_) λ_ _ q=>q.ext r.ext⟩;cases b with
 |true=>exact⟨B,i,sd,r.step f,h.mono (λ_ q=>q.mono f.ff) λ_ _ q=>q⟩
 |false=>exact⟨B,i,sd,r.step f,h.mono (λ_ q=>q.mono f.ff) λ_ _ q=>q⟩
def Q4 (i:Nat)(f:FE):FS:=λsd=>match sd[i]? with
 |some (some (.own false (.lst ds)))=>(f sd).bind λd=>if ds.length<sizeLine then .ok (.next (sd.set i (some (.own false (.lst (ds++[d])))))) else .no
 |_=>.no
def Wo (z:PE X o (yc i))(A:QE X E e fe)
 (hp:∀{p:TE} {t:TA},PE X o p->PA X [e] t->PE X (.Call (.Attribute o "append" apos) [e] [] cpos) (bb X.K "list" Cr p t))
 (hs:swapsWith (.Call (.Attribute o "append" apos) [e] [] cpos) none pos.line X.env=pure false:=by rfl)
 (f:starEach [e] X.env=(false,eval e X.env)::starEach [] X.env:=by rfl):QS X E m (.Expr (.Call (.Attribute o "append" apos) [e] [] cpos) pos) (Q4 i fe):=
 PS.weak (Cg (hp z (J1 A J2 f)) hs) λT Z H C=>by
  obtain⟨B,F,sd,r,n⟩:=C;unfold Q4 at n
  split at n
  .rename_i ds s;obtain⟨l,u,L,M,⟨h,x,y⟩,_⟩:=r.own s;refine⟨.ref l,u,.inl ⟨rfl,h,qy.of x⟩,B,F,sd,r,?_⟩;unfold J0 jc;have a:=ja n;cases q:fe sd with
   |no=>rwa [q] at a
   |ex c fs=>rw[q] at a;exact a.ext r.ext
   |ok d =>
    rw[q] at a;intro N G O b I;obtain⟨v,w,rfl,J,K⟩:=I;subst K;have j:=a
    split at j
    .have P:=y.length;exact⟨l,h,v,rfl,rfl,b.hh _ _ x,(),j Z G _ b.ff ((r.step b).chg s u ⟨h++[v],JM,(jd.same b.ff _ _ y).snoc J⟩)⟩
    .exact j.elim
  .exact n.elim
def Wp (i:Nat)(f:FE):FS:=λsd=>match sd[i]? with
 |some (some (.own false (.lst ds)))=>(f sd).bind λd=>match d with
  | .lst es=>if ds.length+es.length<=sizeLine then .ok (.next (sd.set i (some (.own false (.lst (ds++es)))))) else .no
  |_=>.no
 |_=>.no
def Gu (x:PE X o (yc i))(y:QN X E e fe)
 (hp:∀{j:TE} {t:TA},PE X o j->PA X [e] t->PE X (.Call (.Attribute o "extend" apos) [e] [] cpos) (bb X.K "list" EW j t))
 (hs:swapsWith (.Call (.Attribute o "extend" apos) [e] [] cpos) none pos.line X.env=pure false:=by rfl)
 (c:starEach [e] X.env=(false,eval e X.env)::starEach [] X.env:=by rfl):QS X E m (.Expr (.Call (.Attribute o "extend" apos) [e] [] cpos) pos) (Wp i fe):=
 PS.weak (Cg (hp x (Wh y W9 c)) hs) λT Z H z=>by
  obtain⟨B,F,sd,r,n⟩:=z;unfold Wp at n
  split at n
  .rename_i ds p;obtain⟨l,s,I,J,⟨f,u,v⟩,_⟩:=r.own p;refine⟨.ref l,s,.inl ⟨rfl,f,qy.of u⟩,B,F,sd,r,(ja n).mono (λd w b A K a L M C=>?_) λ_ _ q=>q.ext r.ext⟩;cases d with
   |lst es =>
    have ⟨ys,g1,g2⟩:=C;have h:(if ds.length+es.length<=sizeLine then Res.ok (Out.next (sd.set i (some (.own false (.lst (ds++es)))))) else .no).need (zC X.K m B F T) (XW X.K E B.F0 B.H0):=w
    split at h
    .have N:=v.length;have G:=g2.length;exact⟨l,b,f,ys,rfl,rfl,a.hh _ _ u,g1,(),h Z A _ a.ff ((r.step a).chg p s ⟨f++ys,JM,(jd.same a.ff _ _ v).append g2⟩)⟩
    .exact h.elim
   |_=>exact w.elim
  .exact n.elim
inductive Tg where
 |one (i:Nat)|tup (is:Yj)
def setAll:Yj->YG->SD->SD
 |i::is,d::ds,sd=>setAll is ds (sd.set i (~~~d))
 |_,_,sd=>sd
def JQ:Tg->D->SD->Res SD
 | .one i,d,sd=>.ok (sd.set i (~~~d))
 | .tup is,.tup ds,sd=>if ds.length=is.length then .ok (setAll is ds sd) else .no
 |_,_,_=>.no
def AH:Yj->YE->St->St
 |i::is,v::vs,Z => AH is vs (Z.set i (some v))
 |_,_,Z => Z
theorem RS.setAll {K:W.Frag}{B:Bs}{F H:Hp}:∀{is:Yj} {ds:YG} {a:YE} {sd:SD} {Z: St},RS K B F H sd Z -> jd K F ds a->RS K B F H (setAll is ds sd) (AH is a Z)
 | [],ds,a,sd,Z,r,_=>r
 |i::is,[],a,sd,Z,r,h=>by
  subst h;exact r
 |i::is,d::ds,a,sd,Z,r,h=>by
  obtain⟨v,w,rfl,b,c⟩:=h;exact RS.setAll (is:=is) (r.setVal b) c
def RS.forget {K:W.Frag}{B:Bs}{F H:Hp}{sd sd':SD}{Z: St}(r:RS K B F H sd Z)(a:sd'.length=sd.length)(h:∀(i:Nat) x,sd'[i]? = some (some x)->sd[i]? = some (some x)):RS K B F H sd' Z:=
 ⟨r.ext,by rw[r.len,a],λq=>r.val (h _ _ q),λq=>r.own (h _ _ q),λn b c f=>r.apart n (h _ _ b) (h _ _ c) f⟩
def gT:Tg->W.Frag->TG
 | .one i,_=>KR i
 | .tup is,K=>λv Z H Q=>∃a b,v=.ref a/\y9 K H a b/\b.length=is.length/\Q (AH is b Z) H
def Xv {K:W.Frag}{tg:Tg}{B:Bs}{F H:Hp}{sd:SD}{Z: St}{d:D}{v:V}{p:SD->Prop}{q:Str->YG->Prop}{Q:St->Hp->Prop}(r:RS K B F H sd Z)(f:jf K F d v)(n:(JQ tg d sd).need p q)
 (h:∀sd' j,p sd'->JQ tg d sd=.ok sd'->RS K B F H sd' j->Q j H):gT tg K v Z H Q:=by
 cases tg with
 |one i=>exact h _ _ n rfl (r.setVal f)
 |tup is =>
  cases d with
  |tup ds =>
   obtain⟨a,o,rfl,s,l⟩:=f;have b:JQ (.tup is) (.tup ds) sd=if ds.length=is.length then .ok (setAll is ds sd) else .no:=rfl
   by_cases c:ds.length=is.length
   .rw[Zd c] at b;rw[b] at n;exact⟨a,o,rfl,(s.same r.ext.fh).sq,by rw[l.length,c],h _ _ n b (r.setAll l)⟩
   .rw[Ze c] at b;rw[b] at n;exact n.elim
  |_=>exact n.elim
abbrev QG (X:Cx)(e:Expr)(tg:Tg):Prop:=PG X e (gT tg X.K)
def zY (K:W.Frag)(h:Hp)(J:It)(ds:YG):Prop:=∀(i:Nat) (b a:Hp),jk h b->jk b a ->
 (i<ds.length->J.go i a/\∀x c,J.yld i a x c->∃d f,ds[i]? = some d/\Ext b a f c/\jf K f d x)/\(ds.length<=i->J.stop i a)
def ba (K:W.Frag)(E:XK)(f:FA):TI:=λZ H R=>∃B F sd,RS K B F H sd Z /\ (f sd).need (λds=>∀J a b,Ext F H a b->zY K a J ds->R J b) (XW K E F H)
abbrev QI (X:Cx)(E:XK)(tg iter:Expr)(f:FA):Prop:=PI X tg iter (ba X.K E f)
def y7 (b:D->FS):YG->FS
 | [],sd=>.ok (.next sd)
 |x::xs,sd=>(b x sd).bind λo=>match o with
  | .next sd'=>y7 b xs sd'
  | .cont sd'=>y7 b xs sd'
  | .brk sd'=>.ok (.next sd')
  | .ret d=>.ok (.ret d)
def jZ (it:FA)(tg:Tg)(b:FS):FS:=λsd=>(it sd).bind λds=>y7 (λx sd=>(JQ tg x sd).bind b) ds sd
def Q9 (hp:PassesOwn (model X.prog X.w) X.A X.env X.xe)(Q:X.calm=true)(M:QI X E tg iter fi)(R:QG X tg t)(S:zm X E m body g)
 (w:∀x,foldedSetIterable iter X.env x=pure x:=by intro _;rfl):QS X E m (.For tg iter body [] pos) (jZ fi t g):=PS.weak (EA hp Q M R S w) λT Z H U=>by
 obtain⟨B,F,sd,r,n⟩:=U;refine⟨B,F,sd,r,(ja n).mono (λds Y J z H1 N wk=>(⟨λi k Z H=>k=ds.length-i/\i<=ds.length/\∃j sd,jk z j/\RS X.K B j H sd Z /\ (y7 (λx sd=>(JQ t x sd).bind g) (ds.drop i) sd).need (zC X.K m B j T) (XW X.K E B.F0 B.H0),
  ⟨ds.length,rfl,Ua _,z,sd,.refl _,r.step N,Y.mono (λ_ q=>q.mono N.ff) λ_ _ q=>q⟩,?_⟩)) λ_ _ q=>q.ext r.ext⟩
 rintro i k Z2 O ⟨rfl,M,j,sd2,A,C,p⟩;obtain⟨w1,w2⟩:=wk i j O A C.ext.fh;by_cases c:i<ds.length
 .obtain⟨go,yl⟩:=w1 c;refine .inr ⟨go,λG P=>∃f a,jk z f/\RS X.K B f P a G/\(y7 (λx sd=>(JQ t x sd).bind g) (ds.drop (i+1)) a).need (zC X.K m B f T) (XW X.K E B.F0 B.H0),
   λG P ⟨f,a,q1,q2,q3⟩=>⟨ds.length-(i+1),(),rfl,c,f,a,q1,q2,q3⟩,λx H3 y=>?_⟩
  obtain⟨d,f,hd,l,i3⟩:=yl x H3 y;rw[Uu c] at p;have I:ds[i]=d:=by simp_all
  rw[I] at p;refine Xv (C.step l) i3 (ja (ja p)) λsd' G n4 _ r4=>⟨B,f,sd',r4,n4.mono (λo v=>?_) λ_ _ q=>q⟩;cases o with
  |next b=>exact λK s L h u=>⟨s,b,(A.trans l.ff).trans h,u,v.mono (λ_ q=>q.mono (l.ff.trans h)) λ_ _ q=>q⟩
  |cont b=>exact λK s L h u=>⟨s,b,(A.trans l.ff).trans h,u,v.mono (λ_ q=>q.mono (l.ff.trans h)) λ_ _ q=>q⟩
  |brk b=>exact λK s L h u=>v K s L (l.ff.trans h) u
  |ret d=>exact v
 .have he:i=ds.length:=()
  refine .inl ⟨w2 (),?_⟩;subst he;rw[U9] at p;exact p Z2 j O (.refl _) C
def yf {α β: Type}(f:α -> Res β):List α -> Res (List β)
 | []=>.ok []
 |x::xs=>(f x).bind λy=>(yf f xs).bind λys=>.ok (y::ys)
def jW (cap:List (Option Nat))(sd:SD):SD:=cap.map λo=>o.bind λj=>match sd[j]? with
 |some (~~~d)=>~~~d
 |_=>none
def Um (sd:SD)(i:Nat):Bool:=match sd[i]? with
 |some none=>true
 |_=>false
def Ux (sd:SD):Tg->Bool
 | .one i=>Um sd i
 | .tup is=>is.all (Um sd)
def Qk (cap:List (Option Nat))(it:FA)(tg:Tg)(f:FE):FE:=λsd=>(it sd).bind λds=>if Ux (jW cap sd) tg=true/\ds.length<sizeLine then
 (yf (λx=>(JQ tg x (jW cap sd)).bind f) ds).bind λys=>.ok (.lst ys) else .no
theorem RS.cap {K:W.Frag}{B:Bs}{F H:Hp}{sd:SD}{Z: St}(cap)(r:RS K B F H sd Z):RS K B F H (jW cap sd) (KL cap Z):=by
 have a:∀{i:Nat} {x:SV},(jW cap sd)[i]? = some (some x)->∃j d,cap[i]? = some (some j)/\sd[j]? = some (~~~d)/\x=.val d:=λ{i x} q=>by
  unfold jW at q;rw[Zv] at q;cases c:cap[i]? with
  |none=>rw[c] at q;exact J6 q
  |some o =>
   rw[c] at q;cases o with
   |none=>cases q
   |some j =>
    have q:(match sd[j]? with
     |some (~~~d)=>some (SV.val d)
     |_=>none)=some x:=Zqi q
    split at q
    .rename_i d u;exact()
    .exact J6 q
 refine⟨r.ext,by unfold jW KL;rw[Zql,Zql],λ{i d} q=>?_,λ{i p d} q=>?_,λ{i j p w d e l} _ q=>?_⟩
 .obtain⟨j,n,f,h,b⟩:=a q;cases b;obtain⟨v,s,t⟩:=r.val h;refine⟨v,?_,t⟩;unfold KL;rw[Zv,f];show some (Option.bind (some j) λj=>(Z[j]?).join)=_;rw[Option.bind_some,s];rfl
 .obtain⟨j,n,f,h,b⟩:=a q;cases b
 grind
theorem CW:∀is ds a sd,is.all (Um a)=true->sd.length=a.length->(∀(i:Nat) x,a[i]? = some (some x)->sd[i]? = some (some x)) ->
 (setAll is ds sd).length=a.length/\∀(i:Nat) x,a[i]? = some (some x)->(setAll is ds sd)[i]? = some (some x)
 | [],ds,a,sd,_,hl,h=>⟨hl,h⟩
 |i::is,[],a,sd,_,hl,h=>⟨hl,h⟩
 |i::is,d::ds,a,sd,hn,hl,h=>by
  rw[U4,Ud] at hn;refine CW is ds a (sd.set i (~~~d)) hn.2 (by rw[UG,hl]) λj x q=>?_;have ne:i≠j:=λz=>by
   subst z;have:=hn.1;unfold Um at this;rw[q] at this;exact JB this
  rw[Qv ne];exact h j x q
def CY (a:Ux sd0 tg=true)(h:JQ tg d sd0=.ok sd):sd0.length=sd.length/\∀(i:Nat) x,sd0[i]? = some (some x)->sd[i]? = some (some x):=by
 cases tg with
 |one i =>
  cases h;have:=CW [i] [d] sd0 sd0 (by rwa [U4,List.all_nil,Bool.and_true]) rfl λ_ _ q=>q;exact⟨this.1.symm,this.2⟩
 |tup is =>
  cases d with
  |tup ds =>
   have b:JQ (.tup is) (.tup ds) sd0=if ds.length=is.length then .ok (setAll is ds sd0) else .no:=rfl
   rw[b] at h
   split at h
   .cases h;have:=CW is ds sd0 sd0 a rfl λ_ _ q=>q;exact⟨this.1.symm,this.2⟩
   .cases h
  |_=>cases h
def Gv {α β: Type}{f:α -> Res β}{a:List α}{x:α}{p:List β -> Prop}(l:a[i]? = some x)(h:(yf f (a.drop i)).need p q):(f x).need (λy=>(yf f (a.drop (i+1))).need (λys=>p (y::ys)) q) q:=by
 have b:i<a.length:=();rw[Uu b] at h;have e:a[i]=x:=by simp_all
 rw[e] at h;exact(ja h).mono (λy c=>((ja c).mono (λys j=>j) λ_ _ z=>z)) λ_ _ z=>z
def CZ {K:W.Frag}{t:Tg}{C:FA}{f:FE}{cap:List (Option Nat)}{Z: St}{H:Hp}{Q:VK}(o:vP K E (Qk cap C t f) Z H Q):Xm cap (ba K E C) (gT t K) (tD K E f) Z H Q:=by
 obtain⟨B,F,sd,r,n⟩:=o;refine⟨B,F,sd,r,(ja n).mono (λds p J G L l wk=>?_) λ_ _ q=>q⟩
 split at p
 .rename_i o;obtain⟨M,hz⟩:=o;refine⟨λi k ys Z b=>k=ds.length-i/\i<=ds.length/\∃a es,Ext G L a b/\RS K B a b (jW cap sd) Z /\ jd K a es ys/\es.length=i /\
   (yf (λx=>(JQ t x (jW cap sd)).bind f) (ds.drop i)).need (λrs=>xY K a b Q (.lst (es++rs))) (XW K E a b),⟨ds.length,rfl,Ua _,G,[],.refl l.fh,(r.step l).cap cap,.nil,rfl,?_⟩,?_⟩
  .exact(ja p).mono (λrs q=>(q).ext l) λ_ _ q=>q.ext l
  rintro i k ys Z2 b ⟨rfl,hi,a,es,s,u,w,hl,z⟩;have ly:=w.length;refine⟨(),?_⟩;obtain⟨w1,w2⟩:=wk i a b s.ff s.fh;by_cases h:i<ds.length
  .obtain⟨go,N⟩:=w1 h;refine .inr ⟨go,λx O y=>?_⟩;obtain⟨d,P,R,c,S⟩:=N x O y;have T:=Gv R z;have U:=u.step c;refine Xv U S (ja T) λsd' Z' Y hb I=>?_;obtain⟨b1,b2⟩:=CY M hb;refine⟨B,P,sd',I,Y.mono (λy n5 v F4 H4 j i4=>⟨ds.length-(i+1),(),rfl,h,F4,es++[y],(s.trans c).trans j,(I.step j).forget b1 b2,(jd.same (c.ff.trans j.ff) _ _ w).snoc i4,(),n5.mono (λrs q=>?_) λ_ _ q=>q.ext (c.trans j)⟩) λ_ _ q=>q.ext c⟩;rw[Uh];exact q.ext (c.trans j)
  .have he:i=ds.length:=()
   subst he;refine .inl ⟨w2 (Zf _),λD A=>?_⟩;rw[U9] at z;have q:xY K a b Q (.lst (es++[])):=z;rw[ZB] at q;exact q D a _ (.keep u.ext.fh A _) A (Qg u.ext.fh A) ⟨ys,JM,w⟩
 .exact p.elim
def Kh (N)(cap)(i:X.calm=true)(a:QP scope X.env N X.N cap=true)(j:QI X E tg iter fi)
 (l:∀b C s H c,QG (JJ X scope N b C s H c) tg t) (n:∀b C s H c,QE (JJ X scope N b C s H c) E elt f) (hs:∀x,foldedSetIterable iter X.env x=pure x:=by intro _;rfl):
 QN X E (.ListComp elt [⟨tg,iter,[],0⟩] scope pos) (Qk cap fi t f):=PE.weak (Os N cap i a j l n hs) λ_ _ _ h=>CZ h
def Qm (n:Nat)(ds:YG):SD:=ds.map (λd=>~~~d)++List.replicate (n-ds.length) none
def jE (n ar:Nat)(g:FS)(ds:YG):Res D:=if ds.length=ar then(g (Qm n ds)).bind λo=>match o with
 | .ret d=>.ok d
 | .next _=>.ok .non
 |_=>.no else .no
def jQ (n ar:Nat)(g:FS)(ds:YG):Res D:=if ds.length=ar then(g (Qm n ds)).bind λo=>match o with
 | .ret d=>.ok d
 |_=>.no else .no
theorem RS.start {K:W.Frag}{F H:Hp}{N:Yk}{ds:YG}{c:YE}(s:jk F H)(h:jd K F ds c):RS K ⟨F,H,λ_=>none⟩ F H (Qm N.length ds) (start N c):=by
 have a:∀{i:Nat} {x:SV},(Qm N.length ds)[i]? = some (some x)->∃d,ds[i]? = some d/\x=.val d:=λ{i x} q=>by
  unfold Qm at q;by_cases f:i<ds.length
  .rw[UR (by rwa [Zql]),Zv,Zqg f] at q;exact⟨ds[i],Zqg f,(Zqi (Zqi q)).symm⟩
  .rw[US (by rw[Zql];lia),VP] at q
   split at q<;>(first|exact J6 q|cases q)
 refine⟨.refl s,by unfold Qm L2.start;simp[h.length],λ{i d} q=>?_,λ{i p d} q=>?_,λ{i j p t d e l} _ q=>?_⟩
 .obtain⟨u,o,b⟩:=a q;cases b;obtain⟨v,n,r⟩:=h.get o;refine⟨v,?_,r⟩;unfold L2.start;rw[UR (by rw[Zql];exact(Jc.mp n).1),Zv,n];rfl
 .obtain⟨_,_,b⟩:=a q;cases b
 .obtain⟨_,_,b⟩:=a q;cases b
section
variable {P:Program}{w:World}{K:W.Frag}{mg:Ye}{base:Heap}{x qual:Str}{f:Addr}{fd:FuncData}{N ps:Yk}{k:Nat}
def ql (F:Fun K x qual st f fd)(S:FnScope N ps (JV st))
 (i:∀b A a s H E,Room k (A.deeper (envOfC qual (JV st) s.heap.objs.size f b))->zm (jV yp P w K mg base N qual (JV st) f b A a s H E).nox E0 false (QM st) g):
 FnOk P w K mg base yp (k+1) f fd ps (qJ K (jE N.length ps.length g)):=by
 refine F.ok S (λj H Q E ⟨F,ds,_,h,n⟩=>?_) λb A a s H j Q E l ⟨F,ds,hs,h,n⟩=>⟨_,i b A a s H E l,?_⟩
 .unfold jE at n
  split at n
  .rw[h.length];lia
  .exact n.elim
 .unfold jE at n
  split at n
  .refine⟨⟨F,H,λ_=>none⟩,F,_,RS.start hs h,(ja n).mono (λo c=>?_) λ_ _ q=>q⟩;cases o with
   |next sd=>exact λZ p t _ r=>c .non p t r.ext (jG.mpr rfl)
   |ret d=>exact c
   |brk sd=>exact c.elim
   |cont sd=>exact c.elim
  .exact n.elim
def yg (F:Fun K x qual st f fd)(S:FnScope N ps (JV st))
 (i:∀b A a s H E,Room k (A.deeper (envOfC qual (JV st) s.heap.objs.size f b))->zm (jV yp P w K mg base N qual (JV st) f b A a s H E).nox E0 true (QM st) g):
 FnOk P w K mg base yp (k+1) f fd ps (yM K (jQ N.length ps.length g)):=by
 refine F.ok S (λj H Q E ⟨F,ds,_,h,n⟩=>?_) λb A a s H j Q E l ⟨F,ds,hs,h,n⟩=>⟨_,i b A a s H E l,?_⟩
 .unfold jQ at n
  split at n
  .rw[h.length];lia
  .exact n.elim
 .unfold jQ at n
  split at n
  .refine⟨⟨F,H,λ_=>none⟩,F,_,RS.start hs h,(ja n).mono (λo c=>?_) λ_ _ q=>q⟩;cases o with
   |next sd=>exact c.elim
   |ret d=>exact c
   |brk sd=>exact c.elim
   |cont sd=>exact c.elim
  .exact n.elim
end
end
def q9 (p:Int×Int):D:=.tup [.int p.1,.int p.2]
def j0 (r:Jy):D:=.tup (r.map q9)
def AI:D->Option (Int×Int)
 | .tup [.int i,.int j]=>some (i,j)
 |_=>none
def Qy {α: Type}(f:D->Option α):YG->Option (List α)
 | []=>some []
 |d::ds=>(f d).bind λx=>(Qy f ds).map λa=>x::a
def K3:D->Option Jy
 | .tup ds=>Qy AI ds
 |_=>none
def YL:D->Option Int
 | .int i=>some i
 |_=>none
theorem YM {α β: Type}{f:D->Option α}{g:β -> D}{k:β -> α}(h:∀x,f (g x)=some (k x)):∀l:List β,Qy f (l.map g)=some (l.map k)
 | []=>rfl
 |x::r=>by rw[Zl];unfold Qy;rw[h,YM h r];rfl
theorem YN {α: Type}{f:D->Option α}{g:α -> D}(h:∀d x,f d=some x->d=g x):∀{ds:YG} {l:List α},Qy f ds=some l->ds=l.map g
 | [],l,e=>by cases e;rfl
 |d::ds,l,e=>by
  unfold Qy at e;cases a:f d with
  |none=>simp_all
  |some x =>
   cases b:Qy f ds with
   |none=>simp_all
   |some c =>
    rw[a,b] at e;obtain rfl:=Zqi e;rw[Zl,<- h d x a,<- YN h b]
def Pp (p):AI (q9 p)=some p:=rfl
def Pq (h:AI d=some p):d=q9 p:=by
 cases d with
 |tup ds =>
  cases ds with
  |nil=>exact J6 h
  |cons x ds =>
   cases x with
   |int i =>
    cases ds with
    |nil=>exact J6 h
    |cons y ds =>
     cases y with
     |int j =>
      cases ds with
      |nil=>obtain rfl:=Zqi h;rfl
      |cons _ _=>exact J6 h
     |_=>exact J6 h
   |_=>exact J6 h
 |_=>exact J6 h
def Gw (r):K3 (j0 r)=some r:=by
 show Qy AI (r.map q9)=some r;rw[YM (k:=id) Pp,List.map_id]
def Gx (h:K3 d=some r):d=j0 r:=by
 cases d with
 |tup ds=>unfold j0;rw[<- YN (λ_ _=>Pq) (h)]
 |_=>exact J6 h
def Pr (h:YL d=some i):d=.int i:=by
 cases d with
 |int j=>cases h;rfl
 |_=>exact J6 h
def Ps (h:Qy YL ds=some l):ds=l.map D.int:=YN (λ_ _=>Pr) h
def Pt (l):Qy YL (l.map D.int)=some l:=by
 rw[(YM (f:=YL) (λ_=>rfl) l),List.map_id']
def Da (l):Qy K3 (l.map j0)=some l:=by rw[YM (k:=id) Gw,List.map_id]
def Db (h:Qy K3 ds=some l):ds=l.map j0:=YN (λ_ _=>Gx) h
section
variable {K:W.Frag}{H:Hp}
def rE:jf K H (q9 p) v↔Is H (pD p) v:=by
 rfl
theorem vY:∀{r:Jy} {a:YE},jd K H (r.map q9) a↔qh H (r.map pD) a
 | [],a=>by rfl
 |p::r,a=>by
  constructor
  .rintro⟨x,w,rfl,b,c⟩;exact⟨x,w,rfl,rE.mp b,vY.mp c⟩
  .intro h;obtain⟨x,w,e,b,c⟩:=h;exact⟨x,w,e,rE.mpr b,vY.mpr c⟩
def bZ:jf K H (j0 r) v↔Is H (rD r) v:=by
 constructor
 .rintro⟨a,b,e,c,f⟩;exact⟨a,b,e,c,vY.mp f⟩
 .rintro⟨a,b,e,c,f⟩;exact⟨a,b,e,c,vY.mpr f⟩
theorem wu:∀{r:Jz} {a:YE},jd K H (r.map j0) a↔qh H (r.map rD) a
 | [],a=>by rfl
 |p::r,a=>by
  constructor
  .rintro⟨x,w,rfl,b,c⟩;exact⟨x,w,rfl,bZ.mp b,wu.mp c⟩
  .intro h;obtain⟨x,w,e,b,c⟩:=h;exact⟨x,w,e,bZ.mpr b,wu.mpr c⟩
end
section
variable {X:Cx}{E:XK}
def gI (f:Int->Int->D):D->D->YH
 | .int i,.int j=>some (f i j)
 |_,_=>none
def gz (c:Int->Int->Bool)(f:Int->Int->D):D->D->YH
 | .int i,.int j=>if c i j then some (f i j) else none
 |_,_=>none
def AJ (o:xb X h (vo g))(a:∀i j F,jf X.K F (f i j) (g i j)):yS X h (gI f):=xb.weak o λx y H Q b=>by
 obtain⟨F,d,e,z,c,id,l,hz,q⟩:=b;cases d with
 |int i =>
  cases e with
  |int j=>cases hz;exact⟨i,j,je.mp id,je.mp l,q _ F H (.refl c) (a i j F)⟩
  |_=>exact J6 hz
 |_=>exact J6 hz
def AK (o:xb X h (rI C g))(b:∀i j,c i j=true->C i j)(l:∀i j F,jf X.K F (f i j) (g i j)):yS X h (gz c f):=xb.weak o λx y H Q m=>by
 obtain⟨F,d,e,z,n,id,p,hz,q⟩:=m;cases d with
 |int i =>
  cases e with
  |int j =>
   have hz:(if c i j then some (f i j) else none)=some z:=hz
   split at hz
   .rename_i a;cases hz;exact⟨i,j,je.mp id,je.mp p,b i j a,q _ F H (.refl n) (l i j F)⟩
   simp_all
  |_=>exact J6 hz
 |_=>exact J6 hz
def yQ (i)(F):jf X.K F (.int i) (.int i):=je.mpr rfl
def ww (b)(F):jf X.K F (.bl b) (.bl b):=jp.mpr rfl
def y0:=gI λi j=>.int (i-j)
def yL:Nat:=10715086071862673209484250490600018105614048117055336074437503883703510511249361224931983788156958581275946729175531468251871452856923140435984577574698574803934567774824230985421074605062371141877954182153046474983581941267398767559165543946077062914571196477686542167660429831652624386837205668069376
def K8 (i j:Int):Bool:=(UH i.natAbs 18446744073709551616||UH j.natAbs 18446744073709551616)||(UH i.natAbs yL&&UH j.natAbs yL)
def Gy (h:k.natAbs<yL):Builtin.Int.intBits k<=2 ^ 20:=by
 have e:yL<=2 ^ 1000:=Nat.le_of_ble_eq_true rfl;have a:k.natAbs<2 ^ 1000:=()
 unfold Builtin.Int.intBits
 split
 .exact Ua _
 .have l:k.natAbs.log2<1000:=by
   rcases Vm k.natAbs with h0|hp
   .simp_all
   .exact(Nat.log2_lt (U6 hp)).mpr a
  lia
def Pu (h:K8 i j=true):IntMulOk i j:=by
 unfold K8 at h;rw[Vu,Vu,Ud,UU,UU,UU,UU] at h;rcases h with (h|h)|⟨h1,h2⟩
 .exact .of_left (intBits_le_64 () ())
 .exact .of_right (intBits_le_64 () ())
 .exact .of_bits (Gy h1) (Gy h2)
def Pv:xb X (binaryOp .Mult) (rI (λi j=>K8 i j=true) λi j=>.int (i*j)):=bi λ_ _ _ _ _ _ _ a q=>mul_int q (Pu a)
def qu:=gz K8 λi j=>.int (i*j)
def Qn:=gz (λ_ j=>UH 0 j.toNat&&UH j.toNat 1073741824) λi j=>.int (i / j)
def jJ:=gz (λ_ j=>UH 0 j.toNat) λi j=>.int (i % j)
def qT:=gz (λi j=>Nat.ble (-j).toNat 0&&(Nat.ble j.toNat 1000000&&UH i.natAbs 18446744073709551616)) λi j=>.int (i ^ j.toNat)
def zR:=gI λi j=>.bl (decide (i<=j))
def wx:=gI λi j=>.bl (decide (j<i))
def vR:=gI λi j=>.bl (decide (j<=i))
def YO:yS X (binaryOp .Sub) y0:=AJ Nb λ_ _ F=>yQ _ F
def V0:yS X (binaryOp .Mult) qu:=AK Pv (λi j h=>h) λ_ _ F=>yQ _ F
def QH:yS X (binaryOp .FloorDiv) Qn:=AK Nc (λi j h=>by simp_all [hU]) λ_ _ F=>yQ _ F
def Qi:yS X (binaryOp .Mod) jJ:=AK Nd () λ_ _ F=>yQ _ F
def Wq:yS X (binaryOp .Pow) qT:=AK Nf (λi j h=>by simp_all [hQ]) λ_ _ F=>yQ _ F
def wO:yS X (compareOp .LtE) zR:=AJ ky λ_ _ F=>ww _ F
def wP:yS X (compareOp .Gt) wx:=AJ k7 λ_ _ F=>ww _ F
def kJ:yS X (compareOp .GtE) vR:=AJ k8 λ_ _ F=>ww _ F
def xz:D->YH
 | .int i=>some (.int (-i))
 |_=>none
def WP:wW X (unaryOp .USub) (mO X.K xz):=wW.weak Ng λx H Q a=>by
 obtain⟨F,d,z,b,id,hz,q⟩:=a;cases d with
 |int i=>cases hz;exact⟨i,je.mp id,q _ F H (.refl b) (yQ _ F)⟩
 |_=>exact J6 hz
def j1:D->D->YH
 | .int i,.int j=>some (.int (i+j))
 | .str x,.str y=>if x.length+y.length<=sizeLine then some (.str (x++y)) else none
 | .tup a,.tup b=>if a ≠ []/\b ≠ []/\a.length+b.length<=sizeLine then some (.tup (a++b)) else none
 | .lst a,.lst b=>if a.length+b.length<=sizeLine then some (.lst (a++b)) else none
 |_,_=>none
def uV (K:W.Frag):R2:=λx y H Q=>∃l b a c,x=.ref l/\y=.ref b/\xl K H l a/\xl K H b c/\a.length+c.length<=sizeLine/\∀p,H p=none->Q (.ref p) (upd H p (.lst (a++c)))
def Gz:xb X (binaryOp .Add) (uV X.K):=by
 intro Y s Z H x y v u Q I f g h;obtain⟨l,b,w,z,rfl,rfl,i,j,hz,q⟩:=h;obtain rfl:=f;obtain rfl:=g;obtain⟨_,its,n,c,m⟩:=i.ok I.hok;obtain⟨_,a,A,e,o⟩:=j.ok I.hok;have p:=c.length;have r:=e.length;refine PySem.P.add_list m o ?_ ();have t:its.toArray++a.toArray=(its++a).toArray:=by simp
 rw[t];exact⟨.ref _,_,I.lnew (c.append e) (),rfl,q _ I.fresh⟩
def JS:yS X (binaryOp .Add) j1:=by
 intro Y s Z H x y v u Q I m n ⟨F,d,e,z,c,id,o,hz,q⟩;cases d with
 |int i =>
  cases e with
  |int j=>cases hz;exact Na Y s Z H x y v u Q I m n ⟨i,j,je.mp id,je.mp o,q _ F H (.refl c) (yQ _ F)⟩
  |_=>exact J6 hz
 |str a =>
  cases e with
  |str b =>
   have hz:(if a.length+b.length<=sizeLine then some (D.str (a++b)) else none)=some z:=hz
   split at hz
   .rename_i B;cases hz;exact Ni Y s Z H x y v u Q I m n ⟨a,b,jy.mp id,jy.mp o,B,q _ F H (.refl c) (jy.mpr rfl)⟩
   simp_all
  |_=>exact J6 hz
 |tup a =>
  cases e with
  |tup b =>
   have hz:(if a ≠ []/\b ≠ []/\a.length+b.length<=sizeLine then some (D.tup (a++b)) else none)=some z:=hz
   split at hz
   .obtain rfl:=Zqi hz;obtain⟨r,f,rfl,t,g⟩:=id;obtain⟨w,ys,rfl,A,h⟩:=o;have C:=g.length;have G:=h.length;have J:f ≠ []:=by grind
    have K:ys ≠ []:=by grind
    refine NC Y s Z H _ _ v u Q I m n ⟨r,w,f,ys,rfl,rfl,(t.same c).sq,(A.same c).sq,J,(),λz=>Zn z K,λ_ p hp=>?_⟩;have l:=qf c hp (.tup (f++ys));exact q _ _ _ l (jv.mpr ⟨p,_,rfl,.of JM,jd.same l.ff _ _ (g.append h)⟩)
   simp_all
  |_=>exact J6 hz
 |lst a =>
  cases e with
  |lst b =>
   have hz:(if a.length+b.length<=sizeLine then some (D.lst (a++b)) else none)=some z:=hz
   split at hz
   .obtain rfl:=Zqi hz;obtain⟨r,f,rfl,t,g⟩:=id;obtain⟨w,ys,rfl,A,h⟩:=o;have C:=g.length;have G:=h.length;refine Gz Y s Z H _ _ v u Q I m n ⟨r,w,f,ys,rfl,rfl,t.same c,A.same c,(),λp hp=>?_⟩;have l:=qf c hp (.lst (f++ys));exact q _ _ _ l (jm.mpr ⟨p,_,rfl,.of JM,jd.same l.ff _ _ (g.append h)⟩)
   simp_all
  |_=>exact J6 hz
 |_=>exact J6 hz
mutual
def yb:D->PyData
 | .non=>.none
 | .bl b=>.bool b
 | .int i=>.int i
 | .str x=>.str x
 | .tup ds=>.tuple (KO ds)
 | .lst ds=>.list (KO ds)
 | .ty _=>.none
 | .scr _=>.none
 | .dct _ _=>.none
 | .ins _ _ _=>.none
 | .exc _=>.none
 | .ucl _=>.none
 | .adr _=>.none
 | .dcf _ _=>.none
 | .pin _ _=>.none
def KO:YG->List PyData
 | []=>[]
 |d::ds=>yb d::KO ds
end
def qR:Nat->D->Bool
 | 0,_=>false
 |_+1,.int _=>true
 |_+1,.str x=>PyData.strOk x
 |_+1,.non=>true
 |n+1,.tup ds=>ds.all (qR n)
 |n+1,.lst ds=>ds.all (qR n)
 |_+1,_=>false
def Xw:∀n d,qR n d=true->(yb d).canLay0=true/\(yb d).depth<=n:=λn=>by
 induction n with
 |zero=>intro _ h;exact JB h
 |succ n a =>
  intro d h;have all:∀ds:YG,ds.all (qR n)=true->PyData.canLayAll0 (KO ds)=true/\PyData.depthAll (KO ds)<=n:=by
   intro ds
   induction ds with
   |nil=>intro _;exact⟨rfl,Ua _⟩
   |cons d ds b =>
    intro h;rw[U4,Ud] at h;obtain⟨c,e⟩:=a d h.1;obtain⟨f,g⟩:=b h.2;exact⟨Jt.mpr ⟨c,f⟩,Nat.max_le.mpr ⟨e,g⟩⟩
  cases d with
  |int i=>exact⟨rfl,Ua _⟩
  |str i=>exact⟨h,Ua _⟩
  |non=>exact⟨rfl,Ua _⟩
  |tup ds=>exact⟨(all ds h).1,Vy (all ds h).2⟩
  |lst ds=>exact⟨(all ds h).1,Vy (all ds h).2⟩
  |_=>exact JB h
def D.ne {d e:D}(h:(d.ctorIdx == e.ctorIdx)=false):¬d=e:=λq=>by
 simp_all
def Dc:∀n d e,qR n d=true->qR n e=true->(PyData.eqv (yb d) (yb e)=true↔d=e):=λn=>by
 induction n with
 |zero=>intro _ _ h;exact JB h
 |succ n a =>
  intro d e h h';have all:∀ds es:YG,ds.all (qR n)=true->es.all (qR n)=true->(PyData.eqvAll (KO ds) (KO es)=true↔ds=es):=by
   intro ds
   induction ds with
   |nil =>
    intro es _ _;cases es with
    |nil=>exact iff_of_true rfl rfl
    |cons e es=>exact Zs Zj ()
   |cons d ds b =>
    intro es c f;cases es with
    |nil=>exact Zs Zj ()
    |cons e es =>
     show(PyData.eqv (yb d) (yb e)&&PyData.eqvAll (KO ds) (KO es))=true↔_
     simp_all
  cases d with
  |int i =>
   cases e with
   |int j=>exact⟨λq=>Zt D.int (Ys.mp q),λq=>Ys.mpr (D.int.inj q)⟩
   |str _=>exact Zs Zj (D.ne rfl)
   |non=>exact Zs Zj (D.ne rfl)
   |tup _=>exact Zs Zj (D.ne rfl)
   |lst _=>exact Zs Zj (D.ne rfl)
   |_=>exact JB h'
  |str i =>
   cases e with
   |str j=>exact⟨λq=>Zt D.str (of_decide_eq_true q),λq=>Zp (D.str.inj q)⟩
   |int _=>exact Zs Zj (D.ne rfl)
   |non=>exact Zs Zj (D.ne rfl)
   |tup _=>exact Zs Zj (D.ne rfl)
   |lst _=>exact Zs Zj (D.ne rfl)
   |_=>exact JB h'
  |non =>
   cases e with
   |non=>exact iff_of_true rfl rfl
   |int _=>exact Zs Zj (D.ne rfl)
   |str _=>exact Zs Zj (D.ne rfl)
   |tup _=>exact Zs Zj (D.ne rfl)
   |lst _=>exact Zs Zj (D.ne rfl)
   |_=>exact JB h'
  |tup ds =>
   cases e with
   |tup es=>exact(all ds es h h').trans ()
   |int _=>exact Zs Zj (D.ne rfl)
   |str _=>exact Zs Zj (D.ne rfl)
   |non=>exact Zs Zj (D.ne rfl)
   |lst _=>exact Zs Zj (D.ne rfl)
   |_=>exact JB h'
  |lst ds =>
   cases e with
   |lst es=>exact(all ds es h h').trans ()
   |int _=>exact Zs Zj (D.ne rfl)
   |str _=>exact Zs Zj (D.ne rfl)
   |non=>exact Zs Zj (D.ne rfl)
   |tup _=>exact Zs Zj (D.ne rfl)
   |_=>exact JB h'
  |_=>exact JB h
theorem WQ {P:Program}{w:World}{K:W.Frag}{H:Hp}{h:Heap}(ok:qK P w H h):∀n d v u,qR n d=true->jf K H d v->ju v u->∃g,Reads h u (yb d) g
 | 0,_,_,_,p,_,_=>JB p
 |n+1,d,v,u,p,q,r=>by
  have all:∀ds b l,ds.all (qR n)=true->jd K H ds b->js b l->∃g,ReadsAll h l (KO ds) g:=by
   intro ds
   induction ds with
   |nil =>
    intro b l _ m f;subst m;cases f;exact⟨_,.nil⟩
   |cons d ds z =>
    intro b l hp m f;rw[U4,Ud] at hp;obtain⟨x,rs,rfl,j,A⟩:=m;cases f with
    |cons B C =>
     obtain⟨g,s⟩:=WQ ok n d x _ hp.1 j B;obtain⟨bs,F⟩:=z rs _ hp.2 A C;exact⟨_,.cons s F⟩
  cases d with
  |int i =>
   subst q;obtain⟨t,rfl⟩:=(r);exact⟨_,.int i t⟩
  |str x =>
   subst q;obtain⟨t,rfl⟩:=(r);exact⟨_,.str x t⟩
  |non =>
   subst q;obtain rfl:=r;exact⟨_,.none⟩
  |tup ds =>
   obtain⟨a,b,rfl,f,j⟩:=q;obtain rfl:=r;obtain⟨_,its,y,o,e,c,G,I⟩:=(ok a _ f);obtain⟨g,s⟩:=all ds b its p j y;exact⟨_,.tuple e c I ()⟩
  |lst ds =>
   obtain⟨a,b,rfl,f,j⟩:=q;obtain rfl:=r;obtain⟨_,its,G,y,e⟩:=f.ok ok;obtain⟨g,s⟩:=all ds b its p j y;exact⟨_,.list e rfl rfl ()⟩
  |_=>exact JB p
section
open Classical
def Qz (d e:D):Bool:=decide (d=e)
def G0 (d):Qz d d=true:=Zp rfl
def mh:Qz d e=true↔d=e:=decide_eq_true_iff
def rH:Qz d e=false↔d≠e:=decide_eq_false_iff_not
def xO:D->D->YH
 | .bl a,.bl b=>some (.bl (a == b))
 |d,e=>if qR 12 d&&qR 12 e then some (.bl (Qz d e)) else none
def zQ:D->D->YH
 | .bl a,.bl b=>some (.bl (a != b))
 |d,e=>if qR 12 d&&qR 12 e then some (.bl (!Qz d e)) else none
end
def G1 (a:qR 12 d=true)(b:qR 12 e=true):xO d e=some (.bl (Qz d e)):=by
 unfold xO
 split
 .exact JB a
 simp_all
def Pw (i j):xO (.int i) (.int j)=some (.bl (decide (i=j))):=by
 rw[G1 rfl rfl];by_cases h:i=j
 .simp_all [G0]
 .rw[Zo h,rH.mpr ()]
def xJ (n:X.A.units+64<cLine):yS X (compareOp .Eq) xO:=by
 intro Y s Z H x y v u Q I g h ⟨F,d,e,z,c,id,f,hz,q⟩;unfold xO at hz
 split at hz
 .rename_i a b;obtain rfl:=Zqi hz;refine k9 Y s Z H x y v u Q I g h ⟨?_,?_⟩
  .rw[jp.mp id,jp.mp f];rfl
  .rw[jp.mp id,jp.mp f];refine q _ F H (.refl c) ?_;cases a<;>cases b<;>rfl
 .split at hz
  .rename_i hp;rw[Ud] at hp;obtain rfl:=Zqi hz;obtain⟨o,i⟩:=WQ I.hok 12 d x v hp.1 (jf.same c _ _ id) g;obtain⟨bs,j⟩:=WQ I.hok 12 e y u hp.2 (jf.same c _ _ f) h;have ⟨l,p⟩:=Xw 12 d hp.1;have ⟨m,r⟩:=Xw 12 e hp.2;refine PySem.SeqAt.compareEq_reads i j l m () ?_;rw[(Vf.mpr ((Dc 12 d e hp.1 hp.2).trans mh.symm))];exact⟨.bl _,H,I,rfl,q _ F H (.refl c) (ww _ F)⟩
  simp_all
def kI (n:X.A.units+64<cLine):yS X (compareOp .NotEq) zQ:=by
 intro Y s Z H x y v u Q I g h ⟨F,d,e,z,c,id,f,hz,q⟩;unfold zQ at hz
 split at hz
 .rename_i a b;obtain rfl:=Zqi hz;refine ku Y s Z H x y v u Q I g h ⟨?_,?_⟩
  .rw[jp.mp id,jp.mp f];rfl
  .rw[jp.mp id,jp.mp f];refine q _ F H (.refl c) ?_;cases a<;>cases b<;>rfl
 .split at hz
  .rename_i hp;rw[Ud] at hp;obtain rfl:=Zqi hz;obtain⟨o,i⟩:=WQ I.hok 12 d x v hp.1 (jf.same c _ _ id) g;obtain⟨bs,j⟩:=WQ I.hok 12 e y u hp.2 (jf.same c _ _ f) h;have ⟨l,p⟩:=Xw 12 d hp.1;have ⟨m,r⟩:=Xw 12 e hp.2;refine PySem.SeqAt.compareNe_reads i j l m () ?_;rw[(Vf.mpr ((Dc 12 d e hp.1 hp.2).trans mh.symm))];exact⟨.bl _,H,I,rfl,q _ F H (.refl c) (ww _ F)⟩
  simp_all
end
def PE.or (h:PE X e t)(h':PE X e t'):PE X e (λZ H Q=>t Z H Q\/t' Z H Q):=λY s Z H Q I q=>q.elim (h Y s Z H Q I) (h' Y s Z H Q I)
def PT.or (h:PT X e t)(h':PT X e t'):PT X e (λZ H Q=>t Z H Q\/t' Z H Q):=λY s Z H Q I q=>q.elim (h Y s Z H Q I) (h' Y s Z H Q I)
def QB:D->Option jC
 | .int i=>some (.inl i)
 | .str x=>some (.inr x)
 |_=>none
def WR {K:W.Frag}{H:Hp}{d:D}{k:jC}{v:V}(h:QB d=some k)(i:jf K H d v):v=kV k:=by
 cases d with
 |int j=>cases h;exact je.mp i
 |str x=>cases h;exact jy.mp i
 |_=>exact J6 h
def jI:List jC->YG->jC->YH
 |k::ks,d::ds,q=>if k=q then some d else jI ks ds q
 |_,_,_=>none
theorem Px (k q:jC)(v)(r):qz ((k,v)::r) q=if k=q then some v else qz r q:=by
 grind[qz,List.find?_cons]
theorem Dd:jI (k::ks) (d::ds) q=if k=q then some d else jI ks ds q:=rfl
theorem Xx {K:W.Frag}{H:Hp}(q):∀{ks:List jC} {ds:YG} {a:YE},ks.length=a.length->jd K H ds a ->
 (∀d,jI ks ds q=some d->∃x,qz (ks.zip a) q=some x/\jf K H d x)/\(jI ks ds q=none->qz (ks.zip a) q=none)
 | [],ds,a,hl,h=>by
  refine⟨λd e=>?_,λ_=>rfl⟩;cases ds<;>exact J6 e
 |k::ks,[],a,hl,h=>by
  simp_all [jd.nil_iff]
 |k::ks,d::ds,a,hl,h=>by
  obtain⟨x,r,rfl,c,b⟩:=h;have f:=Xx q (UL hl) b
  grind[List.zip_cons_cons,Px,Dd]
def zw:List jC->YG->jC->D->YG
 |k::ks,d::ds,q,v=>(if k=q then v else d)::zw ks ds q v
 |_,_,_,_=>[]
def zv:List jC->YE->jC->V->YE
 |k::ks,d::ds,q,v=>(if k=q then v else d)::zv ks ds q v
 |_,_,_,_=>[]
def G2:zw (k::ks) (d::ds) q v=(if k=q then v else d)::zw ks ds q v:=rfl
def Py:zv (k::ks) (d::ds) q v=(if k=q then v else d)::zv ks ds q v:=rfl
theorem G3 {K:W.Frag}{H:Hp}{q:jC}{d:D}{v:V}(e:jf K H d v):∀{ks:List jC} {ds:YG} {a:YE},ks.length=a.length->jd K H ds a->jd K H (zw ks ds q d) (zv ks a q v)/\(zv ks a q v).length=ks.length /\
 (ks.zip a).map (λc=>if c.1=q then(c.1,v) else c)=ks.zip (zv ks a q v)
 | [],ds,a,hl,h=>by
  refine⟨?_,rfl,rfl⟩;rfl
 |k::ks,[],a,hl,h=>by
  simp_all [jd.nil_iff]
 |k::ks,d'::ds,a,hl,h=>by
  obtain⟨x,r,rfl,j,f⟩:=h;obtain⟨g,i,l⟩:=G3 e (UL hl) f;rw[G2,Py];refine⟨jd.mk ?_ g,by rw[Zu,i];rfl,?_⟩
  .by_cases b:k=q
   .rwa [Zd b,Zd b]
   .rwa [Ze b,Ze b]
  grind[List.zip_cons_cons,List.map_cons]
def yI (q:jC)(ks:List jC):Bool:=ks.any λk=>decide (k=q)
theorem G4 (q):∀{ks:List jC} {a:YE},ks.length=a.length->((ks.zip a).any λb=>decide (b.1=q))=yI q ks
 | [],a,_=>rfl
 |k::ks,[],h=>by cases h
 |k::ks,x::a,h=>by
  rw[Vt,List.any_cons,G4 q (UL h)];rfl
def V1 (ks:List jC)(q:jC):List jC:=if yI q ks=true then ks else ks++[q]
def Wr (ks:List jC)(ds:YG)(q:jC)(v:D):YG:=if yI q ks=true then zw ks ds q v else ds++[v]
def G8 {K:W.Frag}{H:Hp}{q:jC}{d:D}{v:V}{ks:List jC}{ds:YG}{b:YE}(c:ks.length=b.length)(h:jd K H ds b)(e:jf K H d v):
 ∃ys,q0 (ks.zip b) q v=(V1 ks q).zip ys/\(V1 ks q).length=ys.length/\jd K H (Wr ks ds q d) ys:=by
 unfold q0 V1 Wr;rw[G4 q c];by_cases a:yI q ks=true
 .rw[Zd a,Zd a,Zd a];obtain⟨f,g,i⟩:=G3 e c h;exact⟨_,i,g.symm,f⟩
 .rw[Ze a,Ze a,Ze a];exact⟨b++[v],by rw[List.zip_append c];rfl,by simp[c],h.snoc e⟩
section
variable {X:Cx}{E:XK}{m:Option Bool}{a b o i e:Expr}{fa fb fo fi fv:FE}{pos pos' apos cpos:Pos}
def De {K:W.Frag}{H:Hp}{ds:YG}{c:YE}{k:Int}{d:D}(h:jd K H ds c)(e:qo ds k=some d):∃x,qo c k=some x/\jf K H d x:=by
 unfold qo at e ⊢;rw[h.length];cases f:zg ds.length k with
 |none=>simp_all
 |some j =>
  rw[f] at e;exact h.get e
def jA:D->D->YH
 | .lst ds,.int k=>qo ds k
 | .tup ds,.int k=>qo ds k
 | .scr ns,.int k=>(qo ns k).map .int
 | .str x,.int k=>if x.length<=sizeLine then(qo x.cps.toList k).map λc=>.str ⟨#[c]⟩ else none
 | .dct ks ds,k=>(QB k).bind λq=>jI ks ds q
 | .dcf ks ds,k=>(QB k).bind λq=>jI ks ds q
 |_,_=>none
def G9 {K:W.Frag}{H:Hp}{d:D}{ks:List jC}{ds:YG}{v:V}(l:d=.dct ks ds\/d=.dcf ks ds)(h:jf K H d v):∃a c,v=.ref a/\Rd H a (.dK (ks.zip c))/\ks.length=c.length/\jd K H ds c:=by
 rcases l with rfl|rfl
 .obtain⟨a,c,f,g,j⟩:=jY.mp h;exact⟨a,c,f,.inl g,j⟩
 .obtain⟨a,o,c,f,g,j⟩:=qs.mp h;exact⟨a,c,f,.inr ⟨o,g⟩,j⟩
def Df {H c:Hp}{a:Addr}{u:HO}(e:jk H c)(h:Rd H a u):Rd c a u:=h.imp (λq=>e _ _ q) λ⟨o,q⟩=>⟨o,e _ _ q⟩
def Dg {H:Hp}{a:Addr}{c:List (jC×V)}{k:jC}(e:Rd H a (.dK c)):x9 H a (kV k) (qz c k):=.inl ⟨c,k,e,rfl,rfl⟩
def GA:yU X (vp X.K λd e=>match d with
 | .dct _ _=>none
 | .dcf _ _=>none
 |d=>jA d e):=yU.weak NE λx y H Q ⟨F,d,e,z,f,id,h,hz,q⟩=>by
 cases d with
 |lst ds =>
  cases e with
  |int k =>
   obtain⟨p,n,rfl,g,r⟩:=id;obtain⟨x,l,s⟩:=De r (hz);exact .inl ⟨p,n,k,x,rfl,je.mp h,(g.same f).sq,l,q _ F H (.refl f) s⟩
  |_=>exact J6 hz
 |tup ds =>
  cases e with
  |int k =>
   obtain⟨p,n,rfl,g,r⟩:=id;obtain⟨x,l,s⟩:=De r (hz);exact .inr (.inl ⟨p,n,k,x,rfl,je.mp h,(g.same f).sq,l,q _ F H (.refl f) s⟩)
  |_=>exact J6 hz
 |scr ns =>
  cases e with
  |int k =>
   obtain⟨p,rfl,g⟩:=id;obtain⟨j,v,hz⟩:=Jk.mp (hz);subst hz;refine .inl ⟨p,_,k,.int j,rfl,je.mp h,jk.seq f g,?_,q _ F H (.refl f) (yQ _ F)⟩;unfold qo at v ⊢;cases l:zg ns.length k with
   |none=>simp_all
   |some i=>simp_all
  |_=>exact J6 hz
 |str t =>
  cases e with
  |int k =>
   have hz:(if t.length<=sizeLine then(qo t.cps.toList k).map λc=>D.str ⟨#[c]⟩ else none)=some z:=hz
   split at hz
   .rename_i w;cases u:qo t.cps.toList k with
    |none=>rw[u] at hz;exact J6 hz
    |some c =>
     rw[u] at hz;obtain rfl:=Zqi hz;exact .inr (.inr ⟨t,k,c,jy.mp id,je.mp h,w,u,q _ F H (.refl f) (jy.mpr rfl)⟩)
   simp_all
  |_=>exact J6 hz
 |_=>exact J6 hz
def JN (C:X.A.units+1<cLine)(t:QE X E a fa)(u:QE X E b fb)(hs:Av b)(j:wc b):QE X E (.Subscript a b pos) (jg jA fa fb):=
 PE.weak (PE.or (Cw C t u j) (Cq (GA) t u hs)) λZ H Q h=>by
  obtain⟨B,F,sd,r,n⟩:=h;by_cases l:∃d ks ds,fa sd=.ok d/\(d=.dct ks ds\/d=.dcf ks ds)
  .obtain⟨d,ks,ds,l,A⟩:=l;refine .inl ⟨B,F,sd,r,(ja n).monoE (λx f G v I T g J=>?_) λ_ _ q=>q⟩;rw[l] at f;cases f;refine⟨B,I,sd,r.step g,(ja G).mono (λy K w L M s N=>?_) λ_ _ q=>q.ext g⟩;obtain⟨z,hz,q⟩:=jh K;obtain⟨k,O,hz⟩:=Jh.mp (show(QB y).bind (λq=>jI ks ds q)=some z by rcases A with rfl|rfl<;>exact hz);obtain⟨p,U,rfl,P,R,S⟩:=G9 A J;obtain⟨x,f,ix⟩:=(Xx k R S).1 z hz;refine⟨p,x,rfl,?_,q x L M (g.trans s) (jf.same s.ff _ _ ix)⟩;rw[WR O N,<- f];exact Dg (Df s.hh (Df g.fh P))
  .refine .inr (Y7 ⟨B,F,sd,r,?_⟩);unfold jg at n ⊢;cases f:fa sd with
   |ok d =>
    simp_all
   |no=>simp_all
   |ex c fs=>simp_all
def wS (c:Bool):D->D->YH
 |k,.dct ks ds=>(QB k).map λq=>.bl (if c then !(jI ks ds q).isSome else(jI ks ds q).isSome)
 |k,.dcf ks ds=>(QB k).map λq=>.bl (if c then !(jI ks ds q).isSome else(jI ks ds q).isSome)
 |d,.lst ds=>if qR 12 d&&ds.all (qR 12) then some (.bl (if c then !ds.any (λe=>Qz e d) else ds.any λe=>Qz e d)) else none
 |d,.tup ds=>if qR 12 d&&ds.all (qR 12) then some (.bl (if c then !ds.any (λe=>Qz e d) else ds.any λe=>Qz e d)) else none
 |_,_=>none
theorem GB {K:W.Frag}{H:Hp}:∀n d e v,qR n d=true->qR n e=true->jf K H d v->jf K H e v->d=e
 | 0,_,_,_,h,_,_,_=>by exact JB h
 |n+1,d,e,v,hd,he,f,c=>by
  have all:∀ds es g,ds.all (qR n)=true->es.all (qR n)=true->jd K H ds g->jd K H es g->ds=es:=by
   intro ds
   induction ds with
   |nil =>
    intro es g _ _ f c;rw[jd.nil_iff] at f;subst f;have:=c.length
    grind
   |cons d ds A =>
    intro es g w y f c;rw[U4,Ud] at w;rw[jn] at f;obtain⟨x,r,rfl,B,C⟩:=f;cases es with
    |nil=>rw[jd.nil_iff] at c;cases c
    |cons e es =>
     rw[U4,Ud] at y;rw[jn] at c;obtain⟨J,L,t,F,G⟩:=c;cases t;rw[GB n d e x w.1 y.1 B F,A es r w.2 y.2 C G]
  have ne:∀{a:Addr} {g ys:YE},yi K H a g->xl K H a ys->False:=λ{a g ys} p l=>by
   rcases l with l|⟨o,l⟩
   .rw[p] at l;cases l
   .rw[p] at l;cases l
  cases d with
  |int i =>
   rw[je] at f;subst f;cases e with
   |int j=>rw[je] at c;cases c;rfl
   |str j=>rw[jy] at c;cases c
   |non=>rw[jG] at c;cases c
   |tup es=>grind[jv]
   |lst es=>grind[jm]
   |_=>exact JB he
  |str i =>
   rw[jy] at f;subst f;cases e with
   |int j=>rw[je] at c;cases c
   |str j=>rw[jy] at c;cases c;rfl
   |non=>rw[jG] at c;cases c
   |tup es=>simp_all [jv]
   |lst es=>simp_all [jm]
   |_=>exact JB he
  |non =>
   rw[jG] at f;subst f;cases e with
   |int j=>rw[je] at c;cases c
   |str j=>rw[jy] at c;cases c
   |non=>rfl
   |tup es=>grind[jv]
   |lst es=>grind[jm]
   |_=>exact JB he
  |tup ds =>
   rw[jv] at f;obtain⟨a,g,rfl,p,l⟩:=f;cases e with
   |int j=>rw[je] at c;cases c
   |str j=>simp_all [jy]
   |non=>simp_all [jG]
   |tup es =>
    rw[jv] at c;obtain⟨I,q,t,s,z⟩:=c;cases t;have u:H a=some (.tup g):=p;rw[show H a=some (.tup q) from s] at u;cases u;rw[all ds es _ hd he l z]
   |lst es =>
    grind[jm]
   |_=>exact JB he
  |lst ds =>
   rw[jm] at f;obtain⟨a,g,rfl,p,l⟩:=f;cases e with
   |int j=>rw[je] at c;cases c
   |str j=>cases c
   |non=>cases c
   |tup es =>
    grind[jv]
   |lst es =>
    rw[jm] at c;obtain⟨I,q,t,s,z⟩:=c;cases t;have:g=q:=by
     rcases p with p|⟨_,p⟩<;>rcases s with s|⟨_,s⟩<;>rw[p] at s<;>cases s<;>rfl
    subst this;rw[all ds es _ hd he l z]
   |_=>exact JB he
  |_=>exact JB hd
def fV (K:W.Frag)(H:Hp)(d:D)(u:Value):Prop:=∃v,ju v u/\jf K H d v
def x4 (K:W.Frag)(H:Hp)(d:D)(u:Value):Bool:=@decide (fV K H d u) (Classical.propDecidable _)
def Pz {K:W.Frag}{H:Hp}{d e:D}{v:V}{u:Value}(c:qR 12 d=true)(f:qR 12 e=true)(h:jf K H e v)(r:ju v u):x4 K H d u=Qz e d:=by
 by_cases q:e=d
 .rw[q,G0];exact @decide_eq_true _ (Classical.propDecidable _) ⟨v,r,q ▸ h⟩
 .rw[rH.mpr q];refine @decide_eq_false _ (Classical.propDecidable _) λ⟨j,g,h'⟩=>q ?_;rw[g.inj r] at h';exact GB 12 e d v f c h h'
def GC {P:Program}{w:World}{K:W.Frag}{A:Around}{s:Shared}{H:Hp}(B:A.units+60<cLine)(ok:qK P w H s.heap){d:D}{x:V}{v:Value}(hp:qR 12 d=true)(p:jf K H d x)(q:ju x v):
 ∀{ds:YG} {g:YE} {f:Yf},ds.all (qR 12)=true->jd K H ds g->js g f->f.map (x4 K H d)=ds.map (λe=>Qz e d)/\∀u∈f,SeqAt.EqAt A s u v (x4 K H d u):=by
 intro ds
 induction ds with
 |nil =>
  intro g f _ h j;subst h;cases j;simp
 |cons e ds r =>
  intro g f c h j;rw[U4,Ud] at c;obtain⟨y,rs,rfl,l,t⟩:=h;cases j with
  |cons n z =>
   obtain⟨C,F⟩:=r c.2 t z;obtain⟨G,I⟩:=WQ ok 12 e y _ c.1 l n;obtain⟨J,L⟩:=WQ ok 12 d x v hp p q;obtain⟨M,N⟩:=Xw 12 e c.1;obtain⟨O,Q⟩:=Xw 12 d hp;have es:=Pz hp c.1 l n;refine⟨(),λu hm=>?_⟩;rcases Us.mp hm with hm|hm
   .subst hm;rw[es,<- (Vf.mpr ((Dc 12 e d c.1 hp).trans mh.symm):PyData.eqv (yb e) (yb d)=Qz e d)]
    grind[SeqAt.eqAt_reads]
   simp_all
def AL {α: Type}{f:α -> Bool}{l:List α}:l.any f=(l.map f).any id:=()
def P0 (C:X.A.units+64<cLine)(c:Bool):xb X (compareOp (if c then .NotIn else .In)) (vp X.K λd e=>match e with
 | .dct _ _=>none
 | .dcf _ _=>none
 |e=>wS c d e):=by
 intro Y s Z H x y v u Q I r t ⟨F,d,e,z,f,id,h,hz,q⟩;have id':=jf.same f _ _ id;cases e with
 |lst ds =>
  have hz:(if qR 12 d&&ds.all (qR 12) then some (D.bl (if c then !ds.any (λe=>Qz e d) else ds.any λe=>Qz e d)) else none)=some z:=hz
  split at hz
  .rename_i hp;rw[Ud] at hp;obtain rfl:=Zqi hz;rw[jm] at h;obtain⟨p,w,rfl,j,l⟩:=h;obtain rfl:u=Value.ref p:=t;obtain⟨its,n,pl,B⟩:=I.list (j.same f).sq;obtain⟨k1,k2⟩:=GC (A:=X.A.in1) (by show X.A.units+1+60<cLine;lia) I.hok hp.1 id' r hp.2 (jd.same f _ _ l) n;have g:its.toArray.any (x4 X.K H d)=ds.any (λe=>Qz e d):=by
    rw[show its.toArray.any (x4 X.K H d)=its.any (x4 X.K H d) by simp,AL,k1,<- AL]
   cases c with
   |true =>
    refine SeqAt.notIn_listAt (x4 X.K H d) pl.isList () ⟨.bl _,H,I,rfl,?_⟩;rw[g];exact q _ F H (.refl f) (ww _ F)
   |false =>
    refine SeqAt.in_listAt (x4 X.K H d) pl.isList () ⟨.bl _,H,I,rfl,?_⟩;rw[g];exact q _ F H (.refl f) (ww _ F)
  simp_all
 |tup ds =>
  have hz:(if qR 12 d&&ds.all (qR 12) then some (D.bl (if c then !ds.any (λe=>Qz e d) else ds.any λe=>Qz e d)) else none)=some z:=hz
  split at hz
  .rename_i hp;rw[Ud] at hp;obtain rfl:=Zqi hz;obtain⟨p,w,rfl,j,l⟩:=h;obtain rfl:=t;obtain⟨its,n,pl,B⟩:=I.tuple (j.same f).sq;obtain⟨k1,k2⟩:=GC (A:=X.A.in1) (by show X.A.units+1+60<cLine;lia) I.hok hp.1 id' r hp.2 (jd.same f _ _ l) n;have g:its.toArray.any (x4 X.K H d)=ds.any (λe=>Qz e d):=by
    rw[show its.toArray.any (x4 X.K H d)=its.any (x4 X.K H d) by simp,AL,k1,<- AL]
   cases c with
   |true =>
    refine SeqAt.notIn_tupleAt (x4 X.K H d) pl () ⟨.bl _,H,I,rfl,?_⟩;rw[g];exact q _ F H (.refl f) (ww _ F)
   |false =>
    refine SeqAt.in_tupleAt (x4 X.K H d) pl () ⟨.bl _,H,I,rfl,?_⟩;rw[g];exact q _ F H (.refl f) (ww _ F)
  simp_all
 |_=>exact J6 hz
def uC {K:W.Frag}{f:Bool}{Z: St}{H:Hp}{Q:VK}(h:tD K E (jg (wS f) fa fb) Z H Q):
 (λZ H Q=>tD K E fa Z H λy u=>tD K E fb Z u λx j=>∃a o,x=.ref a/\x9 j a y o/\Q (.bl (if f then !o.isSome else o.isSome)) j) Z H Q\/vm (vp K λd e=>match e with
 | .dct _ _=>none
 | .dcf _ _=>none
 |e=>wS f d e) (tD K E fa) (tD K E fb) Z H Q:=by
 obtain⟨B,F,sd,r,n⟩:=h;by_cases l:∃d ks ds,fb sd=.ok d/\(d=.dct ks ds\/d=.dcf ks ds)
 .obtain⟨d,ks,ds,l,A⟩:=l;refine .inl ⟨B,F,sd,r,(ja n).mono (λx J v L u s M=>⟨B,L,sd,r.step s,(ja J).monoE (λy g N w O j C P=>?_) λ_ _ q=>q.ext s⟩) λ_ _ q=>q⟩;rw[l] at g;cases g;obtain⟨z,hz,q⟩:=jh N;obtain⟨k,R,hz⟩:=Jk.mp (show(QB x).map (λq=>D.bl (if f then !(jI ks ds q).isSome else(jI ks ds q).isSome))=some z by rcases A with rfl|rfl<;>exact hz);subst hz;obtain⟨p,G,rfl,S,T,U⟩:=G9 A P;obtain⟨Y,g2⟩:=Xx k T U;refine⟨p,qz (ks.zip G) k,rfl,?_,?_⟩
  .rw[WR R M];exact Dg (Df C.fh S)
  .have es:(qz (ks.zip G) k).isSome=(jI ks ds k).isSome:=by
    cases I:jI ks ds k with
    |none=>rw[g2 I];rfl
    |some d=>obtain⟨x,t,_⟩:=Y d I;rw[t];rfl
   rw[es];exact q _ O j (s.trans C) (jp.mpr rfl)
 .refine .inr (Y7 ⟨B,F,sd,r,?_⟩);unfold jg at n ⊢;cases t:fa sd with
  |ok d =>
   rw[t] at n;cases g:fb sd with
   |ok e =>
    simp_all
   |no=>rwa [g] at n
   |ex c fs=>rwa [g] at n
  |no=>simp_all
  |ex c fs=>simp_all
def GD (j:X.A.units+64<cLine)(c:QE X E a fa)(f:QE X E b fb)(g:behindInMarks .NotIn b=false:=by rfl):QT X E (.Compare a [.NotIn] [b] pos) (JG (jg (wS true) fa fb)):=
 PT.weak (PT.or (E3 (NT () c f) g) (EG (P0 j true) c f g)) λZ H Q h=>uC (Y8 h)
end
section
variable {X:Cx}{E:XK}{m:Option Bool}{a b o i e f tg:Expr}{fa fb fo fi fv:FE}{fr:FA}{pos pos' apos cpos p:Pos}
theorem Q5 {K:W.Frag}{H:Hp}{d:D}{c:YE}(h:jd K H [d] c):∃v,c=[v]/\jf K H d v:=by
 simp_all [jn,jd.nil_iff]
def GE {K:W.Frag}{H:Hp}{d e:D}{c:YE}(h:jd K H [d,e] c):∃v w,c=[v,w]/\jf K H d v/\jf K H e w:=by
 grind[jn,Q5]
def jP:YG->YH
 | [.lst ds]=>some (.int ds.length)
 | [.tup ds]=>some (.int ds.length)
 | [.dct ks _]=>some (.int ks.length)
 | [.scr ns]=>some (.int ns.length)
 | [.str x]=>if x.length<=sizeLine then some (.int x.length) else none
 |_=>none
def rA (ds:YG)(z:D):Prop:=(∃es,ds=[.lst es]/\z=.int es.length)\/(∃es,ds=[.tup es]/\z=.int es.length)\/(∃ks es,ds=[.dct ks es]/\z=.int ks.length)\/(∃ns,ds=[.scr ns]/\z=.int ns.length)\/∃x,x.length<=sizeLine/\ds=[.str x]/\z=.int x.length
def P1 (hz:jP ds=some z):rA ds z:=by
 cases ds with
 |nil=>exact J6 hz
 |cons d ds =>
  cases ds with
  |nil =>
   cases d with
   |lst ds=>exact .inl ⟨_,rfl,(Zqi hz).symm⟩
   |tup ds=>exact .inr (.inl ⟨_,rfl,(Zqi hz).symm⟩)
   |dct ks ds=>exact .inr (.inr (.inl ⟨_,_,rfl,(Zqi hz).symm⟩))
   |scr ns=>exact .inr (.inr (.inr (.inl ⟨_,rfl,(Zqi hz).symm⟩)))
   |str x=>exact let q:=Pk hz;.inr (.inr (.inr (.inr ⟨_,q.1,rfl,q.2.symm⟩)))
   |_=>exact J6 hz
  |cons e ds=>cases d<;>exact J6 hz
def Kp:qa X (.builtin "len") (wM X.K jP):=qa.weak (qa.or NH (qa.or Oh NI)) λr H Q l=>by
 obtain⟨F,ds,z,c,id,hz,q⟩:=l;rcases P1 hz with ⟨es,rfl,rfl⟩|⟨es,rfl,rfl⟩|⟨ks,es,rfl,rfl⟩|⟨ns,rfl,rfl⟩|⟨x,n,rfl,rfl⟩
 .obtain⟨v,rfl,h⟩:=Q5 id;obtain⟨a,ys,rfl,g,j⟩:=h;rw[<- j.length] at q;exact .inl ⟨a,ys,rfl,.inl (g.same c).sq,q _ F H (.refl c) (yQ _ F)⟩
 .obtain⟨v,rfl,h⟩:=Q5 id;obtain⟨a,ys,rfl,g,j⟩:=h;rw[<- j.length] at q;exact .inl ⟨a,ys,rfl,.inr (g.same c).sq,q _ F H (.refl c) (yQ _ F)⟩
 .obtain⟨v,rfl,h⟩:=Q5 id;obtain⟨a,ys,rfl,g,j,s⟩:=h;refine .inr (.inl ⟨a,_,rfl,c _ _ g,?_⟩);rw[List.length_zip,<- j,Nat.min_self];exact q _ F H (.refl c) (yQ _ F)
 .obtain⟨v,rfl,h⟩:=Q5 id;obtain⟨a,rfl,g⟩:=h;refine .inl ⟨a,_,rfl,.inl (jk.seq c g),?_⟩;rw[Zql];exact q _ F H (.refl c) (yQ _ F)
 .obtain⟨v,rfl,h⟩:=Q5 id;subst h;exact .inr (.inr ⟨_,rfl,n,q _ F H (.refl c) (yQ _ F)⟩)
def AM:YG->YH
 | [.int i,.int j]=>some (.int (if j > i then j else i))
 |_=>none
def hF (ds:YG):Prop:=∃i j,ds=[.int i,.int j]
def P3 (hz:AM ds=some z):hF ds:=by
 cases ds with
 |nil=>exact J6 hz
 |cons d ds =>
  cases ds with
  |nil=>cases d<;>exact J6 hz
  |cons e ds =>
   cases d with
   |int i =>
    cases e with
    |int j =>
     cases ds with
     |nil=>exact⟨_,_,rfl⟩
     |cons _ _=>exact J6 hz
    |_=>exact J6 hz
   |_=>exact J6 hz
def P4 (c:X.calm=true):qa X (.builtin "max") (wM X.K AM):=qa.weak (Nj c) λr H Q g=>by
 obtain⟨F,ds,z,h,id,hz,q⟩:=g;obtain⟨i,j,rfl⟩:=P3 hz;obtain rfl:=Zqi hz;obtain⟨v,w,rfl,l,n⟩:=GE id;exact⟨_,_,by rw[je.mp l,je.mp n],q _ F H (.refl h) (yQ _ F)⟩
def AN:D->Option Yh
 | .lst ds=>Qy YL ds
 |_=>none
def GF {K:W.Frag}{H:Hp}{d:D}{ns:Yh}{v:V}(h:AN d=some ns)(i:jf K H d v):∃a,v=.ref a/\xl K H a (ns.map V.int):=by
 cases d with
 |lst ds =>
  obtain⟨a,j,rfl,g,c⟩:=i;rw[Ps (h)] at c;rw[qx c] at g
  simp_all
 |_=>exact J6 h
def GG (ns):AN (.lst (ns.map D.int))=some ns:=Pt ns
def YP:YG->YH
 | [d]=>(AN d).bind λns=>if ns=[] then none else some (.int (qH ns))
 |_=>none
def YQ:YG->YH
 | [d]=>(AN d).bind λns=>if ns=[] then none else some (.int (xh ns))
 |_=>none
def P5 (g:X.calm=true):qa X (.builtin "max") (wM X.K YP):=qa.weak (Ov g) λs H Q j=>by
 obtain⟨F,ds,z,c,id,hz,q⟩:=j;unfold YP at hz
 split at hz
 .obtain⟨ns,l,hz⟩:=Jh.mp hz
  split at hz
  .exact J6 hz
  .rename_i n;obtain rfl:=Zqi hz;obtain⟨v,rfl,h⟩:=Q5 id;obtain⟨a,rfl,r⟩:=GF l h;exact⟨a,ns,rfl,(r.same c).sq,n,q _ F H (.refl c) (yQ _ F)⟩
 simp_all
def P6 (g:X.calm=true):qa X (.builtin "min") (wM X.K YQ):=qa.weak (Ow g) λs H Q j=>by
 obtain⟨F,ds,z,c,id,hz,q⟩:=j;unfold YQ at hz
 split at hz
 .obtain⟨ns,l,hz⟩:=Jh.mp hz
  split at hz
  .exact J6 hz
  .rename_i n;obtain rfl:=Zqi hz;obtain⟨v,rfl,h⟩:=Q5 id;obtain⟨a,rfl,r⟩:=GF l h;exact⟨a,ns,rfl,(r.same c).sq,n,q _ F H (.refl c) (yQ _ F)⟩
 simp_all
def p7:D->Option String
 | .non=>some "NoneType"
 | .bl _=>some "bool"
 | .int _=>some "int"
 | .str _=>some "str"
 | .lst _=>some "list"
 | .tup _=>some "tuple"
 | .dct _ _=>some "dict"
 |_=>none
def mm (t n:String):Bool:=(t == n)||(t == "bool" && n == "int")
def P7 (t n:String):Bool:=["NoneType", "bool", "int", "str", "list", "tuple", "dict"].contains t&&["bool", "int", "str", "list", "tuple", "dict"].contains n
def v7:YG->YH
 | [d,.ty n]=>(p7 d).bind λt=>if P7 t n then some (.bl (mm t n)) else none
 |_=>none
def QU:YG->YH
 | [.lst ds]=>some (.lst ds)
 | [.tup ds]=>some (.lst ds)
 | [.scr ns]=>some (.lst (ns.map .int))
 |_=>none
def hD (ds:YG)(z:D):Prop:=(∃es,ds=[.lst es]/\z=.lst es)\/(∃es,ds=[.tup es]/\z=.lst es)\/∃ns,ds=[.scr ns]/\z=.lst (ns.map .int)
def P8 (hz:QU ds=some z):hD ds z:=by
 cases ds with
 |nil=>exact J6 hz
 |cons d ds =>
  cases ds with
  |nil =>
   cases d with
   |lst ds=>exact .inl ⟨_,rfl,(Zqi hz).symm⟩
   |tup ds=>exact .inr (.inl ⟨_,rfl,(Zqi hz).symm⟩)
   |scr ns=>exact .inr (.inr ⟨_,rfl,(Zqi hz).symm⟩)
   |_=>exact J6 hz
  |cons e ds=>cases d<;>exact J6 hz
def WS:qa X (.type "list") (zO X.K QU):=qa.weak NJ λt H Q s=>by
 obtain⟨F,ds,z,g,id,hz,q⟩:=s;have c:∀{es:YG} {ys:YE},jd X.K F es ys->xY X.K F H Q (.lst es)->∀l,H l=none->Q (.ref l) (upd H l (.lst ys)):=λ{es ys} h q l n =>
  q l F _ (.keep g n _) n (Qg g n) ⟨ys,JM,h⟩
 rcases P8 hz with ⟨es,rfl,rfl⟩|⟨es,rfl,rfl⟩|⟨ns,rfl,rfl⟩
 .obtain⟨v,rfl,h⟩:=Q5 id;obtain⟨a,ys,rfl,j,r⟩:=h;exact⟨a,ys,rfl,.inl (j.same g).sq,c r q⟩
 .obtain⟨v,rfl,h⟩:=Q5 id;obtain⟨a,ys,rfl,j,r⟩:=h;exact⟨a,ys,rfl,.inr (j.same g).sq,c r q⟩
 .obtain⟨v,rfl,h⟩:=Q5 id;obtain⟨a,rfl,j⟩:=h;exact⟨a,_,rfl,.inl (jk.seq g j),c (qd _) q⟩
def Ws:YG->YH
 | [.lst ds]=>some (.tup ds)
 | [.tup ds]=>some (.tup ds)
 |_=>none
def rx (ds:YG)(z:D):Prop:=(∃es,ds=[.lst es]/\z=.tup es)\/∃es,ds=[.tup es]/\z=.tup es
def P9 (hz:Ws ds=some z):rx ds z:=by
 cases ds with
 |nil=>exact J6 hz
 |cons d ds =>
  cases ds with
  |nil =>
   cases d with
   |lst ds=>exact .inl ⟨_,rfl,(Zqi hz).symm⟩
   |tup ds=>exact .inr ⟨_,rfl,(Zqi hz).symm⟩
   |_=>exact J6 hz
  |cons e ds=>cases d<;>exact J6 hz
def AO:qa X (.type "tuple") (wM X.K Ws):=qa.weak NK λt H Q r=>by
 obtain⟨F,ds,z,c,id,hz,q⟩:=r;rcases P9 hz with ⟨es,rfl,rfl⟩|⟨es,rfl,rfl⟩
 .obtain⟨v,rfl,h⟩:=Q5 id;obtain⟨a,ys,rfl,g,j⟩:=h;refine⟨a,ys,rfl,.inl ⟨(g.same c).sq,λl s=>?_⟩⟩;have n:=qf c s (.tup ys);exact q _ _ _ n (jv.mpr ⟨l,ys,rfl,.of JM,jd.same n.ff _ _ j⟩)
 .obtain⟨v,rfl,h⟩:=Q5 id;have h':=h;obtain⟨a,ys,rfl,g,j⟩:=h;exact⟨a,ys,rfl,.inr ⟨(g.same c).sq,q _ F H (.refl c) h'⟩⟩
def ym (r:Jy):D:=.dct (r.map λp=>.inl p.1) (r.map λp=>.int p.2)
def Xy (r:Jy):Jy:=r.foldl (λa p=>qF a p.1 p.2) []
def PB (r):A1 r=xy (Xy r):=Gj r []
def PF (h:j7 r):Xy r=r:=by
 grind[Xy,Gk]
def GH (r):xy r=(r.map λp=>(Ue p.1:jC)).zip (r.map λp=>V.int p.2):=by
 grind[xy,List.map_cons]
def PH (K)(F)(r:Jy):jd K F (r.map λp=>D.int p.2) (r.map λp=>V.int p.2):=by
 have:=qd (K:=K) (H:=F) (r.map (·.2))
 rwa [Zw,Zw] at this
def WT:YG->YH
 | [d]=>(K3 d).bind λr=>if r.length<=100 then some (ym (Xy r)) else none
 |_=>none
def Dh (g:X.calm=true):qa X (.type "dict") (zO X.K WT):=qa.weak (O1 g) λj H Q l=>by
 obtain⟨F,ds,z,c,id,hz,q⟩:=l;unfold WT at hz
 split at hz
 .obtain⟨r,n,hz⟩:=Jh.mp hz
  split at hz
  .rename_i s;obtain rfl:=Zqi hz;obtain⟨v,rfl,h⟩:=Q5 id;rw[Gx n,bZ] at h;obtain⟨a,ys,e,_⟩:=(show ∃a j,v=.ref a/\_ by unfold rD at h;rwa [yA] at h);subst e;refine⟨a,r,rfl,(Is.same c _ _ h),s,λp hp=>(q p F _ (.keep c hp _) hp (Qg c hp) ⟨(Xy r).map λp=>V.int p.2,?_,(),PH _ _ _⟩)⟩;rw[JM,PB,GH]
  .exact J6 hz
 simp_all
def fM:FE:=λ_=>.ok (.dct [] [])
def PJ:QN X E (.Dict [] [] pos) fM:=PE.weak NW λZ H Q ⟨B,F,sd,r,n⟩=>λp hp=>n p F _ (.keep r.ext.fh hp _) hp (Qg r.ext.fh hp) ⟨[],JM,rfl,.nil⟩
def Xz (fo c g:FE):FE:=λsd=>(fo sd).bind λd=>match d with
 | .dct ks ds=>(c sd).bind λk=>(g sd).bind λx=>.ofO ((QB k).map λq=>(jI ks ds q).getD x)
 |_=>.no
def GI (C:X.A.units+1<cLine)(G:QE X E o fo)(I:QE X E e fa)(J:QE X E f fb)(K:M2 X o "get" apos e f cpos):QE X E (.Call (.Attribute o "get" apos) [e,f] [] cpos) (Xz fo fa fb):=PE.weak (Oa C G I J K) λZ H Q L=>by
 obtain⟨B,F,sd,r,n⟩:=L;refine⟨B,F,sd,r,(ja n).mono (λd s v M H1 c N=>?_) λ_ _ q=>q⟩;cases d with
 |dct ks ds =>
  obtain⟨p,O,rfl,P,R,S⟩:=N;have hp:=c.fh _ _ P;refine⟨p,rfl,.inl ⟨_,.inl hp⟩,B,M,sd,r.step c,(ja s).mono (λk T w U H2 g Y=>⟨B,U,sd,(r.step c).step g,(ja T).mono (λx n3 u t A h i3=>?_) λ_ _ q=>q.ext (c.trans g)⟩) λ_ _ q=>q.ext c⟩;obtain⟨z,hz,q⟩:=jh n3;obtain⟨l,hk,hz⟩:=Jk.mp hz;subst hz;obtain⟨g1,g2⟩:=Xx l R S;refine⟨qz (ks.zip O) l,?_,?_⟩
  .rw[WR hk Y];exact x9.k (h.hh _ _ (g.hh _ _ hp))
  .cases j:jI ks ds l with
   |none =>
    rw[j] at q;rw[g2 j];exact q _ t A ((c.trans g).trans h) i3
   |some d =>
    rw[j] at q;obtain⟨y,hy,iy⟩:=g1 d j;rw[hy];exact q _ t A ((c.trans g).trans h) (jf.same (g.ff.trans h.ff) _ _ iy)
 |_=>exact s.elim
def YR (i:Nat)(c fv:FE):FS:=λsd=>(fv sd).bind λv=>match sd[i]? with
 |some (some (.own false (.dct ks ds)))=>(c sd).bind λk=>match QB k with
  |some q=>if ks.length<sizeLine then .ok (.next (sd.set i (some (.own false (.dct (V1 ks q) (Wr ks ds q v)))))) else .no
  |none=>.no
 |_=>.no
def PK (x:X.A.units+1<cLine)(y:PE X o (yc j))(z:QE X E i fi)(A:QE X E e fv)(hs:swapsWith e (some (.Subscript o i pos')) pos.line X.env=pure false:=by rfl):
 QS X E m (.Assign [.Subscript o i pos'] e pos) (YR j fi fv):=PS.weak (Fd x y z A hs) λT Z H C=>by
 obtain⟨B,F,sd,r,n⟩:=C;refine⟨B,F,sd,r,(ja n).mono (λd s v G S c I=>?_) λ_ _ q=>q.ext r.ext⟩
 split at s
 .rename_i ks ds t;obtain⟨l,u,U,Y,⟨xs,J,K,L⟩,_⟩:=(r.step c).own t;refine⟨.ref l,u,B,G,sd,r.step c,(ja s).mono (λk g w M H2 h N=>?_) λ_ _ q=>q.ext (r.step c).ext⟩
  split at g
  .rename_i q O
   split at g
   .obtain⟨ys,P,Q,R⟩:=G8 K (jd.same h.ff _ _ L) (jf.same h.ff _ _ I);exact⟨l,_,rfl,(by rw[WR O N];exact zA.k (h.hh _ _ J) ()),g Z M _ (c.ff.trans h.ff) (((r.step c).step h).chg t u ⟨ys,by rw[JM,P],Q,R⟩)⟩
   .exact g.elim
  .exact g.elim
 .exact s.elim
def AQ:D->Option YG
 | .lst ds=>some ds
 | .scr ns=>some (ns.map .int)
 |_=>none
def ug:D->Option YG
 | .tup ds=>some ds
 |_=>none
def iL (f:FE):FA:=λsd=>(f sd).bind λd=>.ofO (AQ d)
def iT (f:FE):FA:=λsd=>(f sd).bind λd=>.ofO (ug d)
def Di {K:W.Frag}{l:Hp}{J:It}{ds:YG}{c:YE}{S:Hp->Prop}(h:jd K l ds c)(w:∀F H,jk l F->jk F H->S H)(g:∀i H x,S H->c[i]? = some x->J.go i H)(st:∀i H,S H->c.length<=i->J.stop i H)
 (z:∀i H x r,S H->J.yld i H x r->r=H/\c[i]? = some x):zY K l J ds:=λi s j t u=>by
 have n:=w s j t u;refine⟨λv=>?_,λv=>st i j n (by rwa [h.length])⟩;obtain⟨x,A,_⟩:=h.get (Zqg v);refine⟨g i j x n A,λy B C=>?_⟩;obtain⟨rfl,q⟩:=z i j y B n C;obtain⟨d,G,id⟩:=h.getV q;exact⟨d,s,G,.refl u,jf.same t _ _ id⟩
def PL (h:QE X E e fa):QI X E tg e (iL fa):=PI.weak (MV h) λZ H R G=>by
 obtain⟨B,F,sd,r,n⟩:=G;refine⟨B,F,sd,r,(ja n).mono (λd I v z A l C=>?_) λ_ _ q=>q⟩;obtain⟨ds,hz,q⟩:=jh I;cases d with
 |lst es =>
  obtain rfl:=Zqi hz;obtain⟨a,s,rfl,g,J⟩:=C;refine⟨a,rfl,⟨s,(g.same l.fh).sq⟩,q _ z A l (Di J (λF H t u=>((g.same t).same u).sq) (λi H x c w=>⟨s,x,c,w⟩) (λi H c y=>⟨s,c,y⟩) λi H x K c j=>⟨j.1,j.2 s c⟩)⟩
 |scr ns =>
  obtain rfl:=Zqi hz;obtain⟨a,rfl,g⟩:=C;refine⟨a,rfl,⟨_,jk.seq l.fh g⟩,q _ z A l (Di (qd ns) (λF H t u=>jk.seq u (jk.seq t g)) (λi H x c w=>⟨_,x,c,w⟩) (λi H c y=>⟨_,c,y⟩) λi H x K c j=>⟨j.1,j.2 _ c⟩)⟩
 |_=>exact J6 hz
def PM (h:QE X E e fa):QI X E tg e (iT fa):=PI.weak (MW h) λZ H R t=>by
 obtain⟨B,F,sd,r,n⟩:=t;refine⟨B,F,sd,r,(ja n).mono (λd u v w y j z=>?_) λ_ _ q=>q⟩;obtain⟨ds,hz,q⟩:=jh u;cases d with
 |tup es =>
  obtain rfl:=Zqi hz;obtain⟨a,g,rfl,l,A⟩:=z;refine⟨a,rfl,⟨g,(l.same j.fh).sq⟩,q _ w y j (Di A (λF H C G=>((l.same C).same G).sq) (λi H x c I=>⟨g,x,c,I⟩) (λi H c J=>⟨g,c,J⟩) λi H x K c s=>⟨s.1,s.2 g c⟩)⟩
 |_=>exact J6 hz
def rz {X:Cx}{tg e:Expr}{t t':TI}(h:PI X tg e t)(h':PI X tg e t'):PI X tg e (λZ H R=>t Z H R\/t' Z H R):=λY s Z H R I q=>q.elim (h Y s Z H R I) (h' Y s Z H R I)
def WU:D->Option YG
 | .lst ds=>some ds
 | .scr ns=>some (ns.map .int)
 | .tup ds=>some ds
 |_=>none
def iS (f:FE):FA:=λsd=>(f sd).bind λd=>.ofO (WU d)
def JW (h:QE X E e fa):QI X E tg e (iS fa):=PI.weak (rz (PL h) (PM h)) λZ H R l=>by
 obtain⟨B,F,sd,r,n⟩:=l;by_cases g:∃ds,fa sd=.ok (.tup ds)
 .obtain⟨ds,g⟩:=g;refine .inr ⟨B,F,sd,r,?_⟩;unfold iS at n;unfold iT
  rwa [g] at n ⊢
 .refine .inl ⟨B,F,sd,r,?_⟩;unfold iS at n;unfold iL;cases j:fa sd with
  |ok d =>
   rw[j] at n;cases d with
   |tup ds=>simp_all
   |_=>exact n
  |no=>rwa [j] at n
  |ex c fs=>rwa [j] at n
def Qd (lo:Int)(n:Nat):YG:=(List.range n).map λk:Nat=>.int (lo+k)
def X0 (j:Int):Bool:=Nat.ble j.toNat 1000000000&&Nat.ble (-j).toNat 1000000000
def GJ (h:X0 j=true): -(2 ^ 62)<=j/\j<2 ^ 62:=by
 unfold X0 at h;rw[Ud,Nat.ble_eq,Nat.ble_eq] at h;lia
def PN (c: -1000000000<=j)(g:j<=1000000000):X0 j=true:=by
 unfold X0;rw[Ud,Nat.ble_eq,Nat.ble_eq];lia
def zr (fr:FA):FA:=λsd=>(fr sd).bind λds=>match ds with
 | [.int j]=>if X0 j then .ok (Qd 0 j.toNat) else .no
 |_=>.no
def PP {K:W.Frag}{g:Hp}(lo)(n):zY K g (bX lo n) (Qd lo n):=λi h r s j=>by
 have l:(Qd lo n).length=n:=by unfold Qd;simp
 rw[l];refine⟨λc=>⟨c,λx t q=>?_⟩,λc=>c⟩;obtain⟨rfl,rfl⟩:=q;refine⟨.int (lo+i),h,?_,.refl j,je.mpr rfl⟩
 simp_all [Qd]
def WV {a:Expr}(l:Gl X "range")(s:X.mg "range" = none)(t:QA X E [a] fr)(hs:starEach [a] X.env=[(false,eval a X.env)]:=by rfl):QI X E tg (.Call (.Name "range" p) [a] [] pos) (zr fr):=PI.weak (MY l s t hs) λZ H R u=>by
 obtain⟨B,F,sd,r,n⟩:=u;refine⟨B,F,sd,r,(ja n).mono (λds c A w x y z=>?_) λ_ _ q=>q⟩
 split at c
 .split at c
  .rename_i j g;obtain⟨v,rfl,h⟩:=Q5 z;rw[je.mp h];exact⟨j,rfl,(GJ g).1,(GJ g).2,c _ w x y (PP 0 _)⟩
  .exact c.elim
 .exact c.elim
end
section
variable {X:Cx}{E:XK}{m:Option Bool}{a b o i e f tg:Expr}{fa fb fo fi fv:FE}{fr:FA}{pos pos' apos cpos p:Pos}
def PG.weak (h:PG X e t)(w:∀v Z H Q,t' v Z H Q->t v Z H Q):PG X e t':=λY s Z H v u Q I r q=>h Y s Z H v u Q I r (w _ _ _ _ q)
def Dj:Yj->vt
 | []=>gn
 |i::is=>E8 (KR i) (Dj is)
theorem GK:∀{is:Yj} {c:YE} {Z: St} {H:Hp} {Q:St->Hp->Prop},c.length=is.length->Q (AH is c Z) H->Dj is c Z H Q
 | [],c,Z,H,Q,hl,q=>⟨(),q⟩
 |i::is,[],Z,H,Q,hl,q=>by cases hl
 |i::is,x::c,Z,H,Q,hl,q=>⟨x,c,rfl,GK (UL hl) q⟩
def Qc {i:Nat}{e:Expr}(h:PG X e (KR i)):QG X e (.one i):=h
def Kd (is)(h:PG X e (gj X.K is.length (Dj is))):QG X e (.tup is):=PG.weak h λv Z H Q ⟨a,g,e,j,c,q⟩=>⟨a,g,e,j,c,GK c q⟩
def K9 (tg:Tg)(c:FT)(f:FE)(sd:SD):YG->Res YG
 | []=>.ok []
 |x::xs=>(JQ tg x sd).bind λs=>(c s).bind λb=>if b then(f s).bind λy=>(K9 tg c f sd xs).bind λys=>.ok (y::ys) else K9 tg c f sd xs
def Wt (cap:List (Option Nat))(it:FA)(tg:Tg)(c:FT)(f:FE):FE:=λsd=>(it sd).bind λds=>if Ux (jW cap sd) tg=true/\ds.length<sizeLine then
 (K9 tg c f (jW cap sd) ds).bind λys=>.ok (.lst ys) else .no
def GL {K:W.Frag}{t:Tg}{fi:FA}{G:FT}{f:FE}{cap:List (Option Nat)}{Z: St}{H:Hp}{Q:VK}(I:vP K E (Wt cap fi t G f) Z H Q):XT cap (ba K E fi) (gT t K) (hY K E G) (tD K E f) Z H Q:=by
 obtain⟨B,F,sd,r,n⟩:=I;refine⟨B,F,sd,r,(ja n).mono (λds L J P H1 w wk=>?_) λ_ _ q=>q⟩
 split at L
 .rename_i I;obtain⟨hn,hz⟩:=I;refine⟨λi k ys Z l=>k=ds.length-i/\i<=ds.length/\∃h es,Ext P H1 h l/\RS K B h l (jW cap sd) Z /\ jd K h es ys/\es.length<=i /\
   (K9 t G f (jW cap sd) (ds.drop i)).need (λrs=>xY K h l Q (.lst (es++rs))) (XW K E h l),⟨ds.length,rfl,Ua _,P,[],.refl w.fh,(r.step w).cap cap,.nil,Zf _,?_⟩,?_⟩
  .exact(ja L).mono (λrs q=>(q).ext w) λ_ _ q=>q.ext w
  rintro i k ys Z2 l ⟨rfl,hi,h,es,z,M,A,R,s⟩;have ly:=A.length;refine⟨(),?_⟩;obtain⟨w1,w2⟩:=wk i h l z.ff z.fh;by_cases j:i<ds.length
  .obtain⟨go,yl⟩:=w1 j;refine .inr ⟨go,λx H3 y=>?_⟩;obtain⟨d,F3,hd,g,i3⟩:=yl x H3 y;rw[Uu j] at s;have N:ds[i]=d:=by grind[Zqg,Zqi]
   rw[N] at s;refine Xv (M.step g) i3 (ja s) λsd' Z' n4 hb C=>?_;have ⟨S,T⟩:=CY hn hb;refine⟨B,F3,sd',C,(ja n4).mono (λb U Y H4 c=>?_) λ_ _ q=>q.ext g⟩;cases b with
   |true =>
    refine⟨B,Y,sd',C.step c,(ja U).mono (λy n6 v F5 H5 u i5=>⟨ds.length-(i+1),(),rfl,j,F5,es++[y],((z.trans g).trans c).trans u,((C.step c).step u).forget S T,(jd.same ((g.ff.trans c.ff).trans u.ff) _ _ A).snoc i5,by rw[Ub];exact Vy R,(ja n6).mono (λrs q=>?_) λ_ _ q=>q.ext ((g.trans c).trans u)⟩) λ_ _ q=>q.ext (g.trans c)⟩;rw[Uh];exact(q).ext ((g.trans c).trans u)
   |false =>
    exact⟨ds.length-(i+1),(),rfl,j,Y,es,(z.trans g).trans c,(C.step c).forget S T,jd.same (g.ff.trans c.ff) _ _ A,Vk R,(U).mono (λrs q=>q.ext (g.trans c)) λ_ _ q=>q.ext (g.trans c)⟩
  .have he:i=ds.length:=()
   subst he;refine .inl ⟨w2 (Zf _),λD O=>?_⟩;rw[U9] at s;have q:xY K h l Q (.lst (es++[])):=s;rw[ZB] at q;exact q D h _ (.keep M.ext.fh O _) O (Qg M.ext.fh O) ⟨ys,JM,A⟩
 .exact L.elim
def Dk {tg j l c:Expr}{g:Scope}{t:Tg}{fi:FA}{u:FT}{f:FE}(N)(cap)(v:X.calm=true)(r:QP g X.env N X.N cap=true)(w:QI X E tg j fi)
 (y:∀n C s H q,QG (JJ X g N n C s H q) tg t) (z:∀n C s H q,QT (JJ X g N n C s H q) E c u) (A:∀n C s H q,QE (JJ X g N n C s H q) E l f) (hs:∀x,foldedSetIterable j X.env x=pure x:=by intro _;rfl):
 QN X E (.ListComp l [⟨tg,j,[c],0⟩] g pos) (Wt cap fi t u f):=PE.weak (OV N cap v r w y z A hs) λ_ _ _ h=>GL h
def YS:List jC->YG->Option Jy
 | .inl k::ks,.int v::ds=>(YS ks ds).map λr=>(k,v)::r
 | [],[]=>some []
 |_,_=>none
def PQ (ks:List jC)(ds:YG)(r:Jy):Prop:=ks=r.map (λp=>.inl p.1)/\ds=r.map λp=>.int p.2
def PR (h:YS ks ds=some r):PQ ks ds r:=by
 induction ks generalizing ds r with
 |nil =>
  cases ds with
  |nil=>obtain rfl:=Zqi h;exact⟨rfl,rfl⟩
  |cons _ _=>exact J6 h
 |cons k ks c =>
  cases k with
  |inr _=>exact J6 h
  |inl k =>
   cases ds with
   |nil=>exact J6 h
   |cons d ds =>
    cases d with
    |int v =>
     obtain⟨l,g,j⟩:=Jk.mp (h);subst j;exact⟨Zt (Ue k :: ·) (c g).1,Zt (D.int v :: ·) (c g).2⟩
    |_=>exact J6 h
def PU (r):YS (r.map λp=>.inl p.1) (r.map λp=>.int p.2)=some r:=by
 induction r with
 |nil=>rfl
 |cons p r c=>exact Zt (Option.map λr=>(p.1,p.2)::r) c
def wq (s:jk F H)(fr:∀p∈L,H p.1=none):Ext F H (qC F L) (qC H L):=by
 have c:∀{G:Hp} {b:Addr},H b≠none->qC G L b=G b:=λ{G b} g=>AB ();have ne:∀{b:Addr} {o:HO},H b=some o->H b≠none:=by grind
 refine⟨λb o e=>by rwa [c (ne (s _ _ e))],λb o e=>?_,λb o e=>by rwa [c (ne e)],()⟩;rcases Gh e with h|⟨h1,h2⟩
 .grind[qC]
 .rw[AB h1];exact s _ _ h2
def Dl:D->YH
 | .dct ks ds=>(YS ks ds).bind λr=>if r ≠ []/\r.length<1000 then some (.lst ((JL jT r).map q9)) else none
 |_=>none
def Dm (fo:FE):FE:=λsd=>(fo sd).bind λd=>.ofO (Dl d)
def PX (h:∀{C:TE},PE X o C->PE X e (v1 (λt H Q=>∃c d r,t=[.ref c]/\H c=some (Wm c d)/\H d=some (.dK (xy r))/\r ≠ []/\r.length<1000/\∀l L,(∀p∈L,H p.1=none)->(L.map (·.1)).Nodup->(∀G,Is (qC G L) (.list ((JL jT r).map pD)) (.ref l))->Q (.ref l) (qC H L))
 (Ar (uG X.K "dict" (λx M H Q=>∃d u,x=.ref d/\M=[]/\H d=some (.dK u)/\∀p,H p=none->Q (.ref p) (upd H p (Wm p d))) C) wG))) (N:QE X E o fo):QE X E e (Dm fo):=PE.weak (h N) λZ H Q O=>by
 obtain⟨B,F,sd,r,n⟩:=O;refine⟨B,F,sd,r,(ja n).mono (λd P v s I w R=>?_) λ_ _ q=>q⟩;obtain⟨z,hz,q⟩:=jh P;cases d with
 |dct ks ds =>
  obtain⟨y,S,A⟩:=Jh.mp (hz)
  split at A
  .rename_i J;obtain rfl:=Zqi A;obtain⟨k1,k2⟩:=PR S;obtain⟨d,t,rfl,T,g2,U⟩:=R;have Y:t=y.map λp=>V.int p.2:=by
    rw[k2] at U;have:=qx (by rwa [Zw]);rw[this,Zw];rfl
   have hd:s d=some (.dK (xy y)):=by rw[T,k1,Y,<- GH]
   have g:=w.fh _ _ hd;refine⟨.inr (.inr (.inl ⟨rfl,.inl ⟨_,g⟩⟩)),d,_,rfl,rfl,g,λc j=>⟨c,d,y,rfl,JM,(Kz j (Wm c d)) _ _ g,J.1,J.2,λl L fr nd hl=>?_⟩⟩;have K:Ext s I s (upd I c (Wm c d)):=.keep w.fh j _;refine q _ _ _ (w.trans (K.trans (wq K.fh fr))) ?_;obtain⟨l',ys,e',g4,g5⟩:=xD.mp (hl s);exact jm.mpr ⟨l',ys,e',.of g4,vY.mpr g5⟩
  .exact J6 A
 |_=>exact J6 hz
end
section
variable {P:Program}{w:World}{K:W.Frag}{mg:Ye}{base:Heap}{f:Addr}{fd:FuncData}{ps:Yk}{k:Nat}
def gE:FnOk P w K mg base yp k f fd ps (qJ K λ_=>.no):=⟨λ_ _ _ _ ⟨_,_,_,_,n⟩=>n.elim,λ_ _ _ _ _ _ _ _ _ _ _ _ _ ⟨_,_,_,_,n⟩=>n.elim⟩
end
section
variable {X:Cx}{E:XK}{m:Option Bool}{a b o i e f tg:Expr}{fa fb fo fi fv:FE}{fr:FA}{pos pos' apos cpos p:Pos}
def xU (c:Bool):D->YH
 | .non=>some (.bl (!c))
 |_=>some (.bl c)
def GM:D->Bool
 | .non=>true
 |_=>false
def PY {K:W.Frag}{H:Hp}{d:D}{v:V}(h:jf K H d v):decide (v=.non)=GM d:=by
 cases d with
 |non=>rw[jG.mp h];rfl
 |bl b=>rw[jp.mp h];rfl
 |int b=>rw[je.mp h];rfl
 |str b=>rw[jy.mp h];rfl
 |ty b=>rw[zd.mp h];rfl
 |scr b=>obtain⟨a,rfl,_⟩:=qq.mp h;rfl
 |tup b=>obtain⟨a,_,rfl,_⟩:=jv.mp h;rfl
 |lst b=>obtain⟨a,_,rfl,_⟩:=jm.mp h;rfl
 |dct b c=>obtain⟨a,_,rfl,_⟩:=jY.mp h;rfl
 |ins b c d=>obtain⟨a,_,_,_,rfl,_⟩:=jX.mp h;rfl
 |exc b=>obtain⟨a,_,rfl,_⟩:=qP.mp h;rfl
 |ucl b=>obtain⟨a,rfl,_⟩:=yO.mp h;rfl
 |adr b=>rw[jL.mp h];rfl
 |dcf b c=>obtain⟨a,_,_,rfl,_⟩:=qs.mp h;rfl
 |pin b c=>rw[(qr.mp h).1];rfl
def PZ {K:W.Frag}{Z: St}{H:Hp}{Q:VK}(h:tD K E (qV (xU true) fa) Z H Q):E2 (tD K E fa) Z H Q:=by
 obtain⟨B,F,sd,r,n⟩:=h;refine⟨B,F,sd,r,(ja n).mono (λx g v j c l s=>?_) λ_ _ q=>q⟩;show Q (V.bl !decide (v=V.non)) c;rw[PY s];cases x<;>exact g _ j c l (jp.mpr rfl)
def GN {j pos'}(c:QE X E a fa):QT X E (.Compare a [.IsNot] [.Constant .none j pos'] pos) (JG (qV (xU true) fa)):=PT.weak (E3 (MK c)) λ_ _ _ h=>PZ (Y8 h)
def V2 (i:Nat)(fb:FE):FE:=λsd=>match sd[i]? with
 |some (some (.own _ d))=>(fb sd).bind λy=>.ofO (jA d y)
 |_=>.no
def GO {i:Nat}(M:X.A.units+1<cLine)(J:PE X a (yc i))(K:QE X E b fb)(hs:Av b)(u:wc b):QE X E (.Subscript a b pos) (V2 i fb):=
 PE.weak (PE.or (Cw M J K u) (Cq rG J K hs)) λZ H Q N=>by
  obtain⟨B,F,sd,r,n⟩:=N;unfold V2 at n
  split at n
  .rename_i p d O;obtain⟨l,v,S,T,A,_⟩:=r.own O;cases d with
   |lst ds =>
    obtain⟨L,C,G⟩:=A;refine .inr ⟨.ref l,v,B,F,sd,r,(ja n).mono (λy h w j s g t=>?_) λ_ _ q=>q⟩;obtain⟨z,hz,q⟩:=jh h;cases y with
    |int k =>
     obtain⟨x,I,ix⟩:=De G (hz);exact⟨l,L,k,x,rfl,je.mp t,qy.of (g.hh _ _ C),I,q _ j s g (jf.same g.ff _ _ ix)⟩
    |_=>exact J6 hz
   |dct ks ds =>
    obtain⟨L,C,G,P⟩:=A;refine .inl ⟨.ref l,v,B,F,sd,r,(ja n).mono (λy h w j s g t=>?_) λ_ _ q=>q⟩;obtain⟨z,hz,q⟩:=jh h;obtain⟨k,R,hz⟩:=Jh.mp (hz);obtain⟨x,I,ix⟩:=(Xx k G P).1 z hz;refine⟨l,x,rfl,?_,q x j s g (jf.same g.ff _ _ ix)⟩;rw[WR R t,<- I];exact x9.k (g.hh _ _ C)
   |ins c fs ds =>
    refine .inr ⟨.ref l,v,B,F,sd,r,(ja n).mono (λy h w j s g t=>?_) λ_ _ q=>q⟩;obtain⟨z,hz,q⟩:=jh h;cases y<;>exact J6 hz
   |_=>exact A.elim
  .exact n.elim
end
end L2.DL
namespace L2
section
variable {X:Cx}{tg iter elt c:Expr}{scope:Scope}{pos:Pos}{wi:TI}{g:TG}{te:TE}{tt:TT}
def GP (a:X.N.Nodup)(f:X.N[iy]? = some y)(h:yT X.env.scope y)(i:X.fn y=true\/X.env.scope.names.lookup y=some .local):
 XU X Y Z (λv B=>DD.nx (Z.set iy (some v)) B) (some (assign (.Name y py) X.env)) (λ_ s'=>SP X Y DD .next s'):=λC D m j r E F N sz G H k=>by
 obtain⟨O,z,A,l,I,J⟩:=k j.heap ⟨rfl,λ_ _=>rfl⟩;obtain⟨n,q,s,K,t,u⟩:=id E;have L:Inv X (Y++[(C,n)]) Z z { j with heap:=j.heap }:=A.pins_of λp hp=>by
  rcases Jb.mp hp with hp|hp
  .exact A.pin p ()
  simp_all
 exact wpAny_assign_Name (Am L a f h l (λP w=>(⟨m,⟨n,q,s,(w.pin (C,n) ()).1,t,u⟩,λh' x=>⟨_,z,(w.pins_of λp hp=>w.pin p ()).turned (λb o M e=>(x.2 b M).trans e) I F (.inr sz) G H,J⟩⟩)) i)
def GQ (a:swapsWith (.ListComp elt [⟨tg,iter,[],0⟩] scope pos) (some (.Name y py)) spos.line X.env=pure true)(b:X.N.Nodup)(f:X.N[iy]? = some y)(i:yT X.env.scope y)(j:X.fn y=true\/X.env.scope.names.lookup y=some .local)(N)(cap)(o:X.calm=true)(l:QP scope X.env N X.N cap=true)(p:PI X tg iter wi)(q:∀m C s H n,PG (JJ X scope N m C s H n) tg g)(t:∀m C s H n,PE (JJ X scope N m C s H n) elt te)
 (hs:∀x,foldedSetIterable iter X.env x=pure x:=by intro _;rfl):PS X (.Assign [.Name y py] (.ListComp elt [⟨tg,iter,[],0⟩] scope pos) spos) (zJ (Xm cap wi g te) (KR iy)):=by
 intro Y s Z H u I h;rw[exec_Assign_Name_used _ _ _ _ a];refine Za (wpAny_standAt (Za (Za (Zc (Fj N cap o l p q () hs I h (GP b f i j)) (λ_ s' r=>Zb (Zb r)) λ_ _ e=>e))))
def Ra (f:swapsWith (.ListComp elt [⟨tg,iter,[c],0⟩] scope pos) (some (.Name y py)) spos.line X.env=pure true)(i:X.N.Nodup)(j:X.N[iy]? = some y)(l:yT X.env.scope y)(m:X.fn y=true\/X.env.scope.names.lookup y=some .local)(N)(cap)(o:X.calm=true)(n:QP scope X.env N X.N cap=true)(p:PI X tg iter wi)(q:∀a C s H b,PG (JJ X scope N a C s H b) tg g)(r:∀a C s H b,PT (JJ X scope N a C s H b) c tt)(t:∀a C s H b,PE (JJ X scope N a C s H b) elt te)
 (hs:∀x,foldedSetIterable iter X.env x=pure x:=by intro _;rfl):PS X (.Assign [.Name y py] (.ListComp elt [⟨tg,iter,[c],0⟩] scope pos) spos) (zJ (XT cap wi g tt te) (KR iy)):=by
 intro Y s Z H v I h;rw[exec_Assign_Name_used _ _ _ _ f];refine Za (wpAny_standAt (Za (Za (Zc (Gf N cap o n p q r t hs I h (GP i j l m)) (λ_ s' u=>Zb (Zb u)) λ_ _ e=>e))))
end
end L2
namespace L2.DL
section
variable {X:Cx}{E:XK}{m:Option Bool}{tg iter elt c:Expr}{scope:Scope}{pos spos py:Pos}{y:Str}{iy:Nat}{t:Tg}{fi:FA}{fc:FT}{f:FE}
def Dn {K:W.Frag}{a:TE}{i:Nat}{b:FE}(w:∀Z H Q,vP K E b Z H Q->a Z H Q){T:Ends}{Z: St}{H:Hp}(h:hZ K E m (j4 i b) T Z H):zJ a (KR i) T Z H:=w _ _ _ (by
 obtain⟨B,F,sd,r,n⟩:=h;exact⟨B,F,sd,r,(ja n).mono (λd g=>yo.new λv j l e o=>(g _ j l e.ff ((r.step e).setVal o))) λ_ _ q=>q.ext r.ext⟩)
def GR (N)(cap)(a:X.N.Nodup)(b:X.N[iy]? = some y)(e:yT X.env.scope y)(o:X.calm=true)(g:QP scope X.env N X.N cap=true)(p:QI X E tg iter fi)
 (r:∀i C s H j,QG (JJ X scope N i C s H j) tg t) (u:∀i C s H j,QE (JJ X scope N i C s H j) E elt f) (l:swapsWith (.ListComp elt [⟨tg,iter,[],0⟩] scope pos) (some (.Name y py)) spos.line X.env=pure true:=by rfl)
 (n:X.fn y=true\/X.env.scope.names.lookup y=some .local:=by trivial) (hs:∀x,foldedSetIterable iter X.env x=pure x:=by intro _;rfl):
 QS X E m (.Assign [.Name y py] (.ListComp elt [⟨tg,iter,[],0⟩] scope pos) spos) (j4 iy (Qk cap fi t f)):=PS.weak (GQ l a b e n N cap o g p r u hs) λT Z H h=>Dn (λ_ _ _ q=>CZ q) h
def Rb (N)(cap)(e:X.N.Nodup)(g:X.N[iy]? = some y)(i:yT X.env.scope y)(o:X.calm=true)(j:QP scope X.env N X.N cap=true)(p:QI X E tg iter fi)
 (r:∀a C s H b,QG (JJ X scope N a C s H b) tg t) (u:∀a C s H b,QT (JJ X scope N a C s H b) E c fc) (v:∀a C s H b,QE (JJ X scope N a C s H b) E elt f) (l:swapsWith (.ListComp elt [⟨tg,iter,[c],0⟩] scope pos) (some (.Name y py)) spos.line X.env=pure true:=by rfl)
 (n:X.fn y=true\/X.env.scope.names.lookup y=some .local:=by trivial) (hs:∀x,foldedSetIterable iter X.env x=pure x:=by intro _;rfl):
 QS X E m (.Assign [.Name y py] (.ListComp elt [⟨tg,iter,[c],0⟩] scope pos) spos) (j4 iy (Wt cap fi t fc f)):=PS.weak (Ra l e g i n N cap o j p r u v hs) λT Z H h=>Dn (λ_ _ _ q=>GL q) h
end
def GS:Option (Option SV)->Res D
 |some (~~~d)=>.ok d
 |_=>.no
@[simp]def lw (d):GS (some (~~~d))=.ok d:=rfl
@[simp]def nO (i)(sd):jb i sd=GS sd[i]?:= rfl
@[simp]def pU (d)(sd):dC d sd=.ok d:=rfl
@[simp]def sA (g)(fa fb)(sd):jg g fa fb sd=(fa sd).bind λx=>(fb sd).bind λy=>.ofO (g x y):=rfl
@[simp]def sx (g)(fa)(sd):qV g fa sd=(fa sd).bind λx=>.ofO (g x):=rfl
def sF:D->Res Bool
 | .bl b=>.ok b
 |_=>.no
@[simp]def rp (b):sF (.bl b)=.ok b:=rfl
@[simp]def bM (fa)(sd):JG fa sd=(fa sd).bind sF:=by
 rfl
@[simp]def bD (f)(sd):WN f sd=(f sd).bind λb=>.ok (!b):=rfl
@[simp]def bO (f g)(sd):Wn f g sd=(f sd).bind λb=>if b then g sd else .ok false:=rfl
@[simp]def nX (f g)(sd):v8 f g sd=(f sd).bind λb=>if b then .ok true else g sd:=rfl
@[simp]def bN (fa fb)(sd):Xs fa fb sd=(JG fa sd).bind λb=>if b then fb sd else .ok (.bl false):=rfl
@[simp]def nY (sd):jc sd=.ok []:=rfl
@[simp]def bJ (fa)(fr)(sd):J0 fa fr sd=(fa sd).bind λx=>(fr sd).bind λa=>.ok (x::a):=rfl
@[simp]def nZ (fr)(sd):qc fr sd=(fr sd).bind λa=>if a.length<=1000 then .ok (.lst a) else .no:=rfl
@[simp]def nP (fr)(sd):qm fr sd=(fr sd).bind λa=>if a.length<=1000 then .ok (.tup a) else .no:=rfl
@[simp]def bL (Fn)(fr)(sd):J5 Fn fr sd=(fr sd).bind Fn:=rfl
@[simp]def rh (g)(fr)(sd):j8 g fr sd=(fr sd).bind λa=>.ofO (g a):=rfl
@[simp]def bS {α: Type}(a:α):(Res.ok a).bare=.ok a:=rfl
@[simp]def nQ (is)(f)(sd):y8 is f sd=(f (jU is sd)).bare.bind λd=>if K2 d then .ok d else .no:=rfl
@[simp]def uM (i):K2 (.int i)=true:=rfl
@[simp]def bh (i):K2 (.bl i)=true:=rfl
@[simp]def gB (sd):jU [] sd=sd:=rfl
def frz1 (i:Nat)(sd:SD):Option (Option SV)->SD
 |some (some (.own _ d))=>sd.set i (~~~d)
 |_=>sd
@[simp]def gC (i)(sd)(p)(d):frz1 i sd (some (some (.own p d)))=sd.set i (~~~d):=rfl
@[simp]def pZ (i)(is)(sd):jU (i::is) sd=jU is (frz1 i sd sd[i]?):=by
 rfl
def xG (g:FS):Out->Res Out
 | .next sd=>g sd
 |o=>.ok o
@[simp]def lE (g)(sd):xG g (.next sd)=g sd:=rfl
@[simp]def uJ (g)(d):xG g (.ret d)=.ok (.ret d):=rfl
@[simp]def uK (g)(d):xG g (.brk d)=.ok (.brk d):=rfl
@[simp]def nT (g1 g2)(sd):jl g1 g2 sd=(g1 sd).bind (xG g2):=by
 rfl
@[simp]def bE (sd):Qh sd=.ok (.next sd):=rfl
@[simp]def rg (sd):v3 sd=.ok (.brk sd):=rfl
@[simp]def nS (i)(f)(sd):j4 i f sd=(f sd).bind λd=>.ok (.next (sd.set i (~~~d))):=rfl
@[simp]def nW (i)(f)(sd):qj i f sd=(f sd).bind λd=>.ok (.next (sd.set i (some (.own false d)))):=rfl
@[simp]def nV (f)(sd):j6 f sd=(f sd).bind λd=>.ok (.ret d):=rfl
def v4:Option (Option SV)->Res D
 |some (some (.own _ d))=>.ok d
 |_=>.no
@[simp]def kl (p)(d):v4 (some (some (.own p d)))=.ok d:=rfl
@[simp]def l0 (i)(sd):Kg i sd=(v4 sd[i]?).bind λd=>.ok (.ret d):=by
 unfold Kg;cases sd[i]? with
 |none=>rfl
 |some o =>
  cases o with
  |none=>rfl
  |some v=>cases v<;>rfl
@[simp]def rb (c)(g1 g2)(sd):xX c g1 g2 sd=(c sd).bind λb=>if b then g1 sd else g2 sd:=rfl
def v5:Option (Option SV)->Res YG
 |some (some (.own false (.lst ds)))=>.ok ds
 |_=>.no
@[simp]def km (ds):v5 (some (some (.own false (.lst ds))))=.ok ds:=rfl
@[simp]def li (i)(f)(sd):Q4 i f sd=(v5 sd[i]?).bind λds=>(f sd).bind λd=>if ds.length<sizeLine then .ok (.next (sd.set i (some (.own false (.lst (ds++[d])))))) else .no:=by
 unfold Q4;cases sd[i]? with
 |none=>rfl
 |some o =>
  cases o with
  |none=>rfl
  |some v =>
   cases v with
   |val d=>rfl
   |own p d=>cases p<;>cases d<;>rfl
def GT:D->Res YG
 | .lst es=>.ok es
 |_=>.no
@[simp]def lH (es):GT (.lst es)=.ok es:=rfl
@[simp]def lK (i)(f)(sd):Wp i f sd=(v5 sd[i]?).bind λds=>(f sd).bind λd=>(GT d).bind λes=>if ds.length+es.length<=sizeLine then .ok (.next (sd.set i (some (.own false (.lst (ds++es)))))) else .no:=by
 unfold Wp;cases sd[i]? with
 |none=>rfl
 |some o =>
  cases o with
  |none=>rfl
  |some v =>
   cases v with
   |val d=>rfl
   |own p d =>
    cases p with
    |true=>cases d<;>rfl
    |false =>
     cases d with
     |lst ds =>
      cases f sd with
      |ok x=>cases x<;>rfl
      |ex c fs=>rfl
      |no=>rfl
     |_=>rfl
def kq:Option (Option SV)->Res (List jC×YG)
 |some (some (.own false (.dct ks ds)))=>.ok (ks,ds)
 |_=>.no
@[simp]def kn (ks)(ds):kq (some (some (.own false (.dct ks ds))))=.ok (ks,ds):=rfl
@[simp]def bI (i)(fk fv)(sd):YR i fk fv sd=(fv sd).bind λv=>(kq sd[i]?).bind λo=>(fk sd).bind λk=>(Res.ofO (QB k)).bind λq=>if o.1.length<sizeLine then .ok (.next (sd.set i (some (.own false (.dct (V1 o.1 q) (Wr o.1 o.2 q v)))))) else .no:=by
 unfold YR;cases fv sd with
 |ok v =>
  cases sd[i]? with
  |none=>rfl
  |some o =>
   cases o with
   |none=>rfl
   |some w =>
    cases w with
    |val d=>rfl
    |own p d =>
     cases p with
     |true=>cases d<;>rfl
     |false =>
      cases d with
      |dct ks ds =>
       cases fk sd with
       |ok k=>show(match QB k with|some q=>_|none=>_)=(Res.ofO (QB k)).bind _;cases QB k<;>rfl
       |ex c fs=>rfl
       |no=>rfl
      |_=>rfl
 |ex c fs=>rfl
 |no=>rfl
def xI:Out->Res D
 | .ret d=>.ok d
 | .next _=>.ok .non
 |_=>.no
@[simp]def kr (d):xI (.ret d)=.ok d:=rfl
def GU (n ar)(g)(ds)(h:ds.length=ar):jE n ar g ds=(g (Qm n ds)).bind xI:=by
 unfold jE;rw[Zd h];rfl
def yw:Out->Res D
 | .ret d=>.ok d
 |_=>.no
@[simp]def kt (d):yw (.ret d)=.ok d:=rfl
def GV (n ar)(g)(ds)(h:ds.length=ar):jQ n ar g ds=(g (Qm n ds)).bind yw:=by
 unfold jQ;rw[Zd h];rfl
@[simp]def mL (n)(g)(a):jE n 1 g [a]=(g (~~~a::List.replicate (n-1) none)).bind xI:=GU n 1 g [a] rfl
@[simp]def mK (n)(g)(a b):jE n 2 g [a,b]=(g (~~~a::~~~b::List.replicate (n-2) none)).bind xI:=rfl
@[simp]def mJ (n)(g)(a b c):jE n 3 g [a,b,c]=(g (~~~a::~~~b::~~~c::List.replicate (n-3) none)).bind xI:=rfl
@[simp]def mI (n:Nat)(g:FS)(a b c d:D):jE n 4 g [a,b,c,d]=(g (~~~a::~~~b::~~~c::~~~d::List.replicate (n-4) none)).bind xI:=GU n 4 g [a,b,c,d] rfl
@[simp]def mG (n)(g)(a):jQ n 1 g [a]=(g (~~~a::List.replicate (n-1) none)).bind yw:=GV n 1 g [a] rfl
@[simp]def mF (n)(g)(a b):jQ n 2 g [a,b]=(g (~~~a::~~~b::List.replicate (n-2) none)).bind yw:=rfl
@[simp]def mE (n)(g)(a b c):jQ n 3 g [a,b,c]=(g (~~~a::~~~b::~~~c::List.replicate (n-3) none)).bind yw:=rfl
@[simp]def mD (n:Nat)(g:FS)(a b c d:D):jQ n 4 g [a,b,c,d]=(g (~~~a::~~~b::~~~c::~~~d::List.replicate (n-4) none)).bind yw:=GV n 4 g [a,b,c,d] rfl
@[simp]def gA (i j):j1 (.int i) (.int j)=some (.int (i+j)):=rfl
@[simp]def gk (i j):y0 (.int i) (.int j)=some (.int (i-j)):=rfl
@[simp]def gp (i):xz (.int i)=some (.int (-i)):=rfl
@[simp]def bq (i j:Int):zR (.int i) (.int j)=some (.bl (decide (i<=j))):=rfl
@[simp]def b5 (i j):wx (.int i) (.int j)=some (.bl (decide (j<i))):=rfl
@[simp]def b6 (i j):vR (.int i) (.int j)=some (.bl (decide (j<=i))):=rfl
@[simp]def g0 (i j):xO (.int i) (.int j)=some (.bl (decide (i=j))):=Pw i j
@[simp]def nH (a b:Bool):zQ (.bl a) (.bl b)=some (.bl (a != b)):=rfl
def AR (h:K8 i j=true):qu (.int i) (.int j)=some (.int (i*j)):=by
 show(if K8 i j then _ else _)=_
 simp_all
def Dp (a: -18446744073709551616<j)(b:j<18446744073709551616):K8 i j=true:=by
 unfold K8;rw[Vu,Vu,UU,UU];lia
def Rc (a:i.natAbs<yL)(b:j.natAbs<yL):K8 i j=true:=by
 simp_all [K8]
@[simp]def X1 (h:0<j):jJ (.int i) (.int j)=some (.int (i % j)):=by
 show(if UH 0 j.toNat then _ else _)=_;rw[Zd (by rw[UU];lia)]
@[simp]def AS (h:0<j)(a:j<1073741824):Qn (.int i) (.int j)=some (.int (i / j)):=by
 show(if UH 0 j.toNat&&UH j.toNat 1073741824 then _ else _)=_;rw[Zd (by rw[Ud,UU,UU];lia)]
@[simp]def AT (ds):jP [.lst ds]=some (.int ds.length):=rfl
@[simp]def lF (i j):AM [.int i,.int j]=some (.int (if j > i then j else i)):=rfl
@[simp]def lx (ds):QU [.lst ds]=some (.lst ds):=rfl
@[simp]def lI (ns:Yh):QU [.scr ns]=some (.lst (ns.map .int)):=rfl
@[simp]def lO (ds):Ws [.lst ds]=some (.tup ds):=rfl
@[simp]def bw (ds)(k):jA (.lst ds) (.int k)=qo ds k:=rfl
@[simp]def br (ds:YG)(k:Int):jA (.tup ds) (.int k)=qo ds k:=rfl
@[simp]def Re (ns)(k):jA (.scr ns) (.int k)=(qo ns k).map .int:=rfl
@[simp]def b0 (ks)(ds)(k):jA (.dct ks ds) (.int k)=jI ks ds (.inl k):=rfl
@[simp]def b4 (neg)(ks)(ds)(k):wS neg (.int k) (.dct ks ds)=some (.bl (if neg then !(jI ks ds (.inl k)).isSome else(jI ks ds (.inl k)).isSome)):=rfl
@[simp]def pY (k):QB (.int k)=some (.inl k):=rfl
@[simp]def Dq (h:r.length<=100)(o:j7 r):WT [j0 r]=some (ym r):=by
 show(K3 (j0 r)).bind _=_;rw[Gw];show(if r.length<=100 then some (ym (Xy r)) else none)=_;rw[Zd h,PF o]
def Rf (h:ns ≠ []):YP [.lst (ns.map .int)]=some (.int (qH ns)):=by
 simp_all [YP,GG]
def Rg (h:ns ≠ []):YQ [.lst (ns.map .int)]=some (.int (xh ns)):=by
 simp_all [YQ,GG]
theorem AU:∀{r:Jy},j7 r->∀t:Int,jI (r.map λp=>.inl p.1) (r.map λp=>.int p.2) (.inl t)=(J8 r t).map .int
 | [],_,t=>rfl
 |p::r,o,t=>by
  have a:j7 r:=by simp_all [j7]
  have n:p.1∉r.map (·.1):=by simp_all [j7]
  rw[Zl,Zl,Dd,Y6];by_cases h:p.1=t
  .cases q:J8 r t with
   |none=>simp_all
   |some w=>exact Zn (Ja.mpr ⟨(t,w),Qj q,h.symm⟩) n
  .rw[Ze (λz=>h (by injection z)),AU a t]
   grind
def GW:D->Res (List jC×YG)
 | .dct ks ds=>.ok (ks,ds)
 |_=>.no
@[simp]def pX (ks)(ds):GW (.dct ks ds)=.ok (ks,ds):=rfl
@[simp]def bG (fo fk fx)(sd):Xz fo fk fx sd=(fo sd).bind λd=>(GW d).bind λo=>(fk sd).bind λk=>(fx sd).bind λx=>.ofO ((QB k).map λq=>(jI o.1 o.2 q).getD x):=by
 unfold Xz;cases fo sd with
 |ok d=>cases d<;>rfl
 |ex c fs=>rfl
 |no=>rfl
def Rh (r:Jy)(t):yI (.inl t) (r.map λp=>.inl p.1)=r.any λp=>decide (p.1=t):=by
 grind[yI,List.any_map]
def Ri (r)(t w):D.dct (V1 (r.map λp=>.inl p.1) (.inl t)) (Wr (r.map λp=>.inl p.1) (r.map λp=>.int p.2) (.inl t) (.int w))=ym (qF r t w):=by
 unfold V1 Wr ym qF;rw[Rh];have ch:∀r:Jy,zw (r.map λp=>.inl p.1) (r.map λp=>.int p.2) (.inl t) (.int w)=(r.map λp=>if p.1=t then(p.1,w) else p).map λp=>D.int p.2:=by
  intro r
  induction r with
  |nil=>rfl
  |cons p r a =>
   rw[Zl,Zl,Zl,Zl,G2,a];by_cases h:p.1=t
   .rw[Zd (by rw[h]),Zd h]
   .rw[Ze (λz=>h (by injection z)),Ze h]
 have b:∀r:Jy,(r.map λp=>if p.1=t then(p.1,w) else p).map (λp=>(Ue p.1:jC))=r.map λp=>.inl p.1:=by
  intro r;rw[Zw]
  congr 1
  funext p
  show(Ue (if p.1=t then(p.1,w) else p).1:jC)=_;by_cases h:p.1=t
  .rw[Zd h]
  .rw[Ze h]
 by_cases q:(r.any λp=>decide (p.1=t))=true
 .rw[Zd q,Zd q,Zd q,ch,b]
 .rw[Ze q,Ze q,Ze q,Uc,Uc];rfl
@[simp]def lV (fo)(sd):Dm fo sd=(fo sd).bind λd=>.ofO (Dl d):=rfl
def Rj (h:r ≠ [])(a:r.length<1000):Dl (ym r)=some (.lst ((JL jT r).map q9)):=by
 show(YS _ _).bind _=_
 simp_all [PU]
@[simp]def sC (f)(sd):iS f sd=(f sd).bind λd=>.ofO (WU d):=rfl
@[simp]def lz (ds):WU (.lst ds)=some ds:=rfl
@[simp]def lB (ds):WU (.tup ds)=some ds:=rfl
def V3:YG->Res YG
 | [.int j]=>if X0 j then .ok (Qd 0 j.toNat) else .no
 |_=>.no
@[simp]def re (fr)(sd):zr fr sd=(fr sd).bind V3:=by
 rfl
def WW (a: -1000000000<=j)(b:j<=1000000000):V3 [.int j]=.ok (Qd 0 j.toNat):=Zd (PN a b)
def YT {lo:Int}{n i:Nat}{x:D}(h:(Qd lo n)[i]? = some x):x=.int (lo+i)/\i<n:=by
 grind[Qd,List.getElem?_map,List.length_range]
theorem WX (lo)(n):(Qd lo n).length=n:=by unfold Qd;simp
def qY (tg:Tg)(b:FS)(ds:YG)(sd:SD):Res Out:=y7 (λx sd=>(JQ tg x sd).bind b) ds sd
@[simp]def rf (it)(tg)(b)(sd):jZ it tg b sd=(it sd).bind λds=>qY tg b ds sd:=rfl
@[simp]def gD (tg:Tg)(b:FS)(sd:SD):qY tg b [] sd=.ok (.next sd):=rfl
@[simp]def Rk (i)(d)(sd):JQ (.one i) d sd=.ok (sd.set i (~~~d)):=rfl
@[simp]def l7 (i j)(a b)(sd):JQ (.tup [i,j]) (.tup [a,b]) sd=.ok ((sd.set i (~~~a)).set j (~~~b)):=rfl
@[simp]def lQ (i j)(p)(sd):JQ (.tup [i,j]) (q9 p) sd=.ok ((sd.set i (~~~(.int p.1))).set j (~~~(.int p.2))):=rfl
def KB (P:Nat->SD->Prop)(l:P 0 sd)(hs:∀i (x:D) sd,ds[i]? = some x->P i sd->∃sd',(JQ tg x sd).bind b=.ok (.next sd')/\P (i+1) sd'):∃sd',qY tg b ds sd=.ok (.next sd')/\P ds.length sd':=by
 have c:∀k i sd,ds.length-i=k->i<=ds.length->P i sd->∃sd',qY tg b (ds.drop i) sd=.ok (.next sd')/\P ds.length sd':=by
  intro k
  induction k with
  |zero =>
   intro i sd e f p;have:i=ds.length:=()
   simp_all
  |succ k g =>
   intro i sd e f p;have a:i<ds.length:=()
   rw[Uu a];obtain⟨sd',m,h⟩:=hs i ds[i] sd () p;have ⟨j,n,o⟩:=g (i+1) sd' () a h
   simp_all [qY,y7]
 grind
def YU (R:Res Out->Prop)(P:Nat->SD->Prop)(j:P 0 sd)(l:∀sd,P ds.length sd->R (.ok (.next sd)))
 (hs:∀i x sd,ds[i]? = some x->P i sd->(∃sd',((JQ tg x sd).bind b=.ok (.next sd')\/(JQ tg x sd).bind b=.ok (.cont sd'))/\P (i+1) sd')\/(∃sd',(JQ tg x sd).bind b=.ok (.brk sd')/\R (.ok (.next sd')))\/∃d,(JQ tg x sd).bind b=.ok (.ret d)/\R (.ok (.ret d))):R (qY tg b ds sd):=by
 have g:∀k i sd,ds.length-i=k->i<=ds.length->P i sd->R (qY tg b (ds.drop i) sd):=by
  intro k
  induction k with
  |zero =>
   intro i sd e h p;have:i=ds.length:=()
   simp_all
  |succ k f =>
   intro i sd e h p;have a:i<ds.length:=()
   rw[Uu a];unfold qY y7;rcases hs i ds[i] sd () p with ⟨sd',h1|h1,c⟩|⟨sd',h1,c⟩|⟨d,h1,c⟩
   .rw[h1];exact f (i+1) sd' () a c
   .rw[h1];exact f (i+1) sd' () a c
   .rwa [h1]
   .rwa [h1]
 grind
def GX {α β γ: Type}{f:α -> Res β}{k:γ -> α}{g:γ -> β}{a:List γ}(h:∀x∈a,f (k x)=.ok (g x)):yf f (a.map k)=.ok (a.map g):=by
 induction a with
 |nil=>rfl
 |cons x a b =>
  simp_all [yf]
def jO (tg:Tg)(f:FE)(c:SD)(ds:YG):Res YG:=yf (λx=>(JQ tg x c).bind f) ds
@[simp]def bK (cap)(it)(tg)(f)(sd):Qk cap it tg f sd=(it sd).bind λds=>if Ux (jW cap sd) tg=true/\ds.length<sizeLine then(jO tg f (jW cap sd) ds).bind λys=>.ok (.lst ys) else .no:=rfl
def fT:Option (Option SV)->Option SV
 |some (~~~d)=>~~~d
 |_=>none
@[simp]def fS (d):fT (some (~~~d))= ~~~d:=rfl
@[simp]def fU (sd):jW [] sd=[]:=rfl
@[simp]def ro (cap)(sd):jW (none::cap) sd=none::jW cap sd:=rfl
@[simp]def rm (j)(cap)(sd):jW (some j::cap) sd=fT sd[j]? :: jW cap sd:=rfl
@[simp]def lM (sd)(i):Ux sd (.one i)=Um sd i:=rfl
@[simp]def lS (sd)(is):Ux sd (.tup is)=is.all (Um sd):=rfl
@[simp]def kL (sd:SD):Um (none::sd) 0=true:=rfl
@[simp]def kK (o)(sd:SD)(i):Um (o::sd) (i+1)=Um sd i:=rfl
def QJ {α: Type}{k:α -> D}{g:α -> D}{a:List α}(h:∀x∈a,(JQ tg (k x) c).bind f=.ok (g x)):jO tg f c (a.map k)=.ok (a.map g):=GX h
def GY {tg:Tg}{f:FE}{c:SD}{lo:Int}{n:Nat}{g:Nat->D}(h:∀i,i<n->(JQ tg (.int (lo+i)) c).bind f=.ok (g i)):jO tg f c (Qd lo n)=.ok ((List.range n).map g):=GX ()
@[simp]def lG (cap)(it)(tg)(c)(f)(sd):Wt cap it tg c f sd=(it sd).bind λds=>if Ux (jW cap sd) tg=true/\ds.length<sizeLine then(K9 tg c f (jW cap sd) ds).bind λys=>.ok (.lst ys) else .no:=rfl
def AV {α: Type}{k:α -> D}{s:α -> SD}{p:α -> Bool}{g:α -> D}{a:List α}(b:∀x∈a,JQ tg (k x) sd=.ok (s x))(e:∀x∈a,c (s x)=.ok (p x))(h:∀x∈a,p x=true->f (s x)=.ok (g x)):
 K9 tg c f sd (a.map k)=.ok ((a.filter p).map g):=by
 induction a with
 |nil=>rfl
 |cons x a i =>
  grind[K9,List.map_cons,List.filter_cons,jt]
def JU (h:n<=1000):n<sizeLine:=Ff h
def Qp {α: Type}(a:List α)(lo b st:Option Int):List α:= (sliceRange (sliceBounds lo b st a.length).1 (sliceBounds lo b st a.length).2.1 (sliceBounds lo b st a.length).2.2).filterMap (a[·]?)
def GZ (its)(lo hi st):slicePick its.toArray lo hi st=(Qp its lo hi st).toArray:=by
 simp_all [slicePick,Qp]
def Rl {a:YE}{its:Yf}(r:js a its)(lo hi st):js (Qp a lo hi st) (Qp its lo hi st):=by
 unfold Qp;rw[r.length];generalize sliceRange _ _ _=ix
 induction ix with
 |nil=>exact .nil
 |cons i ix c =>
  rw[UX,UX];cases b:a[i]? with
  |none=>rwa [r.none_of b]
  |some x =>
   obtain⟨u,e,f⟩:=r.get b;rw[e];exact .cons f c
def Rm {K:W.Frag}{H:Hp}{ds:YG}{a:YE}(r:jd K H ds a)(lo hi st):jd K H (Qp ds lo hi st) (Qp a lo hi st):=by
 unfold Qp;rw[r.length];generalize sliceRange _ _ _=ix
 induction ix with
 |nil=>rfl
 |cons i ix b =>
  rw[UX,UX];cases c:ds[i]? with
  |none =>
   have e:a[i]? = none:=List.getElem?_eq_none_iff.mpr (by rw[r.length];simp_all)
   rwa [e]
  |some x =>
   obtain⟨u,f,g⟩:=r.get c;rw[f];exact .mk g b
def Ha {α β: Type}(f:α -> β)(xs)(lo hi st):Qp (xs.map f) lo hi st=(Qp xs lo hi st).map f:=by
 grind[Qp,Zql,List.filterMap_cons,List.getElem?_map]
def Rn {α: Type}(a:List α)(lo hi st):(Qp a lo hi st).length<=a.length:=by
 have h:=slicePick_size_le (a.map λ_=>Value.none).toArray lo hi st
 simp_all [GZ,Ha]
section
variable {X:Cx}{E:XK}{m:Option Bool}{a b o i e f tg:Expr}{fa fb fo fi fv fe:FE}{fr:FA}{pos pos' apos cpos p p2:Pos}{lo hi st:Option Expr}
abbrev FO:=SD->Res (Option Int)
def pC (K:W.Frag)(E:XK)(f:FO):TO:=λZ H Q=>∃B F sd,RS K B F H sd Z /\ (f sd).need (λo=>∀g c,Ext F H g c->Q o c) (XW K E F H)
def X2:FO:=λ_=>.ok none
def AW (f:FE):FO:=λsd=>(f sd).bind λd=>match d with
 | .int i=>.ok (some i)
 |_=>.no
abbrev QO (X:Cx)(E:XK)(e:Option Expr)(f:FO):Prop:=PO X e (pC X.K E f)
def PO.weak {e:Option Expr}{t t':TO}(h:PO X e t)(w:∀Z H Q,t' Z H Q->t Z H Q):PO X e t':=λY s Z H Q I q=>h Y s Z H Q I (w _ _ _ q)
def AX:QO X E none X2:=PO.weak NA λZ H Q ⟨B,F,sd,r,n⟩=>n F H (.refl r.ext.fh)
def Hb (h:QE X E e fe):QO X E (some e) (AW fe):=PO.weak (NB h) λZ H Q g=>by
 obtain⟨B,F,sd,r,n⟩:=g;refine⟨B,F,sd,r,(ja n).mono (λd c v j l s t=>?_) λ_ _ q=>q⟩;cases d with
 |int i=>exact⟨i,je.mp t,c j l s⟩
 |_=>exact c.elim
def mM (K:W.Frag):V->Option Int->Option Int->Option Int->Hp->VK->Prop:=λx lo hi st H Q=>∃a c,x=.ref a/\qy K H a c/\st≠some 0/\∀p,H p=none->Q (.ref p) (upd H p (.lst (Qp c lo hi st)))
def mq (r:V->Option Int->Option Int->Option Int->Hp->VK->Prop)(g:TE)(h j n:TO):TE:=λZ H Q=>g Z H λx q=>h Z q λl s=>j Z s λu t=>n Z t λc v=>r x l u c v Q
def Ro {t:TE}{w y z:TO}(J:PE X e t)(K:PO X lo w)(L:PO X hi y)(hs:PO X st z):PE X (.Subscript e (.Slice lo hi st p2) pos) (mq (mM X.K) t w y z):=by
 intro Y s Z H Q I h;refine Subscript_ (jH (J Y s Z H _ I h) λv M ⟨x,N,O,P,R⟩=>(wpAny_Slice (jH (K Y M Z N _ O R) λA S ⟨l,T,U,pl,q2⟩=>jH (L Y S Z T _ U q2) λB s3 ⟨u,H3,I3,pu,q3⟩=>jH (hs Y s3 Z H3 _ I3 q3) λC g ⟨c,H4,I4,ps,q4⟩=>?_)));obtain⟨a,F,rfl,hx,h0,q⟩:=q4;obtain rfl:=P;have j:Inv X Y Z H4 { g with heap:=g.heap.push { cls:=.type "slice",data:=.fields #[A,B,C] } }:=I4.kept λb ob q=>Zq _ q;obtain⟨its,r,n,hz⟩:=j.list hx;have G:=r.length
 suffices fin:YI X (getItem (.ref a) (.ref g.heap.objs.size)) (EP X Y Z Q) X.xe { g with heap:=g.heap.push { cls:=.type "slice",data:=.fields #[A,B,C] } } by
  cases st with
  |none=>exact tail_any n.isList.typeIs slot_list_getitem.lookup fin (by rfl)
  |some c=>exact tail_any n.isList.typeIs slot_list_getitem.lookup fin (by rfl)
 refine wpAny_getItem_list_slice n.isList (Heap.IsSliceOf.new ..) pl pu ps h0 ?_ ();rw[GZ];exact⟨.ref _,_,j.laid (o:=.lst (Qp F l u c)) (λb ob q=>Zq _ q) (Zf _) ⟨Zh (Rn F l u c) hz,_,0,Rl r l u c,Zr _ rfl⟩,rfl,q _ (j.hok.fresh (Zf _))⟩
def nG:D->Option Int->Option Int->Option Int->YH
 | .lst ds,lo,hi,st=>if st=some 0 then none else some (.lst (Qp ds lo hi st))
 | .scr ns,lo,hi,st=>if st=some 0 then none else some (.lst ((Qp ns lo hi st).map .int))
 |_,_,_,_=>none
def bQ (fe:FE)(g j fs:FO):FE:=λsd=>(fe sd).bind λd=>(g sd).bind λl=>(j sd).bind λh=>(fs sd).bind λc=>.ofO (nG d l h c)
def Hc {A C fs:FO}(J:QE X E e fe)(K:QO X E lo A)(L:QO X E hi C)(hs:QO X E st fs):QN X E (.Subscript e (.Slice lo hi st p2) pos) (bQ fe A C fs):=PE.weak (Ro J K L hs) λZ H Q M=>by
 obtain⟨B,F,sd,r,n⟩:=M;refine⟨B,F,sd,r,(ja n).mono (λd N v O H1 j G=>⟨B,O,sd,r.step j,(ja N).mono (λl P R H2 s=>(⟨B,R,sd,(r.step j).step s,(ja P).mono (λh S T H3 w=>⟨B,T,sd,((r.step j).step s).step w,(ja S).mono (λc U I H4 t=>?_) λ_ _ q=>q.ext ((j.trans s).trans w)⟩) λ_ _ q=>q.ext (j.trans s)⟩)) λ_ _ q=>q.ext j⟩) λ_ _ q=>q⟩;obtain⟨z,hz,q⟩:=jh U;have g:=((s.trans w).trans t);have u:=j.trans g;cases d with
 |lst ds =>
  have hz:(if c=some 0 then none else some (D.lst (Qp ds l h c)))=some z:=hz
  split at hz
  .exact J6 hz
  .rename_i x;obtain rfl:=Zqi hz;obtain⟨a,Y,rfl,y,h2⟩:=G;exact⟨a,Y,rfl,((y.same g.ff).same g.fh).sq,x,λp hp=>q p I _ (u.trans (.keep t.fh hp _)) (Qg u.hh hp) (Qg t.fh hp) ⟨_,JM,Rm (jd.same g.ff _ _ h2) l h c⟩⟩
 |scr ns =>
  have hz:(if c=some 0 then none else some (D.lst ((Qp ns l h c).map .int)))=some z:=hz
  split at hz
  .exact J6 hz
  .rename_i x;obtain rfl:=Zqi hz;obtain⟨a,rfl,y⟩:=G;refine⟨a,_,rfl,jk.seq g.fh (jk.seq g.ff y),x,λp hp=>q p I _ (u.trans (.keep t.fh hp _)) (Qg u.hh hp) (Qg t.fh hp) ⟨_,JM,?_⟩⟩;rw[Ha];exact qd _
 |_=>exact J6 hz
@[simp]def s0 (fe)(fl fh fs)(sd):bQ fe fl fh fs sd=(fe sd).bind λd=>(fl sd).bind λl=>(fh sd).bind λh=>(fs sd).bind λc=>.ofO (nG d l h c):=rfl
@[simp]def lq (sd):X2 sd=.ok none:=rfl
def Hd:D->Res (Option Int)
 | .int i=>.ok (some i)
 |_=>.no
@[simp]def lN (i):Hd (.int i)=.ok (some i):=rfl
@[simp]def bC (f)(sd):AW f sd=(f sd).bind Hd:=by
 rfl
@[simp]def gm (ds)(lo hi):nG (.lst ds) lo hi none=some (.lst (Qp ds lo hi none)):=rfl
@[simp]def fA (i)(fb)(sd):V2 i fb sd=(v4 sd[i]?).bind λd=>(fb sd).bind λy=>.ofO (jA d y):=by
 unfold V2;cases sd[i]? with
 |none=>rfl
 |some o =>
  cases o with
  |none=>rfl
  |some v=>cases v<;>rfl
def KP:YG->YH
 | [.lst ds]=>(Qy K3 ds).bind λrs=>if(∀r∈rs,r ≠ [])/\rs.length<1000 then some (.lst ((JL j3 rs).map j0)) else none
 |_=>none
def Dr (u:X.A.units+64<cLine):qa X (.builtin "sorted") (zO X.K KP):=qa.weak (OX u) λC H Q w=>by
 obtain⟨F,ds,z,c,id,hz,q⟩:=w;unfold KP at hz
 split at hz
 .obtain⟨rs,y,hz⟩:=Jh.mp hz
  split at hz
  .rename_i r;obtain rfl:=Zqi hz;obtain⟨v,rfl,h⟩:=Q5 id;rw[Db y,jm] at h;obtain⟨a,ys,rfl,A,s⟩:=h;refine⟨a,ys,rs,rfl,A.same c,wu.mp (jd.same c _ _ s),r.1,r.2,λl ix g j t=>(q l F _ (.keep c g _) g (Qg c g) ⟨_,JM,?_⟩)⟩;rw[<- t,Zw];clear t
   induction ix with
   |nil=>exact .nil
   |cons i ix G =>
    rw[Zl,Zl];have hi:=j i Zqs;obtain⟨x,B,n⟩:=s.get (d:=j0 (rs.getD i [])) (by rw[Zv,Zqg hi,Qf (Zqg hi)];rfl);rw[Qf B];exact .mk n ()
  .exact J6 hz
 simp_all
end
end L2.DL
namespace L2
section
variable {X:Cx}
def Rp {bs:List Bool}{its:Yf}(r:js (bs.map V.bl) its)(i:Nat)(v:Value)(h:its.toArray[i]? = some v):v=.bool (bs.getD i false):=by
 have h':its[i]? = some v:=by simp_all
 have f:=(Jc.mp h').1;have b:=r.length;rw[Zql] at b;have c:bs[i]? = some bs[i]:=by simp
 obtain⟨u,a,e⟩:=r.get (i:=i) (x:=.bl bs[i]) ();rw[h'] at a;obtain rfl:=Zqi a;rw[e,Ur,c];rfl
def Rq (bs:List Bool):(List.range bs.length).all (λi=>bs.getD i false)=bs.all id:=by
 apply Vf.mpr;rw[Vn,Vn];constructor
 .intro h b c;obtain⟨i,a,rfl⟩:=UB c;have:=h i (Jg.mpr a)
  rwa [Ur,Zqg a] at this
 .intro h i a;have a:=Jg.mp a;rw[Ur,Zqg a];exact h _ (Uw a)
def Rr (l:X.calm=true):qa X (.builtin "all") (λg H Q=>∃(a:Addr) (bs:List Bool),g=[.ref a]/\qy X.K H a (bs.map V.bl)/\Q (.bl (bs.all id)) H):=by
 intro Y s Z H g B Q I r h;obtain⟨a,bs,rfl,m,q⟩:=h;obtain⟨u,rfl,n⟩:=Ka r;obtain rfl:=n;obtain⟨its,j,p,hz⟩:=I.list m;have f:a<s.heap.objs.size:=by obtain⟨_,e,_⟩:=p.isList;exact Zk e
 have c:=j.length;rw[Zql] at c;refine call_all_walk (wpAny_pyIter_list p.isList ⟨_,_,_,_,_,_,λi=>bs.getD i false,rfl,Walks.list (A:=X.A.in1) (I.ok.hd l) s.heap.objs.size a (Zi f) its.toArray,⟨⟨_,Zr _ rfl,rfl,rfl⟩,p.isList.push _⟩,?_,λh' tk t=>?_⟩)
 .intro i v s' C E w x;have y:=Rp j i v w;subst y;exact wpAny_of_eq rfl x
 .rw[Zm,<- c,Rq];refine⟨.bl _,H,I.kept λb o e=>t b o ?_ (Zq _ e),rfl,q⟩;intro z;rw[(Jd.mp z)] at e;exact Zy _ (Zk e)
end
end L2
namespace L2.DL
def v9:D->Option Bool
 | .bl i=>some i
 |_=>none
def Rs (h:v9 d=some i):d=.bl i:=by
 cases d with
 |bl j=>cases h;rfl
 |_=>exact J6 h
theorem xm {K:W.Frag}{H:Hp}:∀{bs:List Bool} {a:YE},jd K H (bs.map D.bl) a->a=bs.map V.bl
 | [],_,h=>jd.nil_iff.mp h
 |b::bs,_,h=>by
  obtain⟨x,r,rfl,c,e⟩:=h;rw[jp.mp c,xm e];rfl
def AY:D->Option (List Bool)
 | .lst ds=>Qy v9 ds
 |_=>none
def Rt {K:W.Frag}{H:Hp}{d:D}{ns:List Bool}{v:V}(h:AY d=some ns)(i:jf K H d v):∃a,v=.ref a/\xl K H a (ns.map V.bl):=by
 cases d with
 |lst ds =>
  obtain⟨a,e,rfl,c,b⟩:=i;rw[YN (λ_ _=>Rs) (h)] at b;rw[xm b] at c
  simp_all
 |_=>exact J6 h
def Ru (ns:List Bool):AY (.lst (ns.map D.bl))=some ns:=by
 have h:=YM (f:=v9) (g:=D.bl) (λ_=>rfl) ns
 rwa [List.map_id'] at h
def zu:YG->YH
 | [d]=>(AY d).bind λns=>some (.bl (ns.all id))
 |_=>none
section
variable {X:Cx}{E:XK}{m:Option Bool}{a b o i e f tg:Expr}{fa fb fo fi fv fe:FE}{fr:FA}{pos pos' apos cpos p p2:Pos}{lo hi st:Option Expr}
def Ds (g:X.calm=true):qa X (.builtin "all") (wM X.K zu):=qa.weak (Rr g) λr H Q j=>by
 obtain⟨F,ds,z,c,id,hz,q⟩:=j;unfold zu at hz
 split at hz
 .obtain⟨ns,l,hz⟩:=Jh.mp hz;obtain rfl:=Zqi hz;obtain⟨v,rfl,h⟩:=Q5 id;obtain⟨a,rfl,n⟩:=Rt l h;exact⟨a,ns,rfl,(n.same c).sq,q _ F H (.refl c) (ww _ F)⟩
 simp_all
end
def Dt (ns:List Bool):zu [.lst (ns.map .bl)]=some (.bl (ns.all id)):=by
 show(AY _).bind _=_;rw[Ru];rfl
end L2.DL
namespace L2
def Du:bootBuiltins "all" = some (.builtin "all"):=boot_all
end L2
namespace L2.DL
end L2.DL
namespace L2
section
variable {X:Cx}{Y:Yb}{Z: St}{H:Hp}{s:Shared}{h':Heap}
def Inv.turnedL {t':Nat}{ch:Yl}(I:Inv X Y Z H s)(k:∀b o,b∉ch->s.heap.get? b=some o->h'.get? b=some o)(f:∀b∈ch,xc X Y H b):Inv X Y Z H { s with heap:=h',toks:=t' }:=by
 have g:∀b u,H b=some u->b∉ch:=λb u e z=>by rw[(f b z).1] at e;exact J6 e
 refine I.step (λb h=>?_) (λb o _ _ a e _=>k b o a e) (λb o _ _ a e _=>⟨o.slots,k b o a e⟩) (λ_ _ _ _ n=>n)
  (λb o a e=>⟨o,k b o a e⟩) (λ_ _ e=>e) (λ_ _ _ e=>e) (λb ps e=>⟨#[],by rw[e];simp⟩) (λm i=>?_) (λb u e=>?_) I.bare
 .obtain⟨_,j,_,l,p,t⟩:=f b h;exact⟨l,j,p,t⟩
 .obtain⟨o,es,ep,w,r⟩:=i;exact⟨o,es,ep,k _ o (λz=>(f _ z).2.1 rfl) w,r⟩
 .refine(I.hok b u e).stay (λc v a q=>k c v ?_ q) (λ_ q=>q) λ_ _ q=>q
  grind
theorem xc.upd (h:xc X Y H b)(n:b≠T):xc X Y (upd H T o) b:=⟨(JF n).trans h.1,h.2⟩
def Inv.paired {t':Nat}{ch:Yl}{x y:V}{u v:Value}(I:Inv X Y Z H s)(c:ju x u)(f:ju y v)(g:∀b∈ch,xc X Y H b)(h:∀b∈ch,b≠s.heap.objs.size)
 (j:h'.get? s.heap.objs.size=some { cls:=.type "tuple",data:=.seq #[u,v] }) (k:∀b o,b∉ch->s.heap.get? b=some o->h'.get? b=some o):
 Inv X Y Z (upd H s.heap.objs.size (.tup [x,y])) { s with heap:=h',toks:=t' }:=by
 have i:Inv X Y Z (upd H s.heap.objs.size (.tup [x,y])) { s with heap:=s.heap.push { cls:=.type "tuple",data:=.seq #[u,v] },toks:=s.toks } :=
  I.laid (λb o e=>Zq _ e) (Zf _) ⟨⟨by simp only[sizeLine_eq,Zu,ZD];lia,_,Zr _ rfl,rfl⟩,[u,v],.cons c (.cons f .nil),_,Zr _ rfl,rfl,_,rfl⟩
 refine Inv.turnedL (s:={ s with heap:=s.heap.push { cls:=.type "tuple",data:=.seq #[u,v] },toks:=s.toks }) i (λb o a e=>?_) λb a=>(g b a).upd (h b a)
 grind[Heap.get?_push_cases]
end
def rB (K:W.Frag)(a b:Addr):It:=
 ⟨λi H=>∃c x ys y,qy K H a c/\c[i]? = some x/\qy K H b ys/\ys[i]? = some y,
  λi H v e=>∃T x y,v=.ref T/\H T=none/\e=upd H T (.tup [x,y])/\(∀c,qy K H a c->c[i]? = some x)/\∀ys,qy K H b ys->ys[i]? = some y,
  λi H=>∃c ys,qy K H a c/\qy K H b ys/\(c.length<=i\/ys.length<=i)⟩
structure ZipAt (z TI TO i1 i2 a b:Addr)(i:Nat)(h:Heap):Prop where
 hz:IsZip h z TI TO .none
 hTI:PySem.IsPair h TI (.ref i1) (.ref i2)
 hTO:∃u v,PySem.IsPair h TO u v
 h1:h.IsListIter i1 a i
 h2:h.IsListIter i2 b i
structure Apart5 (z TI TO i1 i2:Addr):Prop where
 TIz:TI≠z
 TOz:TO≠z
 i1z:i1≠z
 i2z:i2≠z
 TITO:TI≠TO
 TIi1:TI≠i1
 TIi2:TI≠i2
 TOi1:TO≠i1
 TOi2:TO≠i2
 i12:i1≠i2
def Rv (n:Nat):Apart5 (n+4) (n+2) (n+3) n (n+1):=by
 constructor<;>(intro z;have z:(_:Nat)=_:=z;lia)
def Wu {h:Heap}{a c:Addr}{its:Yn}{o:Obj}(p:h.IsList a its)(e:h.get? c=some o)(n:o.cls ≠ .type "list"):a≠c:=λq=>by
 subst q;obtain⟨g,b,f,_⟩:=p;rw[e] at b;obtain rfl:=Zqi b;exact n f
def He {h:Heap}{z TI TO f g a b:Addr}{i:Nat}{o ys:Yn}(D:Apart5 z TI TO f g)(st:ZipAt z TI TO f g a b i h)(p:h.IsList a o)(e:h.IsList b ys):ZipApart z TI TO f g a b:=by
 obtain⟨hz,q,⟨u,v,c⟩,⟨r,j,s,x⟩,⟨t,l,w,y⟩⟩:=st;have m:r.cls ≠ .type "list" := by rw[s];decide
 have n:t.cls ≠ .type "list" := by rw[w];decide
 exact⟨D.TIz,D.TOz,D.i1z,D.i2z,D.TITO,D.TIi1,D.TIi2,D.TOi1,D.TOi2,D.i12,Wu p hz (show Value.type "zip" ≠ .type "list" by decide),Wu p c (by show Value.type "tuple" ≠ _;decide),Wu p j m,Wu p l n,Wu e hz (show Value.type "zip" ≠ .type "list" by decide),Wu e c (by show Value.type "tuple" ≠ _;decide),Wu e j m,Wu e l n⟩
def Rx {P:Program}{w:World}{K:W.Frag}{t:Ym}{kx}{N:Pos}(a b z TI TO l m:Addr)(D:Apart5 z TI TO l m):Turn P w K (.Tuple t kx N) (rB K a b) [z,TI,TO,l,m] z (ZipAt z TI TO l m a b) where
 mem:=by simp
 obj:=λi h st c f=>by
  obtain⟨hz,O,⟨u,v,g⟩,⟨o1,C,c1,d1⟩,⟨o2,F,c2,d2⟩⟩:=st;simp only[Us,Uy,or_false] at f;rcases f with rfl|rfl|rfl|rfl|rfl
  .exact⟨_,hz,λv q=>by cases q⟩
  .exact⟨_,O,λv q=>by cases q⟩
  .exact⟨_,g,λv q=>by cases q⟩
  .exact⟨_,C,λv q=>by rw[d1] at q;cases q⟩
  .exact⟨_,F,λv q=>by rw[d2] at q;cases q⟩
 keep:=λi h h' st j=>⟨j z () _ st.hz,j TI () _ st.hTI,(let ⟨u,v,e⟩:=st.hTO;⟨u,v,j TO () _ e⟩),st.h1.at λo e=>j l () o e,st.h2.at λo e=>j m () o e⟩
 item:=by
  intro X Q R S f i Y s Z H E I G st T;subst Q R S;obtain⟨xs,x,ys,y,J,L,M,hy⟩:=T;obtain⟨its,U,p,hz⟩:=I.list J;obtain⟨A,r,B,hz2⟩:=I.list M;obtain⟨u,hu,ru⟩:=U.get L;obtain⟨u2,hu2,ru2⟩:=r.get hy;obtain⟨t1,t2,g⟩:=st.hTO;have ZA:=He D st p.isList B.isList;obtain⟨o1,C,_⟩:=id st.h1;obtain⟨o2,F,_⟩:=id st.h2;refine wpAny_pyNext_zip_item ZA st.hz st.hTI g st.h1 st.h2 p.isList B.isList (x:=u) (y:=u2) (by simpa using hu) (by simpa using hu2) λh' a1 a2 a3 a4 a5 a6 j=>?_;refine⟨_,rfl,wpAny_letOwnedTupleGo_zip (s:={ s with heap:=h' }) a1 λh2 b1 n=>?_⟩;have n:Heap.SameBut z h' h2:=n;have lt:∀{c o},s.heap.get? c=some o->c≠s.heap.objs.size:=λe=>Zi (Zk e);have lts:∀c ∈ [z,TO,l,m],c≠s.heap.objs.size:=λc f=>by
   simp only[Us,Uy,or_false] at f;rcases f with rfl|rfl|rfl|rfl
   .exact lt st.hz
   .exact lt g
   .exact lt C
   .exact lt F
  have sub:∀c ∈ [z,TO,l,m],c ∈ [z,TI,TO,l,m]:=λc f=>by
   simp only[Us,Uy,or_false] at f ⊢;rcases f with rfl|rfl|rfl|rfl<;>simp
  have hTz:s.heap.objs.size≠z:=λq=>lt st.hz q.symm;have I2:=I.paired (t':=s.toks) (h':=h2) (ch:=[z,TO,l,m]) ru ru2 (λc f=>G c (sub c f)) lts (n.extBut _ _ hTz a5) (λc o f e=>by
   simp only[Us,Uy,or_false,not_or] at f;exact n.extBut c o f.1 (j c o f.1 f.2.1 f.2.2.1 f.2.2.2 e))
  refine⟨.ref s.heap.objs.size,_,I2,rfl,⟨_,x,y,rfl,I.hok.fresh (Zf _),rfl,λzs hq=>by rw[I.list_inj hq J];exact L,λzs hq=>by rw[I.list_inj hq M];exact hy⟩,
   ⟨b1,n.extBut _ _ D.TIz (j _ _ D.TIz D.TITO D.TIi1 D.TIi2 st.hTI),⟨_,_,n.extBut _ _ D.TOz a2⟩,a3.extBut n.extBut D.i1z,a4.extBut n.extBut D.i2z⟩,λc f=>?_⟩
  have hcn:c≠s.heap.objs.size:=by
   simp only[Us,Uy,or_false] at f;rcases f with rfl|rfl|rfl|rfl|rfl
   .exact lt st.hz
   .exact lt st.hTI
   .exact lt g
   .exact lt C
   .exact lt F
  exact(JF hcn).trans (G c f).1
 done:=by
  intro X Q R S f i Y s Z H E I G st T;subst Q R S;obtain⟨xs,ys,J,M,L⟩:=T;obtain⟨its,U,p,hz⟩:=I.list J;obtain⟨A,r,B,hz2⟩:=I.list M;obtain⟨t1,t2,g⟩:=st.hTO;have l1:=U.length;have l2:=r.length;have ZA:=He D st p.isList B.isList;refine wpAny_pyNext_zip_end (I.ok.hd f) ZA st.hz st.hTI g st.h1 st.h2 p.isList B.isList ?_ λh' j=>⟨rfl,I.turnedL (t':=s.toks) (ch:=[z,TO,l,m]) (λc o f e=>?_) λc f=>G c ?_⟩
  .rcases L with q|q
   .exact .inl (by simp;lia)
   .exact .inr (by simp;lia)
  .simp only[Us,Uy,or_false,not_or] at f;exact j c o f.1 f.2.1 f.2.2.1 f.2.2.2 e
  .simp only[Us,Uy,or_false] at f ⊢;rcases f with rfl|rfl|rfl|rfl<;>simp
 self:=λ_ _ _ _ _ st h=>wpAny_pyIter_zip st.hz h
section
variable {X:Cx}
def nv (K:W.Frag)(e:TA):TI:=λZ H R=>e Z H λf c=>∃a b,f=[.ref a,.ref b]/\(∃g,qy K c a g)/\(∃ys,qy K c b ys)/\R (rB K a b) c
def Ry {a b:Expr}{o:TA}{p g:Pos}{i:Ym}{kx}{w:Pos}(x:Gl X "zip")(y:X.mg "zip" = none)(z:PA X [a,b] o)(hs:starEach [a,b] X.env=[(false,eval a X.env),(false,eval b X.env)]:=by rfl)(j:starEach [b] X.env=[(false,eval b X.env)]:=by rfl):
 PI X (.Tuple i kx w) (.Call (.Name "zip" p) [a,b] [] g) (nv X.K o):=by
 intro Y s Z H R I h;refine Call_ (Xi I x y (show bootBuiltins "zip" = some (.type "zip") by kernel_rfl) (PyProof.Rows.callWith_type1 (jH (z g Y s Z H _ I h) λS f ⟨T,A,l,B,C⟩=>?_) (by rw[hs,j]) (by rw[j];rfl)));obtain⟨a,b,e,⟨U,E⟩,⟨ys,F⟩,q⟩:=C;subst e;cases B with
 |cons r n =>
  cases n with
  |cons G n =>
   cases n;cases r;cases G;obtain⟨its,rv,p,hz⟩:=l.list E;obtain⟨t,J,K,L⟩:=l.list F;refine call_zip_2 p.isList K.isList λh' u M N O P z6 Q=>wpAny_pyIter_zip u ?_;refine⟨f.heap.objs.size+4,[f.heap.objs.size+4,f.heap.objs.size+2,f.heap.objs.size+3,f.heap.objs.size,f.heap.objs.size+1],_,_,A,rfl,l.kept (t':=f.toks) Q,
    Rx a b (f.heap.objs.size+4) (f.heap.objs.size+2) (f.heap.objs.size+3) f.heap.objs.size (f.heap.objs.size+1) (Rv _),⟨u,M,⟨_,_,N⟩,O,P⟩,λc v=>?_,q⟩
   have m:f.heap.objs.size<=c:=by
    simp only[Us,Uy,or_false] at v;rcases v with rfl|rfl|rfl|rfl|rfl<;>first|exact Zf _|exact Ul _ _
   exact l.fpOk m (l.hok.fresh m)
end
end L2
namespace L2.DL
def Hf {K:W.Frag}{F:Hp}{d:D}{ds:YG}{v:V}(h:AQ d=some ds)(i:jf K F d v):∃a b,v=.ref a/\qy K F a b/\jd K F ds b:=by
 cases d with
 |lst es =>
  obtain rfl:=Zqi h;obtain⟨a,b,rfl,c,e⟩:=i;exact⟨a,b,rfl,c.sq,e⟩
 |scr ns =>
  obtain rfl:=Zqi h;obtain⟨a,rfl,c⟩:=i;exact⟨a,_,rfl,c,qd ns⟩
 |_=>exact J6 h
def xS (a ys:YG):YG:=List.zipWith (λx y=>D.tup [x,y]) a ys
def w6:YG->Res YG
 | [d,e]=>(Res.ofO (AQ d)).bind λa=>(Res.ofO (AQ e)).bind λys=>.ok (xS a ys)
 |_=>.no
def iZ (a:FA):FA:=λsd=>(a sd).bind w6
@[simp]def sB (a:FA)(sd:SD):iZ a sd=(a sd).bind w6:=rfl
@[simp]def vX (a ys:YG):w6 [.lst a,.lst ys]=.ok (xS a ys):=rfl
def Rz {K:W.Frag}{c:Hp}{a b:Addr}{ds es:YG}{e ys:YE}(u:qy K c a e)(m:jd K c ds e)(w:qy K c b ys)(n:jd K c es ys):zY K c (rB K a b) (xS ds es):=λi H I f g=>by
 have z:(xS ds es).length=min ds.length es.length:=List.length_zipWith;have h:=jk.seq g (jk.seq f u);have j:=jk.seq g (jk.seq f w);have J:=m.length;have L:=n.length;rw[z];refine⟨λA=>?_,λA=>⟨e,ys,h,j,()⟩⟩;have o:i<ds.length:=()
 have p:i<es.length:=()
 obtain⟨x,q,ix⟩:=m.get (Zqg o);obtain⟨y,r,B⟩:=n.get (Zqg p);refine⟨⟨e,x,ys,y,h,q,j,r⟩,λv M C=>?_⟩;obtain⟨T,N,O,rfl,E,rfl,F,G⟩:=C;have s:=F e h;rw[q] at s;obtain rfl:=Zqi s;have t:=G ys j;rw[r] at t;obtain rfl:=Zqi t;have l:=qf g E (.tup [x,y]);refine⟨.tup [ds[i],es[i]],_,?_,l,jv.mpr ⟨T,_,rfl,.of JM,.mk (jf.same (f.trans l.ff) _ _ ix) (.mk (jf.same (f.trans l.ff) _ _ B) .nil)⟩⟩;unfold xS;rw[List.getElem?_zipWith,Zqg o,Zqg p]
section
variable {X:Cx}{E:XK}{fr:FA}{p pos tp:Pos}{elts:Ym}
def Hg {a b:Expr}{kx}(j:Gl X "zip")(l:X.mg "zip" = none)(m:QA X E [a,b] fr)(hs:starEach [a,b] X.env=[(false,eval a X.env),(false,eval b X.env)]:=by rfl)(e:starEach [b] X.env=[(false,eval b X.env)]:=by rfl):QI X E (.Tuple elts kx tp) (.Call (.Name "zip" p) [a,b] [] pos) (iZ fr):=PI.weak (Ry j l m hs e) λZ H R o=>by
 obtain⟨B,F,sd,r,n⟩:=o;refine⟨B,F,sd,r,(ja n).mono (λds c K s t f u=>?_) λ_ _ q=>q⟩;unfold w6 at c
 split at c
 .obtain⟨L,x,y⟩:=jh (ja c);obtain⟨ys,z,A⟩:=jh (ja y);obtain⟨v,w,rfl,h,h'⟩:=GE u;obtain⟨C,M,rfl,g,G⟩:=Hf x h;obtain⟨I,ws,rfl,i,J⟩:=Hf z h';exact⟨C,I,rfl,⟨_,jk.seq f.fh g⟩,⟨_,jk.seq f.fh i⟩,A _ s t f (Rz g G i J)⟩
 .exact c.elim
end
end L2.DL
namespace L2.ST
open PySem
def yD:Nat->Nat->Nat
 | 0,z=>z
 |n+1,z=>yD n (5*z+1)
def Hh (a b z):yD (a+b) z=yD b (yD a z):=by
 induction a generalizing z with
 |zero=>rw[Nat.zero_add];rfl
 |succ a c=>rw[Nat.succ_add];exact c _
def Hi (n z d):yD n (z+d)=yD n z+5 ^ n*d:=by
 induction n generalizing z d with
 |zero=>simp[yD]
 |succ n a =>
  show yD n (5*(z+d)+1)=yD n (5*z+1)+5 ^ (n+1)*d
  grind
def mP (n):5 ^ n % 4=1:=by
 induction n with
 |zero=>rfl
 |succ n a=>lia
def R0 (k z):∃u,yD (2 ^ k) z=z+2 ^ k*(2*u+1):=by
 induction k generalizing z with
 |zero=>exact⟨2*z,by show 5*z+1=z+1*(2*(2*z)+1);lia⟩
 |succ k b =>
  obtain⟨u,a⟩:=b z;have e:2 ^ (k+1)=2 ^ k+2 ^ k:=()
  rw[e,Hh,a,Hi,a];have c:=mP (2 ^ k);have ⟨v,hv⟩:∃v,5 ^ (2 ^ k)=4*v+1:=⟨5 ^ (2 ^ k) / 4,()⟩;refine⟨2*u*(2*v+1) / 2+v,?_⟩;have:2*u*(2*v+1) / 2=u*(2*v+1):=by grind
  grind
def R1 (m n z):yD n z % m=yD n (z % m) % m:=by
 have h:=Hi n (z % m) (m*(z / m));rw[Nat.mod_add_div] at h;rw[h,<- Nat.mul_assoc,Nat.mul_comm _ m,Nat.mul_assoc,Nat.add_mul_mod_self_left]
theorem Dv:∀k x y,y<2 ^ k->∃q,q<2 ^ k/\yD q x % 2 ^ k=y
 | 0,x,y,h=>by grind
 |k+1,x,y,h=>by
  have e:2 ^ (k+1)=2*2 ^ k:=()
  have hp:0<2 ^ k:=Nat.two_pow_pos k;obtain⟨q,o,g⟩:=Dv k x (y % 2 ^ k) (UC _ hp);rw[e] at h ⊢;by_cases c:yD q x % (2*2 ^ k)=y
  .grind
  .refine⟨q+2 ^ k,(),?_⟩;rw[Hh];obtain⟨u,i⟩:=R0 k (yD q x);rw[i];generalize yD q x=w at *;generalize 2 ^ k=m at *;have j:w+m*(2*u+1)=(w+m)+(2*m)*u:=by grind
   rw[j,Nat.add_mul_mod_self_left];have l:=Nat.div_add_mod w m;have f:=UC w (show 0<2*m from ());rw[g] at l;have a:w % (2*m) % m=y % m:=by rwa [Nat.mod_mul_left_mod]
   have a1:w % (2*m)<m\/m<=w % (2*m):=()
   have a2:y<m\/m<=y:=()
   have b:∀t,t<2*m->m<=t->t % m=t-m:=λt p n=>by
    rw[Nat.mod_eq_sub_mod n,UV ()]
   rw[Nat.add_mod,UV (show m<2*m from ())];generalize w % (2*m)=t at *;rcases a1 with a1|a1<;>rcases a2 with a2|a2
   .rw[UV a1,UV a2] at a;exact Zn a c
   .rw[UV a1,b y h a2] at a;rw[UV ()];lia
   .rw[UV a2,b t f a1] at a;rw[Nat.mod_eq_sub_mod (),UV ()];lia
   .rw[b t f a1,b y h a2] at a;exact Zn () c
def JE (t:YD):Nat->SetTable.Probe->SetTable.Probe
 | 0,p=>p
 |n+1,p=>JE t n (t.advance p)
def YV (t)(a b)(p):JE t (a+b) p=JE t b (JE t a p):=by
 induction a generalizing p with
 |zero=>rw[Nat.zero_add];rfl
 |succ a c=>rw[Nat.succ_add];exact c _
def R3 (t)(n)(p):JE t (n+1) p=t.advance (JE t n p):=YV t n 1 p
def Kq (mask i pert:Nat):SetTable.Probe:={ j:=i,more:=SetTable.runEnd mask i-i,i:=i,perturb:=pert,dummy:=none }
def qE (mask:Nat):Nat->Nat×Nat->Nat×Nat
 | 0,s=>s
 |n+1,s=>qE mask n (SetTable.leap mask s.1 s.2)
def AZ (mask i):SetTable.runEnd mask i-i<=9:=by
 grind[SetTable.runEnd]
def Hj (t)(m):∀p,p.more=m->p.dummy=none->JE t (m+1) p=Kq t.mask (SetTable.leap t.mask p.i p.perturb).1 (SetTable.leap t.mask p.i p.perturb).2:=by
 induction m with
 |zero =>
  intro p a b;show t.advance p=_
  simp_all [SetTable.advance,Kq]
 |succ m c =>
  intro p a b;show JE t (m+1) (t.advance p)=_
  simp_all [SetTable.advance]
theorem Hk (t):∀r i pert,∃n,n<=10*r/\JE t n (Kq t.mask i pert)=Kq t.mask (qE t.mask r (i,pert)).1 (qE t.mask r (i,pert)).2
 | 0,i,pert=>⟨0,Zf _,rfl⟩
 |r+1,i,pert=>by
  have ⟨n,a,b⟩:=Hk t r (SetTable.leap t.mask i pert).1 (SetTable.leap t.mask i pert).2;have c:=AZ t.mask i;refine⟨(SetTable.runEnd t.mask i-i+1)+n,(),?_⟩
  rwa [YV,(Hj t (SetTable.runEnd t.mask i-i) (Kq t.mask i pert) rfl rfl)]
def Hl (mask a b)(s):qE mask (a+b) s=qE mask b (qE mask a s):=by
 induction a generalizing s with
 |zero=>rw[Nat.zero_add];rfl
 |succ a c=>rw[Nat.succ_add];exact c _
theorem Dw (mask):∀r s,(qE mask r s).2=s.2 / 32 ^ r
 | 0,s=>by show s.2=_;rw[Nat.pow_zero,Nat.div_one]
 |r+1,s=>by
  show(qE mask r (SetTable.leap mask s.1 s.2)).2=_;rw[Dw mask r];show s.2 / 32 / 32 ^ r=_;rw[Nat.div_div_eq_div_mul,Nat.pow_succ,Nat.mul_comm 32]
theorem Dx (mask):∀r i,i<mask+1->qE mask r (i,0)=(yD r i % (mask+1),0)
 | 0,i,h=>by
  show(i,0)=(i % (mask+1),0);rw[UV h]
 |r+1,i,h=>by
  show qE mask r ((i*5+1+0 / 32) % (mask+1),0 / 32)=(yD r (5*i+1) % (mask+1),0);rw[Nat.zero_div,Nat.add_zero,Dx mask r _ (UC _ ()),<- R1,Nat.mul_comm i 5]
def Hm (mask r)(s)(h:s.1<mask+1):(qE mask r s).1<mask+1:=by
 induction r generalizing s with
 |zero=>exact h
 |succ r a=>exact a _ (UC _ ())
def fP (c:t.mask+1=2 ^ k)(h)(f:y<=t.mask):∃n,n<10*SetTable.turns t.mask/\(JE t n (t.probeStart h)).j=y:=by
 have hs:t.probeStart h=Kq t.mask (SetTable.bits h % (t.mask+1)) (SetTable.bits h):=rfl;have g:SetTable.bits h<2 ^ 64:=by
  grind[SetTable.bits]
 have i:=Hm t.mask 13 (SetTable.bits h % (t.mask+1),SetTable.bits h) (UC _ ());have hp:(qE t.mask 13 (SetTable.bits h % (t.mask+1),SetTable.bits h)).2=0:=by
  grind[Dw]
 have ⟨q,j,e⟩:=Dv k (qE t.mask 13 (SetTable.bits h % (t.mask+1),SetTable.bits h)).1 y ();have a:qE t.mask (13+q) (SetTable.bits h % (t.mask+1),SetTable.bits h)=(y,0):=by
  rw[Hl]
  grind[Dx]
 have ⟨n,l,b⟩:=Hk t (13+q) (SetTable.bits h % (t.mask+1)) (SetTable.bits h);refine⟨n,by unfold SetTable.turns;lia,?_⟩;rw[hs,b,a];rfl
def Hn {t:YD}{p:SetTable.Probe}(h:p.dummy=none):(t.advance p).dummy=none:=by
 grind[SetTable.advance]
def R4 {t:YD}{p:SetTable.Probe}(h:p.dummy=none)(n):(JE t n p).dummy=none:=by
 induction n generalizing p with
 |zero=>exact h
 |succ n a=>exact a (Hn h)
theorem Ho {t:YD}{hashAt:Nat->Int}{h:Int}:∀k fuel p,k<fuel->p.dummy=none->(∀m,m<k->∃i,t.slot (JE t m p).j=.live i)->t.slot (JE t k p).j=.empty ->
 (∃m i,m<k/\t.slot (JE t m p).j=.live i/\hashAt i=h/\SetTable.probe.go t hashAt h fuel p=some (.candidate (JE t m p).j i (JE t (m+1) p))/\∀a b,a<m->t.slot (JE t a p).j=.live b->hashAt b≠h) \/
 (SetTable.probe.go t hashAt h fuel p=some (.empty (JE t k p).j none)/\∀a b,a<k->t.slot (JE t a p).j=.live b->hashAt b≠h)
 | 0,0,p,hf,_,_,_=>()
 | 0,fuel+1,p,_,hd,_,e=>by
  have e:t.slot p.j=.empty:=e;refine .inr ⟨?_,()⟩;unfold SetTable.probe.go;rw[e,hd];rfl
 |k+1,0,p,hf,_,_,_=>()
 |k+1,fuel+1,p,hf,hd,hl,e=>by
  have ⟨i,f⟩:=hl 0 (Va _);have f:t.slot p.j=.live i:=f;by_cases c:hashAt i=h
  .refine .inl ⟨0,i,Va _,f,c,?_,()⟩;unfold SetTable.probe.go;rw[f];show(if(hashAt i == h)=true then _ else _)=_;rw[Zd ()];rfl
  .have j:SetTable.probe.go t hashAt h (fuel+1) p=SetTable.probe.go t hashAt h fuel (t.advance p):=by
    simp_all [SetTable.probe.go]
   rcases Ho k fuel (t.advance p) () (Hn hd) (λm l=>hl (m+1) ()) e with ⟨m,n,o,g,q,s,r⟩|⟨o,g⟩
   .refine .inl ⟨m+1,n,(),g,q,by rwa [j],λa b l hs=>?_⟩;cases a with
    |zero =>
     simp_all
    |succ a=>exact r a b () hs
   .refine .inr ⟨by rwa [j],λa b l hs=>?_⟩;cases a with
    |zero =>
     simp_all
    |succ a=>exact g a b () hs
open PySem
def zZ (a:Yi):Prop:=∀i j,i<j->j<a.size->a.getD i 0<a.getD j 0
def Kr {α: Type}{a:Array α}(h)(d):a.getD i d=a[i]:=()
theorem Dy (u:zZ xs):∀fuel lo a,a-lo<=fuel->lo<=a->a<=xs.size->(∀i,i<lo->xs.getD i 0<j)->(∀i,a<=i->i<xs.size->j<=xs.getD i 0) ->
 SetTable.below.go xs j fuel lo a<=xs.size/\(∀i,i<SetTable.below.go xs j fuel lo a->xs.getD i 0<j)/\∀i,SetTable.below.go xs j fuel lo a<=i->i<xs.size->j<=xs.getD i 0
 | 0,lo,a,hf,hl,hs,h1,h2=>by
  have e:lo=a:=()
  subst e;unfold SetTable.below.go;exact⟨hs,h1,h2⟩
 |fuel+1,lo,a,hf,hl,hs,h1,h2=>by
  unfold SetTable.below.go;by_cases c:lo<a
  .rw[Zd c];obtain⟨m,e,l,m2,n,o⟩:=Fy (k:=fuel+1) (x:=0) c hf;have f:m<xs.size:=Zg m2 hs;have h:xs.getD m j=xs.getD m 0:=by rw[Kr f,Kr f]
   show(if xs.getD ((lo+a) / 2) j<j then _ else _)<=xs.size/\(∀i,i<(if xs.getD ((lo+a) / 2) j<j then _ else _)->_)/\∀i,(if xs.getD ((lo+a) / 2) j<j then _ else _)<=i->_;rw[e];by_cases d:xs.getD m j<j
   .rw[Zd d];rw[h] at d;refine Dy u fuel (m+1) a o m2 hs (λi b=>?_) h2;by_cases q:i=m
    .rw[q];exact d
    .exact Uf (u i m (UD (Uq b) q) f) d
   .rw[Ze d];rw[h] at d;refine Dy u fuel lo m n l (Zz f) h1 λi b g=>?_;by_cases q:i=m
    .rw[q];exact Nat.le_of_not_lt d
    .exact Zz (UJ (Nat.le_of_not_lt d) (u m i (UD b (Ne.symm q)) g))
  .rw[Ze c];have e:lo=a:=()
   subst e;exact⟨hs,h1,h2⟩
def Ba (u:zZ xs)(j):SetTable.below xs j<=xs.size/\(∀i,i<SetTable.below xs j->xs.getD i 0<j)/\∀i,SetTable.below xs j<=i->i<xs.size->j<=xs.getD i 0:=
 Dy u xs.size 0 xs.size () () (Zf _) () ()
def R5 (u:zZ xs)(c:i<xs.size):SetTable.below xs (xs.getD i 0)=i:=by
 obtain⟨g,e,f⟩:=Ba u (xs.getD i 0);generalize SetTable.below xs (xs.getD i 0)=p at *;rcases Vb p i with q|q|q
 .have a:=u p i q c;have b:=f p (Zf _) ();lia
 .exact q
 .have:=e i q;lia
def yx (t:YD)(j:Nat):Prop:=∃i,i<t.place.size/\t.place.getD i 0=j
def Hq (j):SetTable.has #[] j=false:=rfl
def Hr {t:YD}(u:zZ t.place){i j:Nat}(a:i<t.place.size)(e:t.place.getD i 0=j):t.slot j=.live i:=by
 unfold SetTable.slot;have b:SetTable.below t.place j=i:=by rw[<- e];exact R5 u a
 simp_all
def R6 (b:t.dummies = #[])(h:¬yx t j):t.slot j=.empty:=by
 unfold SetTable.slot;have c:¬(t.place[SetTable.below t.place j]? == some j)=true:=by
  intro z;have z:t.place[SetTable.below t.place j]? = some j:=by simpa using z
  obtain⟨a,e⟩:=Jv.mp z;exact h ⟨_,a,by rwa [Kr a]⟩
 simp_all [Hq]
def R7 (u:zZ t.place)(h:yx t j):∃i,t.slot j=.live i/\i<t.place.size/\t.place.getD i 0=j:=by
 obtain⟨i,a,e⟩:=h;exact⟨i,Hr u a e,a,e⟩
def R8 {t t':YD}(h:t.mask=t'.mask)(p):t.advance p=t'.advance p:=by
 unfold SetTable.advance;rw[h]
def Hs {t t':YD}(h:t.mask=t'.mask)(n)(p):JE t n p=JE t' n p:=by
 induction n generalizing p with
 |zero=>rfl
 |succ n a=>show JE t n (t.advance p)=JE t' n (t'.advance p);rw[R8 h,a]
def Ht {t t':YD}(h:t.mask=t'.mask)(x):t.probeStart x=t'.probeStart x:=by
 unfold SetTable.probeStart;rw[h]
def vr (t:YD)(o:Nat->Prop)(x:Int)(y:Nat):Prop:=∃n,(JE t n (t.probeStart x)).j=y/\∀m,m<n->o (JE t m (t.probeStart x)).j
def vr.mono {t t':YD}{o c:Nat->Prop}{x:Int}{y:Nat}(h:vr t o x y)(a:t.mask=t'.mask)(e:∀j,o j->c j):vr t' c x y:=by
 obtain⟨n,g,f⟩:=h;refine⟨n,?_,λm b=>?_⟩
 .rwa [<- Hs a,<- Ht a]
 .rw[<- Hs a,<- Ht a];exact e _ (f m b)
structure TabOk (t:YD)(hs:Array Int):Prop where
 size:t.place.size=hs.size
 up:zZ t.place
 le:∀i,i<t.place.size->t.place.getD i 0<=t.mask
 nod:t.dummies = #[]
 pow:∃k,t.mask+1=2 ^ k
 room:t.place.size<=t.mask
 ways:∀i,i<t.place.size->vr t (yx t) (hs.getD i 0) (t.place.getD i 0)
def R9 (u:zZ xs)(hs:xs.size<=m):∃y,y<=m/\∀i,i<xs.size->xs.getD i 0≠y:=by
 by_cases h:∀i,i<xs.size->xs.getD i 0=i
 .exact⟨m,Zf _,λi j e=>()⟩
 .obtain⟨i,j,hne,hmin⟩:∃i,i<xs.size/\xs.getD i 0≠i/\∀k,k<i->xs.getD k 0=k:=by
   have g:∀n,n<=xs.size->(∀k,k<n->xs.getD k 0=k)\/∃i,i<xs.size/\xs.getD i 0≠i/\∀k,k<i->xs.getD k 0=k:=by
    intro n
    induction n with
    |zero=>intro _;exact .inl λk f=>Zn f (UQ _)
    |succ n l =>
     intro o;rcases l () with q|q
     .by_cases c:xs.getD n 0=n
      .refine .inl λk f=>?_;by_cases e:k=n
       .rwa [e]
       .exact q k ()
      .exact .inr ⟨n,(),c,q⟩
     .exact .inr q
   rcases g xs.size (Zf _) with q|q
   .exact Zn q h
   .exact q
  refine⟨i,(),λk f e=>?_⟩;rcases Vb k i with q|q|q
  .grind
  .subst q;exact hne e
  .have a:=u i k q f;have b:i<=xs.getD i 0:=by
    cases i with
    |zero=>exact Ua _
    |succ i =>
     have:=u i (i+1) () j;have:=hmin i ();lia
   lia
def RA (T:TabOk t hs)(x):∃n,n<10*SetTable.turns t.mask/\(∀m,m<n->yx t (JE t m (t.probeStart x)).j)/\¬yx t (JE t n (t.probeStart x)).j:=by
 obtain⟨k,g⟩:=T.pow;obtain⟨y,h,j⟩:=R9 T.up T.room;obtain⟨n,b,e⟩:=fP g x h;have a:¬yx t (JE t n (t.probeStart x)).j:=by
  rw[e];rintro⟨i,l,q⟩;exact j i l q
 have f:∀d n,n<=d->n<10*SetTable.turns t.mask->¬yx t (JE t n (t.probeStart x)).j->∃n,n<10*SetTable.turns t.mask/\(∀m,m<n->yx t (JE t m (t.probeStart x)).j)/\¬yx t (JE t n (t.probeStart x)).j:=by
  intro d
  induction d with
  |zero =>
   grind
  |succ d o =>
   intro n s b a;by_cases c:∀m,m<n->yx t (JE t m (t.probeStart x)).j
   .exact⟨n,b,c,a⟩
   .have ⟨m,p⟩:=Classical.not_forall.mp c;have ⟨u,r⟩:=Classical.not_imp.mp p;exact o m () () r
 exact f n n (Zf _) b a
def Dz {α: Type}(a:Array α)(hp:p<=a.size)(x):(SetTable.insertAt a p x).size=a.size+1:=by
 grind[SetTable.insertAt]
def Hu {α: Type}(a:Array α)(hp:p<=a.size)(x d)(i):(SetTable.insertAt a p x).getD i d=if i<p then a.getD i d else if i=p then x else a.getD (i-1) d:=by
 unfold SetTable.insertAt;simp only[VW]
 grind
def RB (T:TabOk t hs)(w:y<=t.mask)(A:¬yx t y)(B:vr t (yx t) x y)(H:t.place.size+1<=t.mask):TabOk (t.put y).1 (SetTable.insertAt hs (t.put y).2 x)/\(t.put y).2<=hs.size/\(t.put y).1.mask=t.mask:=by
 obtain⟨q,C,E⟩:=Ba T.up y;have hp:(t.put y).2=SetTable.below t.place y:=rfl;have a:(t.put y).1.place=SetTable.insertAt t.place (SetTable.below t.place y) y:=rfl;have b:(t.put y).1.mask=t.mask:=rfl;have m:(t.put y).1.dummies = #[]:=by
  show(if SetTable.has t.dummies y then SetTable.eraseAt t.dummies (SetTable.below t.dummies y) else t.dummies)=_;rw[T.nod,Hq];rfl
 rw[hp];have F:∀i,SetTable.below t.place y<=i->i<t.place.size->y<t.place.getD i 0:=λi G r=>by
  have:=E i G r;have:t.place.getD i 0≠y:=λz=>A ⟨i,r,z⟩;lia
 generalize SetTable.below t.place y=p at *;have sz:(SetTable.insertAt t.place p y).size=t.place.size+1:=Dz _ q _;have h:=Hu t.place q y 0;have n:∀j,yx t j->yx (t.put y).1 j:=by
  rintro j ⟨i,l,e⟩;by_cases c:i<p
  .exact⟨i,by rw[a,sz];lia,by rw[a,h,Zd c];exact e⟩
  .exact⟨i+1,by rw[a,sz];lia,by rw[a,h,Ze (),Ze (),Nat.add_sub_cancel];exact e⟩
 have hsz:=T.size;refine⟨⟨?_,?_,?_,m,by rw[b];exact T.pow,(),?_⟩,(),b⟩
 .rw[a,sz,Dz _ ()];lia
 .intro i j o s;rw[a] at s ⊢;rw[sz] at s;rw[h,h];by_cases f:j<p
  .rw[Zd f,Zd ()];exact T.up i j o ()
  .rw[Ze f];by_cases g:j=p
   .rw[Zd g,Zd ()];exact C i ()
   .rw[Ze g];by_cases u:i<p
    .rw[Zd u];exact T.up i (j-1) () ()
    .rw[Ze u];by_cases v:i=p
     .rw[Zd v];exact F (j-1) () ()
     .rw[Ze v];exact T.up (i-1) (j-1) (Nat.sub_lt_sub_right () (by assumption)) ()
 .intro i l;rw[a] at l ⊢;rw[sz] at l;rw[h,b]
  split
  .exact T.le i ()
  .split
   .exact w
   .exact T.le (i-1) ()
 .intro i l;rw[a] at l ⊢;rw[sz] at l;rw[h,Hu hs () x 0];by_cases f:i<p
  .rw[Zd f,Zd f];exact(T.ways i ()).mono b.symm n
  .rw[Ze f,Ze f];by_cases g:i=p
   .rw[Zd g,Zd g];exact B.mono b.symm n
   .rw[Ze g,Ze g];exact(T.ways (i-1) ()).mono b.symm n
open PySem
theorem Bb (t)(i pert):∀k,k<=SetTable.runEnd t.mask i-i->JE t k (Kq t.mask i pert)={ j:=i+k,more:=SetTable.runEnd t.mask i-i-k,i:=i,perturb:=pert,dummy:=none }
 | 0,_=>rfl
 |k+1,h=>by
  rw[R3,Bb t i pert k ()]
  grind[SetTable.advance]
def D0 {mask i:Nat}(h:i<=mask):i<=SetTable.runEnd mask i/\SetTable.runEnd mask i<=mask:=by
 grind[SetTable.runEnd]
def ye (owner:Array (Option Nat))(j:Nat):Prop:=∃i,owner.getD j none=some i
theorem Hv {t:YD}{owner:Array (Option Nat)}(hs:owner.size=t.mask+1):∀fuel i pert y,i<=t.mask->SetTable.layClean.free t.mask owner fuel i pert=some y ->
 y<=t.mask/\owner.getD y none=none/\∃n,(JE t n (Kq t.mask i pert)).j=y/\∀m,m<n->ye owner (JE t m (Kq t.mask i pert)).j
 | 0,i,pert,y,_,h=>by unfold SetTable.layClean.free at h;exact J6 h
 |fuel+1,i,pert,y,hi,h=>by
  have j:=D0 hi;unfold SetTable.layClean.free at h;have l:∀{k},k<SetTable.runEnd t.mask i+1-i->k<=SetTable.runEnd t.mask i-i:=λa=>by
   rw[Nat.succ_sub j.1] at a;exact Uq a
  have o:∀{k},k<SetTable.runEnd t.mask i+1-i->i+k<owner.size:=λa=>by
   rw[hs];exact Nat.lt_succ_of_le (Zh (Nat.add_le_of_le_sub' j.1 (l a)) j.2)
  have e:∀k,k<SetTable.runEnd t.mask i+1-i->owner.getD (i+k) (some 0)=owner.getD (i+k) none:=λk a=>by
   rw[Kr (o a),Kr (o a)]
  have bz:∀k,k<SetTable.runEnd t.mask i+1-i->(!(owner.getD (i+k) (some 0)).isNone)=true->ye owner (i+k):=λk a p=>by
   rw[e k a] at p;unfold ye;cases q:owner.getD (i+k) none with
   |none=>rw[q] at p;exact JB p
   |some v=>exact⟨v,rfl⟩
  split at h
  .rename_i k a;obtain⟨r,b,s⟩:=List.find?_range_eq_some.mp a;have b:=Jg.mp b;obtain rfl:=Zqi h;refine⟨Uq (by have:=o b;rwa [hs] at this),?_,k,?_,λm f=>?_⟩
   .rw[e k b] at r;cases q:owner.getD (i+k) none with
    |none=>rfl
    |some v=>rw[q] at r;exact JB r
   .rw[Bb t i pert k (l b)]
   .rw[Bb t i pert m (l (Uf f b))];exact bz m (Uf f b) (s m f)
  .rename_i a;have s:=Jw.mp a;have w:(SetTable.leap t.mask i pert).1<=t.mask:=Jn.mp (UC _ (Va _));obtain⟨x,z,n,A,B⟩:=Hv hs fuel _ _ y w h;have g:=Hj t (SetTable.runEnd t.mask i-i) (Kq t.mask i pert) rfl rfl;have g:JE t (SetTable.runEnd t.mask i-i+1) (Kq t.mask i pert)=Kq t.mask (SetTable.leap t.mask i pert).1 (SetTable.leap t.mask i pert).2:=g;refine⟨x,z,SetTable.runEnd t.mask i-i+1+n,by rw[YV,g];exact A,λm f=>?_⟩;by_cases c:m<=SetTable.runEnd t.mask i-i
   .rw[Bb t i pert m c];exact bz m () (s m ())
   .obtain⟨u,rfl⟩:∃u,m=SetTable.runEnd t.mask i-i+1+u:=⟨m-(SetTable.runEnd t.mask i-i+1),()⟩;rw[YV,g];exact B u ()
theorem Hw {mask:Nat}{owner:Array (Option Nat)}(hs:owner.size=mask+1):∀fuel i pert,i<=mask->SetTable.layClean.free mask owner fuel i pert=none->∀r,r<fuel->ye owner (qE mask r (i,pert)).1
 | 0,i,pert,_,_,r,hr=>Zn hr (UQ _)
 |fuel+1,i,pert,hi,h,r,hr=>by
  have a:=D0 hi;unfold SetTable.layClean.free at h
  split at h
  .cases h
  .rename_i b;have c:(SetTable.leap mask i pert).1<=mask:=Jn.mp (UC _ (Va _));cases r with
   |zero =>
    have f:=(Jw.mp b) 0 ();have e:owner.getD (i+0) (some 0)=owner.getD i none:=by grind
    rw[e] at f;show ye owner i;unfold ye;cases q:owner.getD i none with
    |none=>simp_all
    |some v=>simp
   |succ r=>exact Hw hs fuel _ _ c h r ()
def RC {mask k:Nat}(a:mask+1=2 ^ k)(h){y:Nat}(b:y<=mask):∃r,r<SetTable.turns mask/\(qE mask r (SetTable.bits h % (mask+1),SetTable.bits h)).1=y:=by
 have c:SetTable.bits h<2 ^ 64:=by
  grind[SetTable.bits]
 have f:=Hm mask 13 (SetTable.bits h % (mask+1),SetTable.bits h) (UC _ ());have hp:(qE mask 13 (SetTable.bits h % (mask+1),SetTable.bits h)).2=0:=by
  grind[Dw]
 have ⟨q,g,e⟩:=Dv k (qE mask 13 (SetTable.bits h % (mask+1),SetTable.bits h)).1 y ();refine⟨13+q,by unfold SetTable.turns;lia,?_⟩;rw[Hl]
 grind[Dx]
structure LayOk (t:YD)(owner:Array (Option Nat))(hs:Yh):Prop where
 size:owner.size=t.mask+1
 lt:∀j i,owner.getD j none=some i->i<hs.length
 one:∀j j' i,owner.getD j none=some i->owner.getD j' none=some i->j=j'
 all:∀i,i<hs.length->∃j,j<=t.mask/\owner.getD j none=some i/\vr t (ye owner) (hs.getD i 0) j
def RD {f:Nat->Nat}{n:Nat}(h:∀a b,a<n->b<n->f a=f b->a=b):((List.range n).map f).Nodup:=by
 grind[List.pairwise_map,List.Pairwise.imp_of_mem,List.nodup_range]
def RE {t:YD}{owner:Array (Option Nat)}{hs:Yh}(L:LayOk t owner hs)(p:hs.length<=t.mask):∃y,y<=t.mask/\owner.getD y none=none:=by
 apply VX;intro j;have g:∀y,y<t.mask+1->∃i,owner.getD y none=some i:=λy h=>by
  cases q:owner.getD y none with
  |none=>grind
  |some i=>simp
 have l:((List.range (t.mask+1)).map λy=>(owner.getD y none).getD 0).Nodup:=RD λa b m n e=>by
  obtain⟨i,c⟩:=g a m;obtain⟨o,f⟩:=g b n;rw[c,f] at e;have e:i=o:=e;subst e;exact L.one a b i c f
 have sub:((List.range (t.mask+1)).map λy=>(owner.getD y none).getD 0) ⊆ List.range hs.length:=λz hz=>by
  obtain⟨y,h,rfl⟩:=Ja.mp hz;obtain⟨i,c⟩:=g y (Jg.mp h);rw[c];exact Jg.mpr (L.lt y i c)
 have:=VY l sub
 grind
def RF {owner:Array (Option Nat)}{y:Nat}(a:y<owner.size)(v)(j):(owner.setIfInBounds y v).getD j none=if j=y then v else owner.getD j none:=by
 simp
 grind
def RG {t:YD}{owner:Array (Option Nat)}{hs:Yh}(L:LayOk t owner hs)(x:hs.length<=t.mask)(hp:∃k,t.mask+1=2 ^ k)(h):
 ∃y,SetTable.layClean.free t.mask owner (SetTable.turns t.mask) (SetTable.bits h % (t.mask+1)) (SetTable.bits h)=some y/\LayOk t (owner.setIfInBounds y (some hs.length)) (hs++[h]):=by
 have p:SetTable.bits h % (t.mask+1)<=t.mask:=Jn.mp (UC _ (Va _));cases q:SetTable.layClean.free t.mask owner (SetTable.turns t.mask) (SetTable.bits h % (t.mask+1)) (SetTable.bits h) with
 |none =>
  obtain⟨k,A⟩:=hp;obtain⟨y,B,C⟩:=RE L x;obtain⟨r,E,e⟩:=RC A h B;obtain⟨i,hz⟩:=Hw L.size _ _ _ p q r E;rw[e,C] at hz;exact J6 hz
 |some y =>
  obtain⟨F,s,n,G,H⟩:=Hv L.size _ _ _ y p q;have l:=RF (owner:=owner) (y:=y) (by rw[L.size];lia) (some hs.length);have u:∀j,ye owner j->ye (owner.setIfInBounds y (some hs.length)) j:=by
   rintro j ⟨i,f⟩;refine⟨i,?_⟩;rw[l,Ze λz=>by rw[z,s] at f;cases f];exact f
  refine⟨y,rfl,⟨by rw[Array.size_setIfInBounds];exact L.size,λj i f=>?_,λj v i f g=>?_,λi o=>?_⟩⟩
  .rw[Ub,Uj];rw[l] at f
   split at f
   .simp_all
   .have:=L.lt j i f;lia
  .rw[l] at f g
   split at f
   .rename_i a;obtain rfl:=Zqi f
    split at g
    .rename_i b;rw[a,b]
    .have:=L.lt v _ g;lia
   .split at g
    .obtain rfl:=Zqi g;have:=L.lt j _ f;lia
    .exact L.one j v i f g
  .rw[Ub,Uj] at o;by_cases c:i<hs.length
   .have ⟨j,I,w,J⟩:=L.all i c;refine⟨j,I,?_,?_⟩
    .rwa [l,Ze λz=>by rw[z,s] at w;cases w]
    .have e:(hs++[h]).getD i 0=hs.getD i 0:=by
      rw[Ur,Ur,UR c]
     rw[e];exact J.mono rfl u
   .have e:i=hs.length:=()
    subst e;refine⟨y,F,by rw[l,Zd rfl],?_⟩;have e:(hs++[h]).getD hs.length 0=h:=by
     rw[Ur,US (Zf _),Nat.sub_self];rfl
    rw[e];exact⟨n,G,λm K=>u _ (H m K)⟩
theorem Hx {t:YD}(hp:∃k,t.mask+1=2 ^ k):∀rest hs owner,LayOk t owner hs->hs.length+rest.length<=t.mask+1 ->
 ∃a,rest.foldl (init:=some (owner,hs.length)) (λb h=>do
  let (owner,k) <- b
  let j <- SetTable.layClean.free t.mask owner (SetTable.turns t.mask) (SetTable.bits h % (t.mask+1)) (SetTable.bits h)
  pure (owner.setIfInBounds j (some k),k+1))=some (a,hs.length+rest.length)/\LayOk t a (hs++rest)
 | [],hs,owner,L,_=>by grind
 |h::rest,hs,owner,L,hl=>by
  rw[Zu] at hl;obtain⟨y,e,c⟩:=RG L () hp h;obtain⟨f,g,L2⟩:=Hx hp rest (hs++[h]) _ c ()
  grind
def RH {t:YD}(hp:∃k,t.mask+1=2 ^ k)(hs)(b:hs.size<=t.mask+1):∃owner,SetTable.layClean t.mask hs=some owner/\LayOk t owner hs.toList:=by
 have a:LayOk t (Array.replicate (t.mask+1) none) []:=by
  have z:∀j i,(Array.replicate (t.mask+1) (none:Option Nat)).getD j none≠some i:=λj i h=>by
   simp[Array.getElem?_replicate] at h
   split at h<;>exact J6 h
  exact⟨(),(),(),()⟩
 have ⟨o,e,L⟩:=Hx hp hs.toList [] _ a ()
 simp_all [SetTable.layClean]
open PySem
def RJ {owner:Array (Option Nat)}{j i:Nat}(h:owner.getD j none=some i):j<owner.size:=()
def KC (mask:Nat)(owner:Array (Option Nat)):List (Nat×Nat):=(List.range (mask+1)).filterMap λj=>(owner.getD j none).map (j,·)
def RK:p∈KC mask owner↔p.1<=mask/\owner.getD p.1 none=some p.2:=by
 unfold KC;rw[List.mem_filterMap];constructor
 .rintro⟨j,a,e⟩;obtain⟨i,b,e⟩:=Jk.mp e;subst e;exact⟨Jn.mp (Jg.mp a),b⟩
 grind
def RL (mask)(owner):(KC mask owner).Pairwise λa b=>a.1<b.1:=by
 unfold KC;rw[List.pairwise_filterMap];refine List.pairwise_lt_range.imp λ{a b} c x e y f=>?_;obtain⟨i,_,rfl⟩:=Jk.mp e;obtain⟨g,_,rfl⟩:=Jk.mp f;exact c
def D1 {α: Type}(l:List α)(i)(d):l.toArray.getD i d=l.getD i d:=()
def D2 {α β: Type}(l:List α)(f:α -> β)(i)(hi)(d):(l.map f).getD i d=f l[i]:=()
def RM {mask:Nat}(hp:∃k,mask+1=2 ^ k)(hs)(S:hs.size<=mask)(finger moves)(led plain):
 ∃t' c,SetTable.laid mask finger moves led plain hs=some (t',c)/\t'.mask=mask/\t'.moves=moves/\t'.led=led/\t'.plain=plain/\t'.finger=finger/\c.size=hs.size/\(∀k,k<c.size->c.getD k 0<hs.size)/\(∀k l,k<c.size->l<c.size->c.getD k 0=c.getD l 0->k=l)/\(∀i,i<hs.size->∃k,k<c.size/\c.getD k 0=i)/\TabOk t' (c.map λi=>hs.getD i 0):=by
 let C:YD:={ mask:=mask,place:=#[],dummies:=#[],finger:=0,led:=false,moves:=0,plain:=true }
 obtain⟨owner,e,L⟩:=RH (t:=C) hp hs ();have e:SetTable.layClean mask hs=some owner:=e;have hsz:owner.size=mask+1:=L.size;have mem:=λp=>RK (mask:=mask) (owner:=owner) (p:=p);have B:=RL mask owner;have x:((KC mask owner).map (·.2)).Nodup:=by
  unfold List.Nodup;rw[UW];refine List.Pairwise.imp_of_mem (λ{a b} E F G n=>?_) B;have m:=((mem a).mp E).2;have u:=((mem b).mp F).2;rw[n] at m;have:=L.one _ _ _ m u;lia
 have v:((KC mask owner).map (·.2)) ⊆ List.range hs.size:=λz hz=>by
  obtain⟨p,hp,rfl⟩:=Ja.mp hz;have:=L.lt _ _ ((mem p).mp hp).2;exact Jg.mpr (by simpa using this)
 have o:List.range hs.size ⊆ ((KC mask owner).map (·.2)):=λi g=>by
  obtain⟨j,m,u,_⟩:=L.all i (by simpa using Jg.mp g);exact Ja.mpr ⟨(j,i),(mem (j,i)).mpr ⟨m,u⟩,rfl⟩
 have len:(KC mask owner).length=hs.size:=by
  have a:=VY x v;have b:=VY List.nodup_range o;rw[Zql,ZC] at a b;lia
 have H:SetTable.laid mask finger moves led plain hs=some ({ mask:=mask,place:=((KC mask owner).map (·.1)).toArray,dummies:=#[],finger:=finger,led:=led,moves:=moves,plain:=plain },((KC mask owner).map (·.2)).toArray):=by
  unfold SetTable.laid;rw[e];rfl
 generalize I:KC mask owner=lv at *;have w:∀i g,((lv.map (·.1)).toArray).getD i 0=lv[i].1:=λi g=>by rw[D1,D2 _ _ _ g]
 have go:∀i g,((lv.map (·.2)).toArray).getD i 0=lv[i].2:=λi g=>by rw[D1,D2 _ _ _ g]
 have r:=Jj.mp B;refine⟨_,_,H,rfl,rfl,rfl,rfl,rfl,by simpa using len,λk f=>?_,λk l f h n=>?_,λi g=>?_,?_⟩
 .have f:k<lv.length:=by simpa using f
  rw[go k f];have:=L.lt _ _ ((mem lv[k]).mp (Uw f)).2;simpa using this
 .have f:k<lv.length:=by simpa using f
  have h:l<lv.length:=by simpa using h
  rw[go k f,go l h] at n;have m:=((mem lv[k]).mp (Uw f)).2;have u:=((mem lv[l]).mp (Uw h)).2;rw[n] at m;have T:=L.one _ _ _ m u;rcases Vb k l with q|q|q
  .have:=r k l f h q;lia
  .exact q
  .have:=r l k h f q;lia
 .obtain⟨p,hp,n⟩:=Ja.mp (o (Jg.mpr g));obtain⟨k,f,rfl⟩:=UB hp;exact⟨k,by simpa using f,by rw[go k f];exact n⟩
 .have J:∀j,ye owner j->yx { mask:=mask,place:=(lv.map (·.1)).toArray,dummies:=#[],finger:=finger,led:=led,moves:=moves,plain:=plain } j:=by
   rintro j ⟨i,s⟩;have K:=RJ s;have M:(j,i)∈lv:=(mem (j,i)).mpr ⟨by show j<=mask;lia,s⟩;obtain⟨k,f,n⟩:=UB M;exact⟨k,by simpa using f,by show((lv.map (·.1)).toArray).getD k 0=j;rw[w k f,n]⟩
  refine⟨(),λi j y s=>?_,λi g=>?_,rfl,hp,by show((lv.map (·.1)).toArray).size<=mask;simp;lia,λk f=>?_⟩
  .have s:j<lv.length:=by simpa using s
   show((lv.map (·.1)).toArray).getD i 0<((lv.map (·.1)).toArray).getD j 0;rw[w i (),w j s];exact r i j () s y
  .have g:i<lv.length:=by simpa using g
   show((lv.map (·.1)).toArray).getD i 0<=mask;rw[w i g];exact((mem lv[i]).mp (Uw g)).1
  .have f:k<lv.length:=by simpa using f
   have m:=((mem lv[k]).mp (Uw f)).2;have A:=L.lt _ _ m;obtain⟨j,U,N,O⟩:=L.all lv[k].2 A;have P:=L.one _ _ _ N m;subst P;have Q:(((lv.map (·.2)).toArray).map λi=>hs.getD i 0).getD k 0=hs.toList.getD lv[k].2 0:=by
    have R:((lv.map (·.2)).toArray).map (λi=>hs.getD i 0)=((lv.map (·.2)).map λi=>hs.getD i 0).toArray:=by simp
    rw[R,D1,Zw,D2 _ _ _ f];show hs.getD lv[k].2 0=_;rw[VW,Ur,Vl]
   rw[Q];show vr _ _ _ (((lv.map (·.1)).toArray).getD k 0);rw[w k f];exact O.mono rfl J
theorem Hy:∀fuel a n,(∃k,a=2 ^ k)->n<a*2 ^ fuel->(∃k,SetTable.sizeAbove.go n fuel a=2 ^ k)/\n<SetTable.sizeAbove.go n fuel a
 | 0,a,n,hp,h=>by
  simp_all [SetTable.sizeAbove.go]
 |fuel+1,a,n,⟨k,hk⟩,h=>by
  unfold SetTable.sizeAbove.go
  split
  .exact Hy fuel (a*2) n ⟨k+1,()⟩ ()
  grind
def Hz (h:n<1000000000):(∃k,SetTable.sizeAbove n=2 ^ k)/\n<SetTable.sizeAbove n:=
 Hy 64 8 n ⟨3,rfl⟩ (Zg h (by decide))
theorem HA:∀fuel a n,a<=2*n+8->SetTable.sizeAbove.go n fuel a<=2*n+8
 | 0,a,n,h=>h
 |fuel+1,a,n,h=>by
  unfold SetTable.sizeAbove.go
  split
  .exact HA fuel (a*2) n ()
  lia
def RN (n):SetTable.sizeAbove n<=2*n+8:=HA 64 8 n ()
def RO {t:YD}{hs:Array Int}{wanted:Nat}(r:hs.size<=wanted)(f:wanted<1000000000):
 ∃t' a,t.relaid hs wanted=some (t',a)/\t'.led=t.led/\t'.plain=t.plain/\t'.mask+1=SetTable.sizeAbove wanted/\a.size=hs.size/\(∀k,k<a.size->a.getD k 0<hs.size)/\(∀k b,k<a.size->b<a.size->a.getD k 0=a.getD b 0->k=b)/\(∀i,i<hs.size->∃k,k<a.size/\a.getD k 0=i)/\TabOk t' (a.map λi=>hs.getD i 0):=by
 obtain⟨⟨k,s⟩,g⟩:=Hz f;have h:SetTable.sizeAbove wanted-1+1=SetTable.sizeAbove wanted:=()
 obtain⟨t',a,e,j,_,l,m,_,n,o,p,q,c⟩:=RM ⟨k,by rwa [h]⟩ hs () t.finger (t.movedTo (SetTable.sizeAbove wanted-1)) t.led t.plain;exact⟨t',a,e,l,m,by rwa [j],n,o,p,q,c⟩
open PySem
variable {prog:Program}{w:World}{A:Around}{E:Ya}{s:Shared}
theorem TabOk.fits {t:YD}{es:Array (Int×Value)}(T:TabOk t (es.map (·.1))):t.fits es.size=true:=by
 have a:=T.size;rw[Uo] at a;unfold SetTable.fits SetTable.fill;rw[T.nod];simp[a,show es.size<=t.mask by have:=T.room;lia]
def HB {es:Array (Int×Value)}{i:Nat}(hi):(es.map (·.1)).getD i 0=es[i].1:=()
def D3 {es:Array (Int×Value)}{i:Nat}(hi):(es[i]?.map (·.1)).getD 0=es[i].1:=()
def V4 (t:YD)(p:SetTable.Probe):Prop:=p.j+p.more<=t.mask
def HC (t)(h:i<=t.mask):V4 t (Kq t.mask i pert):=by
 have:=D0 h;show i+(SetTable.runEnd t.mask i-i)<=t.mask;lia
def RP (h:V4 t p):V4 t (t.advance p):=by
 unfold V4 at h;unfold SetTable.advance
 split
 .show p.j+1+(p.more-1)<=t.mask;lia
 .have a:(SetTable.leap t.mask p.i p.perturb).1<=t.mask:=Jn.mp (UC _ (Va _));exact HC t (pert:=(SetTable.leap t.mask p.i p.perturb).2) a
def RQ (h:V4 t p)(n):V4 t (JE t n p):=by
 induction n generalizing p with
 |zero=>exact h
 |succ n a=>exact a (RP h)
def RR (t)(h):V4 t (t.probeStart h):=HC t (Jn.mp (UC _ (Va _)))
def RU (h:V4 t p)(n):(JE t n p).j<=t.mask:=by
 have:=RQ h n
 grind[V4]
theorem HD {a:Addr}{o:Obj}{es:Array (Int×Value)}{ep:Nat}{t:YD}{x:Value}{h:Int}{same:Value->Bool}{Q:SetFound->YC}{e:Nat}
 (O:s.heap.get? a=some o) (P:o.data=.set es ep t) (T:TabOk t (es.map (·.1))) (u:t.mask % 2=1)
 (hq:∀i (l:i<es.size),es[i].1=h->∀Q:Bool->YC,Q (same es[i].2) s->YJ prog w A (eqBool es[i].2 x) Q E s)
 (hr:∀i (l:i<es.size),∃b,es[i].2=.ref b)
 (hsn:t.led=true\/∀Q:Bool->YC,Q false s->YJ prog w A (searchCouldBeSeen x ((es.filter (·.1 == h)).toList.map (·.2))) Q E s)
 (he:e<10*SetTable.turns t.mask) (H:∀m,m<e->yx t (JE t m (t.probeStart h)).j) (r:¬yx t (JE t e (t.probeStart h)).j)
 (I:∀i (l:i<es.size),es[i].1=h->same es[i].2=true->Q (.there none) s)
 (v:(∀i (l:i<es.size),es[i].1=h->same es[i].2=false)->Q (.free (JE t e (t.probeStart h)).j false) s):
 ∀fuel c st,c<=e->e-c<fuel->st.getD (t.probeStart h)=JE t c (t.probeStart h) ->
  (∀m i l,m<c->t.slot (JE t m (t.probeStart h)).j=.live i->es[i].1=h->same es[i].2=false) ->
  YJ prog w A (setSearchFrom a x h true fuel st) Q E s
 | 0,c,st,hc,hf,_,_=>Zn hf (UQ _)
 |fuel+1,c,st,hc,hf,hst,hno=>by
  have hsz:t.place.size=es.size:=by have:=T.size;rwa [Uo] at this
  show wpAny _ _ (_ >>= _) _ _ _;refine Za (wpAny_setState_of O P T.fits ?_);dsimp only;have hg:t.gaveWay=false:=by unfold SetTable.gaveWay;rw[u];rfl
  rw[hg];simp only[UF,if_false];have live:∀m,m<e->∃i,t.slot (JE t m (t.probeStart h)).j=.live i/\i<es.size/\t.place.getD i 0=(JE t m (t.probeStart h)).j:=λm hm=>by
   obtain⟨i,h1,h2,h3⟩:=R7 T.up (H m hm);exact⟨i,h1,(),h3⟩
  have step:∀m,JE t m (JE t c (t.probeStart h))=JE t (c+m) (t.probeStart h):=λm=>(YV t c m _).symm;have F:∀g:Nat->Int,(∀i,g i=(es[i]?.map (·.1)).getD 0)->(∃m i,c<=m/\m<e/\t.slot (JE t m (t.probeStart h)).j=.live i/\g i=h/\t.probe g h (st.getD (t.probeStart h))=some (.candidate (JE t m (t.probeStart h)).j i (JE t (m+1) (t.probeStart h)))/\∀f j,c<=f->f<m->t.slot (JE t f (t.probeStart h)).j=.live j->g j≠h) \/
   (t.probe g h (st.getD (t.probeStart h))=some (.empty (JE t e (t.probeStart h)).j none)/\∀f j,c<=f->f<e->t.slot (JE t f (t.probeStart h)).j=.live j->g j≠h):=λg _=>by
   rw[hst];have sd:(JE t c (t.probeStart h)).dummy=none:=R4 rfl c;have ek:c+(e-c)=e:=()
   rcases Ho (t:=t) (hashAt:=g) (h:=h) (e-c) (10*SetTable.turns t.mask) (JE t c (t.probeStart h)) () sd () (by rw[step,ek];exact R6 T.nod r) with ⟨m,i,g1,g2,g3,g4,g5⟩|⟨g1,g2⟩
   .rw[step] at g2 g4;rw[step] at g4;refine .inl ⟨c+m,i,(),(),g2,g3,g4,λf j a1 a2 R=>g5 (f-c) j () (by rw[step,show c+(f-c)=f by lia];exact R)⟩
   .rw[step,ek] at g1;exact .inr ⟨g1,λf j a1 a2 R=>g2 (f-c) j () (by rw[step,show c+(f-c)=f by lia];exact R)⟩
  generalize B:t.probe _ h (st.getD (t.probeStart h))=met;have J:∀i l,es[i].1=h->∃m,m<e/\t.slot (JE t m (t.probeStart h)).j=.live i:=λi l C=>by
   obtain⟨n,S,n2⟩:=T.ways i ();rw[HB l,C] at S n2;refine⟨n,?_,by rw[S];exact Hr T.up () rfl⟩;rcases Vb n e with q|q|q
   .exact q
   .subst q;exact Zn ⟨i,(),S.symm⟩ r
   .exact Zn (n2 e q) r
  rcases F _ (λi=>rfl) with ⟨m,i,c1,U,X,c4,c5,c6⟩|⟨c1,U⟩
  .have Y:=B.symm.trans c5;subst Y;obtain⟨i2,k1,k2,k3⟩:=live m U;rw[X] at k1;cases k1;have C:es[i].1=h:=by rw[<- D3 k2];exact c4
   dsimp only;have rest:YJ prog w A (do
    let some (_,y):=es[i]? | unsupported "internal:set-entry"
    let p <- holding [y] (eqBool y x)
    let (es',_,t') <- setState a
    if true&&p then return SetFound.there none
    let some same:=t'.sameMemory t.moves t.mask|unsupported "set.changed-during-lookup:is-the-new-block-at-the-old-address"
    let G <- match (if same then t'.slot (JE t m (t.probeStart h)).j else .empty) with
     | .live j=>match es'[j]? with
      |some (_,y')=>do pure (if <- isSame y' y then some j else none)
      |none=>pure none
     |_=>pure none
    match G with
    |none=>rule "set.search.anew";setSearchFrom a x h true fuel none
    |some j=>if p then return .there (some j) else setSearchFrom a x h true fuel (some (JE t (m+1) (t.probeStart h)))) Q E s:=by
    rw[UA k2];dsimp only;refine Za (wpAny_holding (hq i k2 C _ ?_));refine Za (wpAny_setState_of O P T.fits ?_);dsimp only;cases hs:same es[i].2 with
    |true =>
     simp only[Bool.and_self,if_true];exact Zb (I i k2 C hs)
    |false =>
     simp only[Bool.and_false,UF,if_false];have Z:t.sameMemory t.moves t.mask=some true:=by unfold SetTable.sameMemory;rw[Zd (beq_self_eq_true _)]
     rw[Z];dsimp only;simp only[if_true];rw[X];dsimp only;rw[UA k2];dsimp only;obtain⟨b,hb⟩:=hr i k2;have his:∀{Q':Bool->YC},Q' true s->YJ prog w A (isSame es[i].2 es[i].2) Q' E s:=λ{Q'} hq'=>by
      rw[hb];unfold isSame;dsimp only;rw[Zd (beq_self_eq_true _)];exact Zb hq'
     refine Za (his ?_);simp only[if_true];refine Za (Zb ?_);dsimp only;refine HD O P T u hq hr hsn he H r I v fuel (m+1) _ () () rfl λf j K hm' N L=>?_;by_cases d1:f<c
     .exact hno f j K d1 N L
     .by_cases d2:f=m
      .subst d2;rw[X] at N;cases N;exact hs
      .exact Zn (by rw[D3 K];exact L) (c6 f j () () N)
   cases M:t.led with
   |true =>
    rw[Ze ()];exact rest
   |false =>
    rw[Zd ()];rcases hsn with z|hsn
    .rw[z] at M;cases M
    .refine Za (hsn _ ?_);rw[Ze ()];exact rest
  .have Y:=B.symm.trans c1;subst Y;dsimp only;refine Zb (v λi l C=>?_);obtain⟨m,m1,m2⟩:=J i l C;by_cases d1:m<c
   .exact hno m i l d1 m2 C
   .exact Zn (by rw[D3 l];exact C) (U m i () m1 m2)
def RV {a:Addr}{o:Obj}{es:Array (Int×Value)}{ep:Nat}{t:YD}{x:Value}{h:Int}{same:Value->Bool}{Q:SetFound->YC}
 (p:s.heap.get? a=some o) (q:o.data=.set es ep t) (T:TabOk t (es.map (·.1))) (c:t.mask % 2=1) (B:t.mask<=9000)
 (r:∀i (l:i<es.size),es[i].1=h->∀Q:Bool->YC,Q (same es[i].2) s->YJ prog w A (eqBool es[i].2 x) Q E s)
 (u:∀i (l:i<es.size),∃b,es[i].2=.ref b)
 (m:t.led=true\/∀Q:Bool->YC,Q false s->YJ prog w A (searchCouldBeSeen x ((es.filter (·.1 == h)).toList.map (·.2))) Q E s)
 (n:∀i (l:i<es.size),es[i].1=h->same es[i].2=true->Q (.there none) s)
 (f:(∀i (l:i<es.size),es[i].1=h->same es[i].2=false)->∀y,y<=t.mask->¬yx t y->vr t (yx t) h y->Q (.free y false) s):
 YJ prog w A (setSearch a x h true) Q E s:=have ⟨e,v,g,j⟩:=RA T h;HD p q T c r u m v g j n (λz=>f z _ (RU (RR t h) e) j ⟨e,rfl,g⟩) 100000 0 none (Ua _) (by grind[SetTable.turns]) rfl ()
open PySem
theorem HE:∀fuel a n,a<=SetTable.sizeAbove.go n fuel a
 | 0,a,n=>by simp_all [SetTable.sizeAbove.go]
 |fuel+1,a,n=>by
  unfold SetTable.sizeAbove.go
  split
  .exact Zh () (HE fuel (a*2) n)
  .exact Zf _
def RW (n):8<=SetTable.sizeAbove n:=HE 64 8 n
def RX {m k:Nat}(h:m+1=2 ^ k)(a:7<=m):m % 2=1:=by
 cases k with
 |zero=>lia
 |succ k=>lia
def RY {b:Yi}{n:Nat}(o:∀k,k<b.size->b.getD k 0<n)(p:∀k m,k<b.size->m<b.size->b.getD k 0=b.getD m 0->k=m)(q:∀i,i<n->∃k,k<b.size/\b.getD k 0=i):b.toList.Perm (List.range n):=by
 have r:b.toList.Nodup:=by
  unfold List.Nodup;rw[List.pairwise_iff_getElem];intro i j t u v e;have c:i<b.size:=by simpa using t
  have f:j<b.size:=by simpa using u
  have:=p i j c f (by rw[Kr c,Kr f];simpa using e);lia
 refine List.perm_iff_count.mpr λa=>?_;rw[r.count,List.nodup_range.count];have:a∈b.toList↔a∈List.range n:=by
  rw[List.mem_range];constructor
  .intro h;obtain⟨k,l,e⟩:=UB h;have g:k<b.size:=by simpa using l
   have:=o k g;rw[Kr g] at this;have e:b[k]=a:=by simpa using e
   lia
  .intro h;have ⟨k,l,e⟩:=q a h;rw[Kr l] at e;rw[<- e,VM];exact VN l
 simp only[this]
def RZ {α: Type}{es:Array α}{a:Yi}(d)(c:∀k,k<a.size->a.getD k 0<es.size):(a.filterMap (es[·]?))=a.map λi=>es.getD i d:=by
 apply Array.toList_inj.mp;rw[Array.toList_filterMap,Array.toList_map];have:∀l:Yj,(∀i∈l,i<es.size)->l.filterMap (es[·]?)=l.map λi=>es.getD i d:=by
  intro l
  induction l with
  |nil=>intro _;rfl
  |cons i l g =>
   simp_all
 refine this _ λi f=>?_;obtain⟨k,h,e⟩:=UB f;have b:k<a.size:=()
 have:=c k b
 simp_all
structure SetIs (hp:Heap)(a:Addr)(es:Array (Int×Value))(t:YD):Prop where
 at_:∃ep,hp.get? a=some { cls:=.type "set",dict:=none,data:=.set es ep t,slots:=#[] }
 tab:TabOk t (es.map (·.1))
 seven:7<=t.mask
 most:t.mask<=8*es.size+7
 room:es.size*5<t.mask*3
 refs:∀i (hi:i<es.size),∃b,es[i].2=.ref b
def SetIs.odd {hp:Heap}{a:Addr}{es:Array (Int×Value)}{t:YD}(S:SetIs hp a es t):t.mask % 2=1:=have ⟨k,b⟩:=S.tab.pow;RX b S.seven
variable {prog:Program}{w:World}{A:Around}{E:Ya}{s:Shared}
def HF {hp:Heap}{a:Addr}{es es':Array (Int×Value)}{ep:Nat}{t t':YD}(b:hp.get? a=some { cls:=.type "set",dict:=none,data:=.set es ep t,slots:=#[] }):
 (hp.update a (Obj.putSet es' t')).get? a=some { cls:=.type "set",dict:=none,data:=.set es' (ep+1) t',slots:=#[] }:=by
 have:=Heap.get?_update_self (Obj.putSet es' t') b (by rfl)
 rwa [(putSet_of es' t' rfl)] at this
def Sa {α β: Type}(f:α -> β)(xs)(p)(x):(SetTable.insertAt xs p x).map f=SetTable.insertAt (xs.map f) p (f x):=by
 unfold SetTable.insertAt;simp
def Sb {a:Addr}{es:Array (Int×Value)}{ep:Nat}{t:YD}{Q:Unit->YC}
 (m:s.heap.get? a=some { cls:=.type "set",dict:=none,data:=.set es ep t,slots:=#[] }) (T:TabOk t (es.map (·.1))) (U:1<=es.size) (X:es.size<=1000) (C:∀i (f:i<es.size),∃b,es[i].2=.ref b)
 (h:∀es' t',es'.toList.Perm es.toList->t'.led=t.led->t'.plain=t.plain->SetIs (s.heap.update a (Obj.putSet es' t')) a es' t'->Q Yt { s with heap:=s.heap.update a (Obj.putSet es' t') }):
 YJ prog w A (setRelay a (SetTable.grown es.size)) Q E s:=by
 have F:SetTable.grown es.size=es.size*4:=by unfold SetTable.grown;rw[Ze ()]
 have G:=RN (es.size*4);obtain⟨_,H⟩:=Hz (n:=es.size*4) ();have I:=RW (es.size*4);obtain⟨t',c,e,J,K,Y,r,l,L,u,M⟩:=RO (t:=t) (hs:=es.map (·.1)) (wanted:=es.size*4) (by rw[Uo];lia) ();rw[Uo] at r l u;rw[F];unfold setRelay;refine Za (wpAny_setState_of m rfl T.fits ?_);dsimp only;rw[Ze (by rw[sizeLine_eq];lia)];rw[e];have v:=RZ (es:=es) (0,Value.none) l;have g:(c.filterMap (es[·]?)).size=es.size:=by rw[v,Uo];exact r
 have o:(c.filterMap (es[·]?)).toList.Perm es.toList:=by
  rw[Array.toList_filterMap];exact((RY l L u).filterMap _).trans (by rw[filterMap_getElem?_range])
 have x:(c.filterMap (es[·]?)).map (·.1)=c.map λi=>(es.map (·.1)).getD i 0:=by
  rw[v,Array.map_map];apply Array.map_congr_left;intro i f;obtain⟨k,y,N⟩:=Array.getElem_of_mem f;have:=l k y;rw[Kr y,N] at this;show(es.getD i (0,Value.none)).1=_;rw[Kr this,HB this]
 have z:TabOk t' ((c.filterMap (es[·]?)).map (·.1)):=by rw[x];exact M
 have B:∀i (f:i<(c.filterMap (es[·]?)).size),∃b,(c.filterMap (es[·]?))[i].2=.ref b:=λi f=>by
  have O:(c.filterMap (es[·]?))[i]∈es.toList:=o.mem_iff.mp (by rw[VM];exact VN f);obtain⟨j,P,R⟩:=UB O;have p:j<es.size:=by simpa using P
  obtain⟨b,S⟩:=C j p;refine⟨b,?_⟩;rw[<- R];simpa using S
 have q:¬((c.filterMap (es[·]?)).size != es.size)=true:=by rw[g];simp
 refine Za (wpAny_of_eq (a:=(c.filterMap (es[·]?),t')) ?_ ?_)
 .show(if((c.filterMap (es[·]?)).size != es.size)=true then _ else _)=_;rw[Ze q]
 .dsimp only;generalize c.filterMap (es[·]?)=es' at g o z B x;exact wpAny_storeSet_of m rfl (h es' t' o J K ⟨⟨ep+1,HF m⟩,z,(),(),(),B⟩) (by rw[sizeLine_eq];lia)
def Sc {es es':Array (Int×Value)}(e:∀i (a:i<es.size),∃b,es[i].2=.ref b){x:Value}{h:Int}{b:Addr}(f:x=.ref b)(g:es'.toList.Perm (es.toList++[(h,x)])):∀i (a:i<es'.size),∃b,es'[i].2=.ref b:=λi a=>by
 rcases Jb.mp (g.mem_iff.mp (by rw[VM];exact VN a)) with z|z
 .obtain⟨j,l,m⟩:=UB z;have c:j<es.size:=by simpa using l
  obtain⟨b,n⟩:=e j c;refine⟨b,?_⟩;rw[<- m];simpa using n
 .rw[Jd.mp z];exact⟨b,f⟩
def Se {a:Addr}{es:Array (Int×Value)}{t:YD}{x:Value}{b:Addr}{h:Int}{same:Value->Bool}{Q:Bool->YC}
 (S:SetIs s.heap a es t) (O:x=.ref b) (hl:es.size+1<=1000)
 (T:∀i (C:i<es.size),es[i].1=h->∀Q:Bool->YC,Q (same es[i].2) s->YJ prog w A (eqBool es[i].2 x) Q E s)
 (H:t.led=true\/∀Q:Bool->YC,Q false s->YJ prog w A (searchCouldBeSeen x ((es.filter (·.1 == h)).toList.map (·.2))) Q E s)
 (U:∀Q:Bool->YC,Q true s->YJ prog w A (hashByValue 8 x) Q E s)
 (I:∀i (C:i<es.size),es[i].1=h->same es[i].2=true->Q false s)
 (l:(∀i (C:i<es.size),es[i].1=h->same es[i].2=false)->∀h' es' t',Heap.SameBut a s.heap h'->SetIs h' a es' t'->es'.toList.Perm (es.toList++[(h,x)])->t'.led=t.led->t'.plain=t.plain->Q true { s with heap:=h' }):
 YJ prog w A (setAddHashed a x h) Q E s:=by
 obtain⟨ep,o⟩:=S.at_;have J:t.mask<=9000:=by have:=S.most;lia
 unfold setAddHashed setAddHashedIn;refine wpAny_holding (Za (wpAny_setState_of o rfl S.tab.fits ?_));dsimp only;have X:byScan x es=false:=by subst O;rfl
 rw[X];simp only[UF,if_false];refine Za (RV o rfl S.tab S.odd J T S.refs H (λi C Y Z=>Zb (I i C Y Z)) λq y hy hf hw=>?_);dsimp only;refine Za (wpAny_setState_of o rfl S.tab.fits ?_);dsimp only;have hsz:t.place.size=es.size:=by have:=S.tab.size;rwa [Uo] at this
 have K:=S.room;have F:=S.seven;obtain⟨m,f,r⟩:=RB S.tab hy hf hw ();rw[Uo] at f;have g:(t.put y).1.led=t.led:=rfl;have j:(t.put y).1.plain=t.plain:=rfl;generalize P:t.put y=tp at m f r g j;obtain⟨e,p⟩:=tp;dsimp only at m f r g j ⊢;have em:(SetTable.insertAt es p (h,x)).map (·.1)=SetTable.insertAt (es.map (·.1)) p h:=Sa _ _ _ _;rw[<- em] at m;have G:(SetTable.insertAt es p (h,x)).toList.Perm (es.toList++[(h,x)]):=by
  have:=SetTable.insertAt_perm es p (h,x)
  rwa [Array.toList_push] at this
 have u:(SetTable.insertAt es p (h,x)).size=es.size+1:=Dz es f _;have n:=Sc S.refs O G;generalize SetTable.insertAt es p (h,x)=es1 at m G u n;have R:YJ prog w A (do
  storeSet a es1 e
  if !false&&e.tooFull then setRelay a (SetTable.grown (es.size+1))
  return true) Q E s:=by
  refine Za (wpAny_storeSet_of o rfl ?_ (by rw[sizeLine_eq];lia));have v:=HF (es':=es1) (t':=e) o;have B:=Heap.SameBut.update s.heap a (Obj.putSet es1 e);by_cases c:e.tooFull=true
  .rw[Zd (by rw[c];rfl)];rw[<- u];refine Za (Sb v m () () n λL t2 M l2 p2 S2=>(Zb (l q _ L t2 (B.trans (Heap.SameBut.update _ a _)) S2 (M.trans G) (l2.trans g) (p2.trans j))))
  .rw[Ze (by simpa using c)];have N:¬(e.fill*5 ≥ e.mask*3):=by
    intro z;exact c (Zp z)
   have hfl:e.fill=es1.size:=by
    unfold SetTable.fill;have:=m.size;rw[Uo] at this;rw[this,m.nod];rfl
   have S1:SetIs (s.heap.update a (Obj.putSet es1 e)) a es1 e:=⟨⟨ep+1,v⟩,m,(),by have:=S.most;lia,(),n⟩;exact Zb (l q _ es1 e B S1 G g j)
 grind[wpAny_bind,wpAny_pure]
open PySem
variable {prog:Program}{w:World}{A:Around}{E:Ya}{s:Shared}
inductive HashAll (prog:Program)(w:World)(A:Around)(E:Ya)(s:Shared):Yf->List Int->Prop
 |nil:HashAll prog w A E s [] []
 |cons {v:Value} {vs:Yf} {h:Int} {hs:Yh}:(∀(tk:Nat) (Q:Int->YC),(∀tk',tk<=tk'->Q h { s with toks:=tk' })->YJ prog w A (pyHash v) Q E { s with toks:=tk })->HashAll prog w A E s vs hs->HashAll prog w A E s (v::vs) (h::hs)
def D4 (hs:Yh):Int:=reduceHash (Builtin.Tuple.tupleHashOf hs)
def HG (g:s.heap.get? a=some o)(i:o.cls=.type "tuple")(j:o.data=.seq items n)(l:A.units<cLine)
 (H:HashAll prog w A.in1 E s items.toList hs) (h:∀tk,tk0<=tk->Q (D4 hs) { s with toks:=tk }):YJ prog w A (pyHash (.ref a)) Q E { s with toks:=tk0 }:=by
 have m:Shared.TypeIs { s with toks:=tk0 } (.ref a) "tuple" := ⟨o,g,i⟩;refine W.pyHash_slot m F.slot_tuple_hash F.entry_tuple_hash (F.args_tuple_hash_1 _) (beq_builtin_none _) (.inr l) ?_;show wpAny _ _ (Builtin.Tuple.tupleItemsOf (.ref a) >>= _) _ _ _;refine Za (wpAny_tupleItemsOf g j (Za ?_));rw[<- Vo];refine wpAny_forIn_list _ (λrest (b:Array Int) s'=>∃left tk,HashAll prog w A.in1 E s rest left/\b.toList++left=hs/\s'={ s with toks:=tk }/\tk0<=tk) _ ?_ ?_ _ _ ⟨hs,tk0,H,rfl,rfl,Zf _⟩
 .rintro x rest b s' ⟨left,tk,e,f,rfl,c⟩;cases e with
  |cons q p =>
   grind[wpAny_bind,wpAny_pure,Nat.le_trans]
 .rintro b s' ⟨left,tk,e,f,rfl,c⟩;cases e;rw[ZB] at f;show wpAny _ _ (retInt (Builtin.Tuple.tupleHashOf b.toList)) _ _ _;rw[f];exact Za (wpAny_mkInt (Zb ⟨_,_,rfl,h _ (Vk c)⟩))
theorem HH:∀{a:Yf} {ns:Yh},PyProof.Rows.IntsAre a ns->HashAll prog w A E s a (ns.map hashInt)
 |_,_,.nil=>.nil
 |_,_,.cons n t r=>.cons (λtk Q h=>wpAny_pyHash_int (h _ (Nat.le_succ tk))) (HH r)
inductive PlainV (hp:Heap):Nat->Value->Prop
 |int (n:Nat) (i:Int) (t:Tok):PlainV hp n (.int i t)
 |tup {n:Nat} {a:Addr} {o:Obj} {items:Yn} {k:Nat}:hp.get? a=some o->o.cls=.type "tuple" -> o.data=.seq items k->(∀v∈items.toList,PlainV hp n v)->PlainV hp (n+1) (.ref a)
def Sf (p:PlainV s.heap n v):∀d Q,n<=d->Q true s->YJ prog w A (hashByValue d v) Q E s:=by
 induction p with
 |int n i t =>
  intro d Q _ h;cases d<;>exact Zb h
 |tup a b c _ g =>
  intro d Q j h;cases d with
  |zero=>lia
  |succ d =>
   have e:Shared.TypeIs s (.ref _) "tuple" := ⟨_,a,b⟩;refine Za (wpAny_specialOf e F.slot_tuple_hash.lookup (Za (wpAny_seqItems a c (Za ?_))));rw[Option.getD_some,<- Vo];refine wpAny_forIn_list _ (λrest r s'=>r.1=none/\s'=s/\∀v∈rest,v∈_) _ ?_ ?_ _ _ ⟨rfl,rfl,λv f=>f⟩
   .grind[wpAny_bind,wpAny_pure]
   grind[wpAny_pure]
def HJ (p:PlainV s.heap n v):∀d Q,n<=d->Q true s->YJ prog w A (eqIsQuiet d v) Q E s:=by
 induction p with
 |int n i t =>
  intro d Q _ h;exact wpAny_of_eq (eqIsQuiet_byValue d rfl) h
 |tup a c e _ g =>
  intro d Q j h;cases d with
  |zero=>lia
  |succ d =>
   have b:Shared.TypeIs s (.ref _) "tuple" := ⟨_,a,c⟩;unfold eqIsQuiet;refine Za (wpAny_specialOf b F.slot_tuple_eq.lookup (Za (wpAny_isInstance b isSubtype_tuple_tuple (Za (wpAny_seqItems a e (Za ?_))))));rw[Option.getD_some,<- Vo];refine wpAny_forIn_list _ (λrest r s'=>r.1=none/\s'=s/\∀v∈rest,v∈_) _ ?_ ?_ _ _ ⟨rfl,rfl,λv f=>f⟩
   .grind[wpAny_bind,wpAny_pure]
   grind[wpAny_pure]
def HK (p:PlainV s.heap n v):∀d Q,n<=d->Q false s->YJ prog w A (ofAClassStatement d v) Q E s:=by
 induction p with
 |int n i t =>
  intro d Q _ h;cases d<;>exact Zb h
 |tup a b c _ g =>
  intro d Q j h;cases d with
  |zero=>lia
  |succ d =>
   have e:Shared.TypeIs s (.ref _) "tuple" := ⟨_,a,b⟩;unfold ofAClassStatement;refine Za (wpAny_typeOf e ?_);simp;refine Za (wpAny_seqItems a c (Za ?_));rw[<- Vo];refine wpAny_forIn_list _ (λrest r s'=>r.1=none/\s'=s/\∀v∈rest,v∈_) _ ?_ ?_ _ _ ⟨rfl,rfl,λv f=>f⟩
   .grind[wpAny_bind,wpAny_pure]
   grind[wpAny_pure]
def Sh (a:n<=8)(b:PlainV s.heap n x)(e:∀y∈ys,PlainV s.heap n y)(h:Q false s):YJ prog w A (searchCouldBeSeen x ys) Q E s:=by
 refine Za (wpAny_forIn_list _ (λrest r s'=>r.1=none/\s'=s/\∀v∈rest,v∈ys) _ ?_ ?_ _ _ ())
 .rintro y rest r s' ⟨g,rfl,f⟩;have c:=e y (f y Zqs);have nx:∀v∈rest,v∈ys:=by grind
  dsimp only
  split
  all_goals
   split
   .exact Zb ⟨rfl,rfl,nx⟩
   .exact Za (HJ b 8 _ a (Za (HJ c 8 _ a (Za (HK b 8 _ a (Za (HK c 8 _ a (Zb ⟨rfl,rfl,nx⟩))))))))
 grind[wpAny_pure]
structure KeyFam (prog:Program)(w:World)(hp:Heap)(PV:Value->Prop)(hsh:Value->Int)(same:Value->Value->Bool):Prop where
 ref:∀v,PV v->∃b,v=.ref b
 plain:∀v,PV v->PlainV hp 8 v
 hash:∀v,PV v->∀(A:Around) (E:Ya) (s:Shared) (Q:Int->YC),(∀b o,hp.get? b=some o->s.heap.get? b=some o)->A.units+8<cLine->(∀tk,s.toks<=tk->Q (hsh v) { s with toks:=tk })->YJ prog w A (pyHash v) Q E s
 eq:∀v u,PV v->PV u->∀(A:Around) (E:Ya) (s:Shared) (Q:Bool->YC),(∀b o,hp.get? b=some o->s.heap.get? b=some o)->A.units+8<cLine->Q (same v u) s->YJ prog w A (eqBool v u) Q E s
 coh:∀v u,PV v->PV u->same v u=true->hsh v=hsh u
def PlainV.keep (k:∀b o,hp.get? b=some o->hp'.get? b=some o)(p:PlainV hp n v):PlainV hp' n v:=by
 induction p with
 |int n i t=>exact .int n i t
 |tup a c e _ f=>exact .tup (k _ _ a) c e f
def Wv (same:Value->Value->Bool)(D:Yf)(v:Value):Yf:=if D.any (same · v) then D else D++[v]
def yh (same:Value->Value->Bool)(val:Nat->Value)(i:Nat):Yf:=((List.range i).map val).foldl (Wv same) []
theorem Bc (same)(val)(i):yh same val (i+1)=Wv same (yh same val i) (val i):=by
 grind[yh,List.range_succ,List.map_append,List.foldl_append]
theorem HM (same)(val):∀i,(yh same val i).length<=i
 | 0=>Zf _
 |i+1=>by
  have:=HM same val i
  grind[Wv,Bc,List.length_append,List.length_singleton]
theorem D5 (same)(val):∀i v,v∈yh same val i->∃j,j<i/\v=val j
 | 0,v,h=>by cases h
 |i+1,v,h=>by
  rw[Bc] at h;unfold Wv at h
  split at h
  .have ⟨j,a,e⟩:=D5 same val i v h;exact⟨j,(),e⟩
  .rcases Jb.mp h with z|z
   .have ⟨j,a,e⟩:=D5 same val i v z;exact⟨j,(),e⟩
   grind
def Holds (a:Value->Int)(hp:Heap)(S:Addr)(ld:Bool)(D:Yf):Prop:=∃es t,SetIs hp S es t/\es.toList.Perm (D.map λv=>(a v,v))/\t.led=ld/\t.plain=true
section
variable {prog:Program}{w:World}{A:Around}{E:Ya}{s:Shared}
def Si {hp:Heap}{u:Value->Prop}{a:Value->Int}{same:Value->Value->Bool}(K:KeyFam prog w hp u a same){S:Addr}{ld:Bool}{D:Yf}{x:Value}{Q:Bool->YC}
 (B:∀b o,hp.get? b=some o->s.heap.get? b=some o) (P:A.units+8<cLine) (H:Holds a s.heap S ld D) (C:∀v∈D,u v) (q:u x) (hl:D.length<=999)
 (h:∀h' b,Heap.SameBut S s.heap h'->Holds a h' S ld (Wv same D x)->Q b { s with heap:=h' }):YJ prog w A (setAddHashed S x (a x)) Q E s:=by
 obtain⟨es,t,J,j,l,m⟩:=H;obtain⟨b,R⟩:=K.ref x q;have L:es.size=D.length:=by
  have:=j.length_eq
  simp_all
 have f:∀i (c:i<es.size),es[i].2∈D/\es[i].1=a es[i].2:=λi c=>by
  have F:=j.mem_iff.mp (by rw[VM];exact VN c);obtain⟨v,g,e⟩:=Ja.mp F;rw[<- e];exact⟨g,rfl⟩
 have n:∀v∈D,∃i,∃c:i<es.size,es[i]=(a v,v):=λv g=>by
  have F:=j.mem_iff.mpr (Ja.mpr ⟨v,g,rfl⟩);obtain⟨i,c,e⟩:=UB F;exact⟨i,by simpa using c,by simpa using e⟩
 have M:=(K.plain x q).keep B;refine Se (same:=λy=>same y x) J R () (λi c _ r p=>K.eq _ _ (C _ (f i c).1) q A E s r B P p) (.inr λr p=>?_) (λr p=>Sf M 8 r (Zf _) p) (λi c h1 T=>?_) λG h' es' t' U X I Y Z=>?_
 .refine Sh (Zf 8) M (λy hy=>?_) p;obtain⟨e,N,rfl⟩:=Ja.mp hy;have N:e∈es:=by
   simp_all
  obtain⟨i,c,rfl⟩:=Array.getElem_of_mem N;exact(K.plain _ (C _ (f i c).1)).keep B
 .have e:Wv same D x=D:=Zd (U0.mpr ⟨_,(f i c).1,T⟩);have:=h s.heap false (Heap.SameBut.refl S s.heap) ⟨es,t,J,by rw[e];exact j,l,m⟩;exact this
 .have e:Wv same D x=D++[x]:=Ze λz=>by
   obtain⟨v,g,hs⟩:=U0.mp z;obtain⟨i,c,O⟩:=n v g;have:=G i c (by rw[O];exact K.coh v x (C v g) q hs);rw[O] at this;rw[hs] at this;cases this
  refine h h' true U ⟨es',t',X,?_,Y.trans l,Z.trans m⟩;rw[e,Uc];exact I.trans (j.append_right _)
end
section
variable {prog:Program}{w:World}{A:Around}{R:Result->YC}{I:Addr}{fp wr:Yl}{G:Array GenState->Array GenState->Prop}{n:Nat}{P:Nat->Value->Prop}{St:Nat->YC}
def Holds.keep {b:Value->Int}{hp hp':Heap}{S:Addr}{ld:Bool}{D:Yf}(H:Holds b hp S ld D)(k:∀o,hp.get? S=some o->hp'.get? S=some o):Holds b hp' S ld D:=by
 obtain⟨es,t,a,r⟩:=H;obtain⟨ep,c⟩:=a.at_;exact⟨es,t,⟨⟨ep,k _ c⟩,a.tab,a.seven,a.most,a.room,a.refs⟩,r⟩
def Sj (W:WalksS prog w A.in1 I fp wr G n P St)(S)(B:S∉fp)(p:∀b o,hp.get? b=some o->b∉wr/\b≠S)
 {C:Value->Prop} {f:Value->Int} {same:Value->Value->Bool} (K:KeyFam prog w hp C f same) (val) (q:∀i v,P i v->v=val i) (J:∀i,i<n->C (val i)) (hn:n<=999) (Q:A.in1.units+8<cLine) (ld):
 ∀k i s,n-i=k->i<=n->St i s->(∀b o,hp.get? b=some o->s.heap.get? b=some o)->Holds f s.heap S ld (yh same val i) ->
  (∀s',Moved (S::wr) G s s'->Holds f s'.heap S ld (yh same val n)->R (.ok (.ret .none)) s') ->
  codeAny (model prog w) A (.builtin "set.update.loop" ⟨[.ref S,.ref I],[]⟩) R s:=by
 have r:S∉wr:=λh=>B (W.sub _ h);have c:∀b∈wr,b∈S::wr:=by grind
 intro k
 induction k with
 |zero =>
  intro i s T Z g t H L;have M:i=n:=()
  subst M;refine codeAny_builtin F.entry_set_update_loop ?_;rw[Around.under_plainId F.plain_set_update_loop _];show wpAny _ A.in1 (pyNext (.ref I) >>= _) _ _ s;refine Za (W.done s _ _ g λs' m=>?_);show wpAny _ A.in1 (ret Value.none) _ _ s';exact Zb (L s' (m.mono c) (H.keep λo e=>m.heap S _ r e))
 |succ k ih =>
  intro i s T Z g t H L;have j:i<n:=()
  refine codeAny_builtin F.entry_set_update_loop ?_;rw[Around.under_plainId F.plain_set_update_loop _];show wpAny _ A.in1 (pyNext (.ref I) >>= _) _ _ s;refine Za (W.item i s _ _ j g λv s' hP x m=>?_);have U:=q i v hP;have H':=H.keep (hp':=s'.heap) λo e=>m.heap S _ r e;have a:∀b o,hp.get? b=some o->s'.heap.get? b=some o:=λb o e=>m.heap b o (p b o e).1 (t b o e);have X:C v:=by rw[U];exact J i j
  show wpAny _ A.in1 (holding [v] (setAdd S v) >>= _) _ _ s';refine Za (wpAny_holding ?_);unfold setAdd;refine wpAny_holding ?_;refine Za (K.hash v X _ _ _ _ a Q λtk y=>?_);have hl:=HM same val i;refine Si K a Q H' (λu hu'=>?_) X () λh' b l Y=>?_
  .grind[D5]
  .rw[U,<- Bc] at Y;refine Zb ⟨plainId_quiet F.plain_set_update_loop _,ih (i+1) _ (by rw[Nat.sub_succ,T];rfl) j (W.frame _ s' _ _ x ?_ λb hb o e=>?_) (λb o e=>?_) Y λN z O=>?_⟩
   .exact y
   .rw[l.2 b ()];exact e
   .rw[l.2 b (p b o e).2];exact a b o e
   .refine L N (Moved.trans W.gtrans ((m.mono c).then_heap ?_ λb o hb e=>?_) z) O
    .exact y
    .rw[l.2 b ()];exact e
end
def Sk (led:Bool):TabOk (SetTable.fresh 0 0 led) ((#[]:Array (Int×Value)).map (·.1)):=by
 refine⟨by rw[Uo];rfl,λi j _ h=>Zn h (UQ _),λi h=>Zn h (UQ _),rfl,⟨3,rfl⟩,Ua _,λi h=>Zn h (UQ _)⟩
def Sl (a:hp.get? S=some { cls:=.type "set",dict:=none,data:=.set #[] 0 (.fresh 0 0 led) }):Holds hsh hp S led []:=
 ⟨#[],.fresh 0 0 led,⟨⟨0,a⟩,Sk led,Zf _,Zf _,(show 0*5<7*3 by decide),λi h=>Zn h (UQ _)⟩,Vz _,rfl,rfl⟩
section
variable {prog:Program}{w:World}{A:Around}{E:Ya}{s:Shared}
def zb (w:World):Bool:=!w.params.followText "set-order"
def Sm (a:Value)
 (h:Q₁ (.ref s.heap.objs.size) { s with heap:=s.heap.push { cls:=.type "set",dict:=none,data:=.set #[] 0 (.fresh 0 0 (zb w)) } }):
 codeAny (model prog w) A (.call (.builtin "set.__new__") ⟨[.type "set",a],[]⟩) (wants Q₁ E) s:=by
 refine codeAny_of_tree ?_;show wpAny _ A.in1 (do checkBuiltinCall "set.__new__" ⟨[.type "set",a],[]⟩;again (.builtin "set.__new__" ⟨[.type "set",a],[]⟩)) _ _ s;refine Za (wpAny_of_eq (F.newCall_set_1 a) (Zb ⟨plainId_quiet F.plain_set_new _,codeAny_builtin F.entry_set_new ?_⟩));rw[Around.under_plainId F.plain_set_new _];unfold Builtin.«set.__new__» Builtin.Frozenset.newClass;have b:=sub_set_self;obtain⟨hp,g,d,tk,os⟩:=s;dsimp only
 wp_walk
 refine wpAny_askSetting (Zb ?_);dsimp only;simp only[newObj];refine Za (wpAny_alloc (Zb ?_));exact Zb h
set_option maxRecDepth 100000 in
set_option maxHeartbeats 3200000 in
def Sn {l:Addr}{a:Yn}{Y:Value->Prop}{m:Value->Int}{same:Value->Value->Bool}{Q:Ya}(hh:A.handled=none)(hl:s.heap.IsList l a)(K:KeyFam prog w s.heap Y m same)
 (I:∀(i:Nat) (v:Value),a[i]? = some v->Y v) (hn:a.size<=999) (hu:A.in1.in1.in1.units+8<cLine)
 (h:∀(h':Heap) (tk:Nat),Holds m h' s.heap.objs.size (zb w) (yh same (λi=>a.getD i .none) a.size)->(∀b o,b<s.heap.objs.size->s.heap.get? b=some o->h'.get? b=some o)->Q (.ref s.heap.objs.size) { s with heap:=h',toks:=tk }):
 YJ prog w A (call (.type "set") [.ref l]) Q E s:=by
 have Z:=λA:Around=>Sm (prog:=prog) (w:=w) (A:=A) (E:=E) (s:=s) (.ref l) (Q₁:=λq s₁=>q=.ref s.heap.objs.size/\s₁={ s with heap:=s.heap.push { cls:=.type "set",dict:=none,data:=.set #[] 0 (.fresh 0 0 (zb w)) } }) ⟨rfl,rfl⟩;generalize zb w=led at h Z;obtain⟨c,tl,hmro⟩:=F.called_set.mro;have J:=F.called_set.made;have hsub:=F.called_set.sub;refine wpAny_call (codeAny_of_tree ?_);show wpAny _ _ (callAny (.type "set") _) _ _ _;refine Zb ⟨Code.quiet_builtin _ (by decide +kernel),codeAny_builtin F.entry_type_call ?_⟩;rw[Around.under_plain (weight_type_call_type "set" [.ref l] []) rfl];have h1:=F.called_set.notType;have h2:=F.called_set.canCreate;have hct:=F.typeCall_set_1 (.ref l)
 repeat (any_goals (first|assumption|wp_step))
 refine codeAny_mono (Z _) λr s₁ n=>?_;cases r with
 |error e=>exact n
 |ok L =>
  cases L with
  |ret q =>
   obtain⟨rfl,rfl⟩:=n;generalize f:({ cls:=.type "set",dict:=none,data:=.set #[] 0 (.fresh 0 0 led) }:Obj)=no at *;have hS:(s.heap.push no).get? s.heap.objs.size=some no:=Zr _ (by rw[<- f];rfl);have hT:Shared.TypeIs { s with heap:=s.heap.push no } (.ref s.heap.objs.size) "set" := ⟨_,hS,by rw[<- f]⟩;have hli:=F.called_set.init.lookup;have hbi:=F.called_set.init.bind (.ref s.heap.objs.size)
   repeat (any_goals (first|assumption|wp_step))
   refine codeAny_mono (codeAny_call_builtin (R:=wants (λr s₂=>r=.none/\∃h' tk,s₂={ s with heap:=h',toks:=tk }/\Holds m h' s.heap.objs.size led (yh same (λi=>a.getD i .none) a.size) /\
    (∀b o,b<s.heap.objs.size->s.heap.get? b=some o->h'.get? b=some o)) E) F.called_set.init.plain F.entry_set_init (check_set_init_1 hT ?_)) λr₂ s₂ hr₂=>?_
   .obtain⟨ol,t,u,nl,x⟩:=hl;obtain⟨ocls,p,M,g⟩:=ol;simp only at u x;subst u;subst x;have y:(s.heap.push no).get? l=some { cls:=.type "list",dict:=p,data:=.seq a nl,slots:=g }:=Zq _ t;have hsls:=F.sub_list_set;have hslf:=F.sub_list_frozenset;have hne:(Value.type "list" == Value.type "dict")=false:=by decide
    have z:(s.heap.push no).IsList l a:=⟨_,y,rfl,nl,rfl⟩;subst f;unfold Builtin.«set.__init__» noKeywords Builtin.Frozenset.updateFrom;generalize N:pyIter=PI
    wp_walk
    subst N;refine wpAny_pyIter_list z ?_;refine Za (wpAny_runValue ?_);have B:l<s.heap.objs.size:=Zk t;have O:A.in1.in1.in1.handled=none:=by simp[hh]
    generalize f:({ cls:=.type "set",dict:=none,data:=.set #[] 0 (.fresh 0 0 led) }:Obj)=no at *;have j:(s.heap.push no).objs.size=s.heap.objs.size+1:=Heap.size_push ..;have C:l≠(s.heap.push no).objs.size:=by rw[j];exact Zi (UE B)
    have P:s.heap.objs.size ∉ [(s.heap.push no).objs.size,l]:=by
     simp only[Us,Uy,or_false,not_or];exact⟨by rw[j];exact Zi (UI _),U6 B⟩
    have hw:∀(i:Nat) (v:Value),a[i]? = some v->v=(λi=>a.getD i .none) i:=λi v hv=>by
     show v=a.getD i .none;rw[VW,hv];rfl
    refine Sj ((Walks.list O _ l C a).toS) s.heap.objs.size P (hp:=s.heap) (λb o e=>?_) K (λi=>a.getD i .none) hw (λi hi=>?_) hn (by exact hu) led (a.size-0) 0 _ () (Ua _)
     ⟨⟨_,Zr _ rfl,rfl,rfl⟩,(z.push _)⟩ (λb o e=>Zq _ (Zq _ e)) (Sl (by rw[f];exact Zq _ hS)) λs' H H'=>?_
    .have G:=Zk e;refine⟨?_,Zi G⟩;simp only[Us,Uy,or_false];rw[j];exact Zi (UE G)
    .exact I i _ (by show a[i]? = some (a.getD i .none);rw[Kr hi,UA hi])
    .obtain⟨h',g',d',S,T⟩:=s';have eg:g'=s.gens:=H.gens;have ed:d'=s.drawn:=H.drawn;have eo:T=s.os:=H.os;subst eg;subst ed;subst eo;show wpAny _ _ _ _ _ _;refine Zb ?_;show wpAny _ _ (ret Value.none) _ _ _;refine Zb ⟨rfl,h',S,rfl,H',λb o G e=>?_⟩;exact H.heap b o (by simp only[Us,Uy,or_false,not_or];exact⟨Zi G,by rw[j];exact Zi (UE G)⟩) (Zq _ (Zq _ e))
   .cases r₂ with
    |error e=>exact hr₂
    |ok fl₂ =>
     cases fl₂ with
     |ret r =>
      obtain⟨rfl,h',tk,rfl,U,X⟩:=hr₂
      repeat (any_goals (first|assumption|wp_step))
      exact h _ _ U X
     |_=>exact hr₂.elim
  |_=>exact n.elim
end
def KD (p:Int×Int):PyData:=.tuple [.int p.1,.int p.2]
def yY (r:Jy):PyData:=.tuple (r.map KD)
def HN (p:Int×Int):Int:=D4 ([p.1,p.2].map hashInt)
def HQ (r:Jy):Int:=D4 (r.map HN)
def IsPair (hp:Heap)(v:Value)(p:Int×Int):Prop:=∃a o b n t u,v=.ref a/\hp.get? a=some o/\o.cls=.type "tuple" /\ o.data=.seq b n/\b.toList=[.int p.1 t,.int p.2 u]
inductive IsPairs (hp:Heap):Yf->Jy->Prop
 |nil:IsPairs hp [] []
 |cons {v vs p r}:IsPair hp v p->IsPairs hp vs r->IsPairs hp (v::vs) (p::r)
def yV (hp:Heap)(v:Value)(r:Jy):Prop:=∃a o b n,v=.ref a/\hp.get? a=some o/\o.cls=.type "tuple" /\ o.data=.seq b n/\IsPairs hp b.toList r
def So (h:IsPair hp v p):Reads hp v (KD p) []:=by
 obtain⟨a,o,g,n,t,u,rfl,b,c,e,f⟩:=h;refine .tuple b c e ?_;rw[f];exact .cons (.int _ _) (.cons (.int _ _) .nil)
def Sq:∀{a:Yf} {r:Jy},IsPairs hp a r->ReadsAll hp a (r.map KD) []:=λh=>by
 induction h with
 |nil=>exact .nil
 |cons b _ c=>exact .cons (So b) c
def HR (h:yV hp v r):Reads hp v (yY r) []:=by
 obtain⟨a,o,g,n,rfl,b,c,e,f⟩:=h;exact .tuple b c e (Sq f)
def IsPair.keep (k:∀b o,hp.get? b=some o->hp'.get? b=some o)(h:IsPair hp v p):IsPair hp' v p:=by
 obtain⟨a,o,c,n,t,u,e,f,r⟩:=h;exact⟨a,o,c,n,t,u,e,k _ _ f,r⟩
theorem IsPairs.keep (k:∀b o,hp.get? b=some o->hp'.get? b=some o)(h:IsPairs hp vs r):IsPairs hp' vs r:=by
 induction h with
 |nil=>exact .nil
 |cons a _ c=>exact .cons (a.keep k) c
theorem yV.keep (k:∀b o,hp.get? b=some o->hp'.get? b=some o)(h:yV hp v r):yV hp' v r:=by
 obtain⟨a,o,c,n,e,f,g,i,j⟩:=h;exact⟨a,o,c,n,e,k _ _ f,g,i,j.keep k⟩
theorem Sr (h:IsPair hp v p)(n):PlainV hp (n+1) v:=by
 obtain⟨a,o,j,k,t,u,rfl,c,f,g,i⟩:=h;refine .tup c f g λx b=>?_;rw[i] at b;rcases Us.mp b with e|e
 .rw[e];exact .int _ _ _
 .rw[Jd.mp e];exact .int _ _ _
def Ss (h:yV hp v r)(n):PlainV hp (n+2) v:=by
 obtain⟨a,o,c,k,rfl,e,f,g,b⟩:=h;refine .tup e f g ?_;generalize c.toList=l at b
 induction b with
 |nil=>simp
 |cons i _ j =>
  grind[Sr]
section
variable {prog:Program}{w:World}{A:Around}{E:Ya}{s:Shared}
def Su (c:A.units<cLine):∀{b:Yf} {r:Jy},IsPairs s.heap b r->HashAll prog w A E s b (r.map HN):=λh=>by
 induction h with
 |nil=>exact .nil
 |cons e _ f =>
  refine .cons (λtk Q h=>?_) f;obtain⟨a,o,b,n,t,u,rfl,g,i,j,l⟩:=e;refine HG g i j c ?_ h;rw[l];exact HH (.cons _ _ (.cons _ _ .nil))
def Sv (c:yV s.heap v r)(e:A.units<cLine)(b:A.in1.units<cLine)(h:∀tk,s.toks<=tk->Q (HQ r) { s with toks:=tk }):YJ prog w A (pyHash v) Q E s:=by
 obtain⟨a,o,l,n,rfl,f,g,i,j⟩:=c;exact HG f g i e (Su b j) h
end
def Sw (p q):PyData.eqv (KD p) (KD q)=decide (p=q):=by
 grind[KD,PyData.eqv,PyData.eqvAll]
theorem HS:∀r q:Jy,PyData.eqvAll (r.map KD) (q.map KD)=decide (r=q)
 | [],[]=>by rfl
 | [],_::_=>by rfl
 |_::_,[]=>by rfl
 |p::r,q::s=>by
  rw[Zl,Zl];unfold PyData.eqvAll;rw[Sw,HS r s,Vf];simp
def Sx (r q):PyData.eqv (yY r) (yY q)=decide (r=q):=HS r q
theorem HU:∀r:Jy,PyData.canLayAll0 (r.map KD)=true
 | []=>rfl
 |p::r=>by
  rw[Zl];unfold PyData.canLayAll0;rw[HU r];rfl
def HV (r):(yY r).canLay0=true:=HU r
theorem HW:∀r:Jy,PyData.depthAll (r.map KD)<=1
 | []=>Ua _
 |p::r=>by
  rw[Zl];unfold PyData.depthAll;have a:(KD p).depth=1:=rfl;have b:=HW r;rw[a];lia
def Sy (r):(yY r).depth<=2:=Vy (HW r)
def IsPair.inj (h:IsPair hp v p)(h':IsPair hp v q):p=q:=by
 obtain⟨a,o,c,n,t,u,rfl,f,g,i,j⟩:=h;obtain⟨l,m,b,r,t',x,e,k1,k2,k3,y⟩:=h'
 grind
theorem IsPairs.inj:∀{a:Yf} {r q:Jy},IsPairs hp a r->IsPairs hp a q->r=q:=λ{a r q} g h=>by
 induction g generalizing q with
 |nil=>cases h;rfl
 |cons b _ c =>
  cases h with
  |cons k1 k2=>rw[b.inj k1,c k2]
theorem yV.inj (h:yV hp v r)(h':yV hp v q):r=q:=by
 obtain⟨a,o,j,n,rfl,b,l,c,f⟩:=h;obtain⟨m,p,g,t,e,k1,k2,k3,i⟩:=h';cases e;rw[b] at k1;obtain rfl:=Zqi k1;rw[c] at k3;cases k3;exact f.inj i
open Classical in
def yX (hp:Heap)(v:Value):Jy:=if h:∃r,yV hp v r then h.choose else[]
theorem Bd (h:yV hp v r):yX hp v=r:=by
 unfold yX;have e:∃r,yV hp v r:=⟨r,h⟩;rw[dif_pos e];exact e.choose_spec.inj h
def Sz (prog)(w)(hp):KeyFam prog w hp (λv=>∃r,yV hp v r) (λv=>HQ (yX hp v)) (λv u=>decide (yX hp v=yX hp u)) where
 ref:=by
  rintro v ⟨r,a,o,b,n,e,_⟩;exact⟨a,e⟩
 plain:=by
  rintro v ⟨r,h⟩;exact Ss h 6
 hash:=by
  rintro v ⟨r,h⟩ A E s Q hk hu hq;rw[Bd h] at hq;exact Sv (h.keep hk) () (show A.units+1<cLine from ()) hq
 eq:=by
  rintro v u ⟨r,h⟩ ⟨q,h'⟩ A E s Q hk hu hq;rw[Bd h,Bd h',<- Sx] at hq;have c:=Sy r;exact SeqAt.eqBoolOverData prog w A E s v u (yY r) (yY q) [] [] Q (HR (h.keep hk)) (HR (h'.keep hk)) (HV r) (HV q) () hq
 coh:=()
def vN:Slot "set_iterator" "__next__" "set_iterator.__next__" :=
 .of (owner:= "set_iterator") (n:= "__next__") (by kernel_rfl) (by rfl) (by rfl) (by rfl)
  (by first|exact .inl (by decide +kernel)|exact .inr (by decide +kernel)) (by kernel_rfl)
def HX:entryFor table "set_iterator.__next__" = some Builtin.«set_iterator.__next__»:=entryFor_of_tree (by rfl)
def HY:Manifest.owners.lookup (String.ofList ['r','o','t','a','r','e','t','i','_','t','e','s'].reverse)=some Manifest.sig_set_iterator:=by kernel_rfl
def HZ (a):argsOk "set_iterator.__next__" ⟨[a],[]⟩:=by
 unfold argsOk;rw[signature?_of (n:=['_','_','t','x','e','n','_','_']) (by kernel_rfl) HY];rfl
def S0:entryFor table "set.__iter__" = some Builtin.«frozenset.__iter__»:=entryFor_alias (id':= "frozenset.__iter__") (by kernel_rfl) rfl (by decide +kernel) (by kernel_rfl)
def Ia:Slot "set_iterator" "__iter__" "set_iterator.__iter__" :=
 .of (owner:= "set_iterator") (n:= "__iter__") (by rw[typeLookup_type,builtinLookup_eq_fast];kernel_rfl) (by decide +kernel) (by rfl) (by rfl)
  (by first|exact .inl (by decide +kernel)|exact .inr (by decide +kernel)) (by rw[isSubtype_type];kernel_rfl)
def S3:entryFor table "set_iterator.__iter__" = some Builtin.«dict_keyiterator.__iter__» :=
 entryFor_alias (id':= "dict_keyiterator.__iter__") (by kernel_rfl) (by rfl) (by decide +kernel) (by kernel_rfl)
def S4 (a):argsOk "set_iterator.__iter__" ⟨[a],[]⟩:=by
 unfold argsOk;rw[signature?_of (n:=['_','_','r','e','t','i','_','_']) (by kernel_rfl) HY];rfl
abbrev Ib (h:Heap)(it S:Addr)(slot i n ep:Nat):Prop:=h.get? it=some { cls:=.type "set_iterator",dict:=none,data:=.fields #[.int slot 0,.int i 0,.ref S,.int n 0,.int ep 0],slots:=#[] }
abbrev WY (es:Array (Int×Value))(ep:Nat)(t:YD):Obj:={ cls:=.type "set",dict:=none,data:=.set es ep t,slots:=#[] }
def Ki (w:World)(S ep:Nat)(es:Array (Int×Value)):Array (Int×Value):=if w.params.followText "set-order" then pickOrder (w.params.setOrder S ep) es else es
theorem Ic {α: Type}(next):∀fuel k (left:List α) a,left.length<=fuel->(pickOrder.go next fuel k left a).toList.Perm (a.toList++left)
 | 0,k,left,a,h=>by
  simp_all [pickOrder.go]
 |fuel+1,k,left,a,h=>by
  unfold pickOrder.go;cases q:left[next k % left.length]? with
  |none =>
   have b:left.length=0:=by
    grind[Nat.eq_zero_or_pos,Nat.mod_lt,Zqg]
   simp_all
  |some x =>
   have b:=List.length_eraseIdx_of_lt ((Jc.mp q).1);refine(Ic next fuel (k+1) _ _ ()).trans ?_;rw[Array.toList_push,Uh];refine List.Perm.append_left _ ?_;have c:left=left.take (next k % left.length)++x::left.drop (next k % left.length+1):=by
    grind[List.take_append_drop,List.drop_eq_getElem_cons]
   rw[List.eraseIdx_eq_take_drop_succ];exact Vx ((List.perm_middle (l₁:=left.take (next k % left.length))).symm) (List.Perm.of_eq c.symm)
theorem S5 {α: Type}(next)(es:Array α):(pickOrder next es).toList.Perm es.toList:=by
 grind[pickOrder,Ic]
def Ie (w)(S ep)(es):(Ki w S ep es).toList.Perm es.toList:=by
 grind[Ki,S5,List.Perm.refl]
def D6 (w)(S ep)(es):(Ki w S ep es).size=es.size:=by
 have:=(Ie w S ep es).length_eq;omega
def S6 (u:zZ xs)(hi):SetTable.below xs (xs[i]+1)=i+1:=by
 obtain⟨f,c,g⟩:=Ba u (xs[i]+1);have e:=Kr hi 0;rcases Vb (SetTable.below xs (xs[i]+1)) (i+1) with q|q|q
 .grind
 .exact q
 .have a:=c (i+1) q;have b:=u i (i+1) () ();lia
def S7 (xs)(u:zZ xs):SetTable.below xs 0=0:=by
 obtain⟨b,a,c⟩:=Ba u 0;rcases Vm (SetTable.below xs 0) with q|q
 .exact q
 .have:=a 0 q;lia
section
variable {prog:Program}{w:World}{A:Around}{E:Ya}{s:Shared}
def S8 (a:s.heap.get? S=some (WY es ep t))(c:t.fits es.size=true)(hp:t.plain=true)
 (g:Q (.ref s.heap.objs.size) { s with heap:=s.heap.push { cls:=.type "set_iterator",data:=.fields #[.int 0 0,.int 0 0,.ref S,.int es.size 0,.int ep 0] } }):YJ prog w A (pyIter (.ref S)) Q E s:=by
 have f:s.TypeIs (.ref S) "set" := ⟨_,a,rfl⟩;refine wpAny_pyIter_slot f F.slot_set_iter (wpAny_call_entry F.slot_set_iter f S0 ?_ (F.args_set_iter_1 _));unfold Builtin.«frozenset.__iter__» Builtin.Frozenset.slot0 slotArgs;simp only[bind_assoc];refine Za (Zb (Za (Zb (Za (Za (wpAny_setEntries_of a rfl c (Zb ?_)))))));have h:wpAny (model prog w) A.in1 (setDrawn S) (λb s'=>b=false/\s'=s) E s:=by
  refine Za (wpAny_setState_of a rfl c (Za (Za (wpAny_askSetting (Zb (Zb ⟨?_,rfl⟩))))));obtain⟨mask,place,dummies,finger,led,moves,plain⟩:=t;cases hp;exact Bool.and_false _
 refine Za (Zc h (λb s' z=>?_) λ_ _ e=>e);obtain⟨rfl,rfl⟩:=z;refine Za (Zb (Za (Za (wpAny_setState_of a rfl c (Zb (Za (wpAny_newObj_type (Zb ⟨_,rfl, "set_iterator",_,⟨_,Zr _ rfl,rfl⟩,vN.lookup,g⟩) (by simp_all [sizeOk,sizeLine_eq]))))))))
def Ig (f:s.heap.get? S=some (WY es ep t))(g:t.fits es.size=true)(hp:t.plain=true)(b:t.led=zb w)(l:zZ t.place)(hz:t.place.size=es.size)
 (m:w.params.followText "set-order" = false->SetTable.below t.place slot=i)
 (c:∀a,(w.params.followText "set-order" = false->i<es.size->SetTable.below t.place a=i+1)->Q (((Ki w S ep es)[i]?).map λe=>(e.2,a)) s):YJ prog w A (setNext S slot i ep) Q E s:=by
 refine Za (wpAny_setState_of f rfl g ?_);refine Za (Za (wpAny_askSetting (Zb ?_)));cases q:w.params.followText "set-order" with
 |true =>
  have e:({ program:=(model prog w).prog,params:=(model prog w).w.params }:Setting).params.followText "set-order" = true:=q;rw[Zd e];rw[Ze ()];refine Za (Za (wpAny_setState_of f rfl g ?_));refine Za (Za (wpAny_askSetting (Zb ?_)));rw[Zd e];refine Za (wpAny_askSetting (Zb (Zb ?_)));have:=c slot λz=>by rw[q] at z;cases z
  unfold Ki at this
  rwa [Zd q] at this
 |false =>
  have e:¬({ program:=(model prog w).prog,params:=(model prog w).w.params }:Setting).params.followText "set-order" = true:=by
   show ¬w.params.followText "set-order" = true;rw[q];simp
  rw[Ze e];have n:Ki w S ep es=es:=by unfold Ki;rw[q];rfl
  rw[n] at c;rw[(m q)];have b:t.led=true:=by rw[b];unfold zb;rw[q];rfl
  obtain⟨mask,place,dummies,finger,led,moves,plain⟩:=t;cases hp;cases b
  split
  .rename_i z;exact Zn z Zj
  .refine Za (Zb (Zb ?_));by_cases h:i<es.size
   .have j:i<place.size:=by rwa [hz]
    have:=c (place[i]+1) λ_ _=>S6 l j;rw[UA h] at this
    rwa [UA h,UA j]
   grind[Array.getElem?_eq_none]
abbrev YW (w:World)(it S:Addr)(es:Array (Int×Value))(ep:Nat)(t:YD)(i:Nat)(h:Heap):Prop:=(∃slot,Ib h it S slot i es.size ep/\(w.params.followText "set-order" = false->i<=es.size->SetTable.below t.place slot=i))/\h.get? S=some (WY es ep t)
structure SetGood (w:World)(es:Array (Int×Value))(t:YD):Prop where
 fits:t.fits es.size=true
 plain:t.plain=true
 led:t.led=zb w
 up:zZ t.place
 size:t.place.size=es.size
def S9 (G:SetGood w es t)(st:YW w it S es ep t i s.heap)(n:i<es.size)
 (o:∀h' x,(∃k,(Ki w S ep es)[i]? = some (k,x))->YW w it S es ep t (i+1) h'->Heap.SameBut it s.heap h'->Q (some x) { s with heap:=h' }):YJ prog w A (pyNext (.ref it)) Q E s:=by
 obtain⟨⟨l,a,f⟩,g⟩:=st;have m:s.TypeIs (.ref it) "set_iterator" := ⟨_,a,rfl⟩;have e:S≠it:=by grind
 unfold pyNext;refine Za (wpAny_attempt (wpAny_callSpecial?_slot m vN
  (wpAny_call_entry vN m HX ?_ (HZ _))))
 unfold Builtin.«set_iterator.__next__» slotArgs;simp only[UF,bind_assoc];refine Za (Zb ?_);refine Za (wpAny_fieldsOf a rfl (Za (wpAny_setEntries_of g rfl G.fits ?_)));simp;refine Za (Ig g G.fits G.plain G.led G.up G.size () λc hs=>?_);have p:i<(Ki w S ep es).size:=by rwa [D6]
 rw[UA p];refine Za (wpAny_setField_rec a () λh₁ he₁ hs₁=>(Za (wpAny_setField_rec he₁ () λh₂ he₂ hs₂=>?_)));refine Zb ⟨_,rfl,Zb (o h₂ _ () ⟨⟨c,?_,λz _=>hs z n⟩,hs₂.extBut _ _ e (hs₁.extBut _ _ e g)⟩ ⟨hs₂.1.trans hs₁.1,λb f=>(hs₂.2 b f).trans (hs₁.2 b f)⟩)⟩;unfold Ib;simpa [rawInt] using he₂
def SA (g:A.handled=none)(G:SetGood w es t)(st:YW w it S es ep t i s.heap)(j:i=es.size)
 (h:∀h',Heap.ExtBut it s.heap h'->Q none { s with heap:=h' }):YJ prog w A (pyNext (.ref it)) Q E s:=by
 obtain⟨⟨c,a,l⟩,e⟩:=st;have f:s.TypeIs (.ref it) "set_iterator" := ⟨_,a,rfl⟩;unfold pyNext;refine Za (wpAny_attempt (wpAny_callSpecial?_slot (name:=Str.ofString "__next__") f vN
  (wpAny_call_entry vN f HX ?_ (HZ _))))
 unfold Builtin.«set_iterator.__next__» slotArgs;simp only[List.isEmpty_nil,Bool.not_true,UF,↓reduceIte,ZD];refine Za (Zb ?_);refine Za (wpAny_fieldsOf a rfl ?_);dsimp only;refine Za (wpAny_setEntries_of e rfl G.fits ?_);simp[Int.toNat_natCast];refine Za (Ig e G.fits G.plain G.led G.up G.size () λb hs=>?_);rw[VU (by rw[D6];lia)];refine Za (wpAny_setField a rfl () (Za ?_));refine Za (wpAny_newObj_type (Za (wpAny_of_eq (by first|rfl|(simp only)) ?_)) (by size_fits));refine wpAny_newObj_type (Za (wpAny_handled ?_)) (by size_fits);rw[g];refine Za (Zb (wpAny_throw ?_));exact Za (wpAny_isInstance ⟨_,Zr _ rfl,rfl⟩ isSubtype_stop (Zb (h _ (((Heap.SameBut.update ..).extBut.push _).push _))))
end
def SC (n:A.handled=none)(G:SetGood w es t):WalksS prog w A it [it,S] [it] (λg p=>p=g) es.size (λi v=>∃k,(Ki w S ep es)[i]? = some (k,v)) (λi s=>YW w it S es ep t i s.heap):=
 (show Walks prog w A it [it,S] [it] es.size (λi v=>∃k,(Ki w S ep es)[i]? = some (k,v)) (λi h=>YW w it S es ep t i h) from {
  sub:=by simp
  frame:=by grind
  item:=λi s Q E q st a=>S9 G st q λh' x r c u=>a x h' s.toks r c λb o l e=>u.extBut b o () e
  done:=λs Q E st a=>SA n G st rfl λh' y=>a h' s.toks λb o l e=>y b o () e
  self:=λi s Q E st a=>have ⟨⟨m,f,l⟩,z⟩:=st;have j:=⟨_,f,rfl⟩;wpAny_pyIter_slot j Ia (wpAny_call_entry Ia j S3 (Zb ⟨_,rfl, "set_iterator",_,j,vN.lookup,a⟩) (S4 _)) }).toS
def SE:typeLookup (.type "set") "__len__" = pure (some (.builtin "set.__len__")):=by rw[typeLookup_type,builtinLookup_eq_fast];kernel_rfl
section
variable {prog:Program}{w:World}{A:Around}{E:Ya}{s:Shared}
def SF (a:s.TypeIs (.ref r) "set")(h:Q false s):YJ prog w A (Builtin.List.listLengthHint (.ref r)) Q E s:=by
 refine Za (wpAny_specialOf a SE ?_);generalize c:("set.__len__" : String)=id0;subst c;exact Za (wpAny_isInstance (b:=true) a (by rw[isSubtype_type];kernel_rfl) (wpAny_ite_split (λe=>Zn e (by decide)) (λ_=>(Za (wpAny_typeOf a (Zb h))))))
def SG (Z:A.handled=none)(i:s.heap.get? S=some (WY es ep t))(G:SetGood w es t)(hn:es.size<=1000)
 (h:∀(h':Heap) (tk:Nat) (U:Yf),(∀b o,s.heap.get? b=some o->h'.get? b=some o)->U.Perm (es.toList.map (·.2))->s.heap.objs.size<h'.objs.size->R U { s with heap:=h',toks:=tk }):YJ prog w A (collect (.ref S)) R E s:=by
 have C:S<s.heap.objs.size:=Zk i;have X:s.TypeIs (.ref S) "set" := ⟨_,i,rfl⟩;unfold collect;refine Za (wpAny_runValue (codeAny_builtin F.entry_proto_collect ?_));rw[Around.under_plainId F.plain_proto_collect _];show wpAny _ A.in1 (newList [] >>= λl=>again (.builtin "list.__iadd__" ⟨[l,.ref S],[]⟩)) _ _ s;refine Za (wpAny_newObj_type ?_);refine Zb ⟨plainId_quiet F.plain_list_iadd _,codeAny_builtin F.entry_list_iadd ?_⟩;rw[Around.under_plainId F.plain_list_iadd _];generalize n:({ cls:=.type "list",data:=.seq ([]:Yf).toArray }:Obj)=no;have hL₁:(s.heap.push no).get? s.heap.objs.size=some no:=Zr _ (by rw[<- n];rfl);have ho₁:(s.heap.push no).get? S=some (WY es ep t):=Zq _ i;have hT₁:Shared.TypeIs { s with heap:=s.heap.push no } (.ref S) "set" := ⟨_,ho₁,rfl⟩;have p:S≠s.heap.objs.size:=Zi C;show wpAny _ A.in1 (Builtin.List.listExtendWith (.ref s.heap.objs.size) (.ref S) (.ref s.heap.objs.size)) _ _ _;unfold Builtin.List.listExtendWith;refine Za (wpAny_typeOf hT₁ ?_);have h1:Builtin.List.listSameRef (.ref s.heap.objs.size) (.ref S)=false:=by simp[Builtin.List.listSameRef,Ne.symm p]
 have h2:(Value.type "set" == Value.type "list")=false:=by decide
 have h3:(Value.type "set" == Value.type "tuple")=false:=by decide
 simp only[h1,h2,h3,Bool.or_false,UF,if_false];refine Za (S8 (s:={ s with heap:=s.heap.push no }) ho₁ G.fits G.plain ?_);have J:(s.heap.push no).objs.size=s.heap.objs.size+1:=Heap.size_push ..;generalize K:(s.heap.push no).objs.size=I at *;generalize q:({ cls:=.type "set_iterator",data:=.fields #[.int 0 0,.int 0 0,.ref S,.int es.size 0,.int ep 0] }:Obj)=ni;have hS₂:=Zq ni ho₁;have hL₂:=Zq ni hL₁;have hI₂:((s.heap.push no).push ni).get? I=some ni:=by rw[<- K];exact Zr _ (by rw[<- q];rfl)
 refine Za (wpAny_holding (SF ⟨_,hS₂,rfl⟩ ?_));have L:I≠s.heap.objs.size:=()
 have r:∀M,(∀h' tk c a,(∀b o,s.heap.get? b=some o->h'.get? b=some o)->h'.get? s.heap.objs.size=some { cls:=.type "list",dict:=none,data:=.seq a c,slots:=#[] }->a.toList.Perm (es.toList.map (·.2))->M (.ok (.ret (.ref s.heap.objs.size))) { s with heap:=h',toks:=tk }) ->
  ∀h c₁ tk,(∀b o,b≠s.heap.objs.size->((s.heap.push no).push ni).get? b=some o->h.get? b=some o)->h.get? s.heap.objs.size=some { cls:=.type "list",dict:=none,data:=.seq #[] c₁,slots:=#[] } ->
  codeAny (model prog w) A (.builtin "list.extend.loop" ⟨[.ref s.heap.objs.size,.ref I,.ref s.heap.objs.size],[]⟩) M { s with heap:=h,toks:=tk }:=by
  intro M hR h₀ c₁ tk u f;have N:s.heap.objs.size ∉ [I,S]:=by
   simp only[Us,Uy,or_false,not_or];exact()
  have v:h₀.get? I=some ni:=u I _ L hI₂;rw[<- q] at v;refine codeAny_extend_loopS (SC (prog:=prog) (w:=w) (A:=A.in1) (it:=I) (S:=S) (ep:=ep) Z G) (Zh hn (by rw[sizeLine_eq];lia)) s.heap.objs.size N _ es.size 0 { s with heap:=h₀,toks:=tk } #[] c₁ rfl (Ua _)
   ⟨⟨0,v,λ_ _=>S7 _ G.up⟩,u S _ p hS₂⟩ f (ItemsOf.nil _) λs' a c H O g=>?_
  obtain⟨h',g',d',P,Q⟩:=s';have eg:g'=s.gens:=H.gens;have ed:d'=s.drawn:=H.drawn;have eo:Q=s.os:=H.os;subst eg;subst ed;subst eo;refine hR h' P c a (λb o e=>?_) O ?_
  .have x:=Zk e;have y:b≠s.heap.objs.size:=Zi x;have T:b≠I:=Zi (Zg x (by rw[J];exact Nat.le_succ _));exact H.heap b o (by simp only[Us,Uy,or_false,not_or];exact⟨y,T⟩) (u b o y (Zq _ (Zq _ e)))
  .have el:a.toList=(Ki w S ep es).toList.map (·.2):=by
    apply List.ext_getElem?;intro j;rw[Zv];by_cases Y:j<a.size
    .obtain⟨k,u⟩:=g.2 j a[j] (UA Y);have:(Ki w S ep es).toList[j]? = some (k,a[j]):=by simpa using u
     rw[this];simp[Y]
    .have hw:(Ki w S ep es).toList[j]? = none:=VC (by rw[Ui,D6,<- g.1];lia);rw[hw];exact VC (by rw[Ui];lia)
   rw[el];exact(Ie w S ep es).map _
 have z:∀h' tk c (a:Yn),(∀b o,s.heap.get? b=some o->h'.get? b=some o)->h'.get? s.heap.objs.size=some { cls:=.type "list",dict:=none,data:=.seq a c,slots:=#[] }->a.toList.Perm (es.toList.map (·.2)) ->
  YJ prog w A (do
   let o <- load s.heap.objs.size
   match o.data with
    | .seq xs _=>pure xs.toList
    |_=>unsupported "internal:collect") R E { s with heap:=h',toks:=tk }:=λh' tk c a B m hp=>by
  refine Za (wpAny_load m ?_);exact Zb (h h' tk a.toList B hp (Zk m))
 have hL₂':((s.heap.push no).push ni).get? s.heap.objs.size=some { cls:=.type "list",dict:=none,data:=.seq #[] 0,slots:=#[] }:=by rw[hL₂,<- n]
 refine wpAny_ite_split (λ_=>?_) (λ_=>Zb ⟨plainId_quiet F.plain_extend_loop _,r _ (λh' tk c a B m hp=>z h' tk c a B m hp) _ 0 _ (λb o _ e=>e) hL₂'⟩);refine Za (wpAny_rule ?_);refine Za ?_;show wpAny _ _ (updateSeq s.heap.objs.size (·.push .none) >>= λ_=>updateSeq s.heap.objs.size (·.pop)) _ _ _;refine Za (wpAny_updateSeq hL₂' rfl ?_);have hL₃:=Heap.get?_update_self (Obj.mapSeq (·.push Value.none)) hL₂' rfl;refine wpAny_updateSeq (hz:=by seq_fits) hL₃ rfl ?_;have hL₄:=Heap.get?_update_self (Obj.mapSeq (·.pop)) hL₃ rfl;refine Zb ⟨plainId_quiet F.plain_extend_loop _,r _ (λh' tk c a B m hp=>z h' tk c a B m hp) _ _ _ (λb o x e=>?_) hL₄⟩;exact(Heap.get?_update_other _ _ (Ne.symm x)).trans ((Heap.get?_update_other _ _ (Ne.symm x)).trans e)
end
theorem Ih:∀{a:Yf} {r:Jy},WJ h a r->IsPairs h a r
 | [],[],_=>.nil
 | [],_::_,p=>by have:=p.1;simp at this
 |_::_,[],p=>by have:=p.1;simp at this
 |u::a,q::r,p=>by
  obtain⟨b,c,nb,t,v,e,f,g,j⟩:=p.2 0 q rfl;obtain rfl:=Zqi e;refine .cons ⟨b,c,_,nb,t,v,rfl,f,g,j,rfl⟩ (Ih ⟨by have:=p.1;simpa using this,λi x l=>p.2 (i+1) x l⟩)
def SH (R:RowAt h v r a o us n):yV h v r:=
 ⟨a,o,us.toArray,n,R.isv,R.get,R.cls,R.dat,Ih R.prs⟩
def jS (rs:Jz):Nat->List Nat
 | 0=>[]
 |n+1=>if(jS rs n).any (λi=>decide (rs.getD i []=rs.getD n [])) then jS rs n else jS rs n++[n]
def SI (rs)(n):jS rs (n+1)=if(jS rs n).any (λi=>decide (rs.getD i []=rs.getD n [])) then jS rs n else jS rs n++[n]:=rfl
def qO (rs:Jz):Jz:=(jS rs rs.length).map λi=>rs.getD i []
theorem X3 (rs):∀n i,i∈jS rs n->i<n
 | 0,i,h=>by cases h
 |n+1,i,h=>by
  unfold jS at h
  split at h
  .have:=X3 rs n i h;lia
  .rcases Jb.mp h with q|q
   .have:=X3 rs n i q;lia
   simp_all
theorem D7 (rs):∀n,(jS rs n).length<=n
 | 0=>Zf _
 |n+1=>by
  have:=D7 rs n
  grind[jS,List.length_append,List.length_singleton]
theorem Ii (rs):∀n,((jS rs n).map λi=>rs.getD i []).Nodup
 | 0=>VB
 |n+1=>by
  have a:=Ii rs n;unfold jS
  grind
theorem Ij (rs):∀n r,r∈((jS rs n).map λi=>rs.getD i [])↔∃i,i<n/\rs.getD i []=r
 | 0,r=>by
  constructor
  .intro h;cases h
  lia
 |n+1,r=>by
  have a:=Ij rs n;unfold jS
  grind
def Ik (rs):(qO rs).Nodup:=Ii rs _
def Il (rs):(qO rs).length<=rs.length:=by unfold qO;rw[Zql];exact D7 rs _
theorem mf:r∈qO rs↔r∈rs:=by
 unfold qO;rw[Ij];constructor
 .grind
 .intro h;obtain⟨i,a,z⟩:=UB h;exact⟨i,a,()⟩
theorem Im {same:Value->Value->Bool}{val:Nat->Value}{rs:Jz}{n:Nat}(h:∀i j,i<n->j<n->same (val i) (val j)=decide (rs.getD i []=rs.getD j [])):∀k,k<=n->yh same val k=(jS rs k).map val
 | 0,_=>rfl
 |k+1,hk=>by
  rw[Bc,Im h k (),SI];unfold Wv;have e:((jS rs k).map val).any (same · (val k))=(jS rs k).any (λi=>decide (rs.getD i []=rs.getD k [])):=by
   rw[List.any_map,Vf,U0,U0];constructor
   .rintro⟨i,a,z⟩;exact⟨i,a,by rwa [<- h i k (by have:=X3 rs k i a;lia) ()]⟩
   .rintro⟨i,a,z⟩;exact⟨i,a,by show same (val i) (val k)=true;rwa [h i k (by have:=X3 rs k i a;lia) ()]⟩
  grind
theorem Be {G:Hp}{rs:Jz}{ys:YE}(h:qh G (rs.map rD) ys):∀ix:Yj,(∀i∈ix,i<rs.length)->qh G ((ix.map λi=>rs.getD i []).map rD) (ix.map λi=>ys.getD i .non)
 | [],_=>by rfl
 |i::ix,hi=>by
  have ⟨x,a,b⟩:=h.get (i:=i) (d:=rD (rs.getD i [])) ();rw[Zl,Zl,Zl];refine⟨x,_,?_,b,Be h ix ()⟩;rw[Qf a]
def zz (w:World)(S:Addr)(ys:YE):HO:=.ext λh=>∃es ep t a,h.get? S=some (WY es ep t)/\SetGood w es t/\es.size<=1000/\(es.toList.map (·.2)).Perm a/\js ys a
def Io (w:World):YE->Hp->VK->Prop:=λb H Q=>∃a ys rs,b=[.ref a]/\Rd H a (.lst ys)/\qh H (rs.map rD) ys/\rs.length<=999/\∀S,H S=none->Q (.ref S) (upd H S (zz w S ((jS rs rs.length).map λi=>ys.getD i .non)))
def Ip (w:World):YE->Hp->VK->Prop:=λb H Q=>∃S ys rs,b=[.ref S]/\H S=some (zz w S ys)/\qh H (rs.map rD) ys/\(∀r∈rs,r ≠ [])/\rs.length<1000 /\
 ∀l a,H l=none->(∀G,qh G (rs.map rD) ys->qh G ((JL j3 rs).map rD) a)->Q (.ref l) (upd H l (.lst a))
def SJ (p:us.Perm vs):∀{f:YE} {rs:Jz},js f us->f.length=rs.length->∃(a:YE) (b:Jz),js a vs/\b.Perm rs/\a.length=b.length/\∀G,qh G (rs.map rD) f->qh G (b.map rD) a:=by
 induction p with
 |nil=>exact λ{f rs} h c=>⟨f,rs,h,.refl _,c,λ_ h=>h⟩
 |cons x _ C =>
  intro f rs h c;cases h with
  |cons r h =>
   cases rs with
   |nil=>simp at c
   |cons q rs =>
    obtain⟨a,b,j,m,n,o⟩:=C h (by simpa using c);refine⟨_::a,q::b,.cons r j,m.cons q,by simp[n],λG g=>?_⟩;obtain⟨y,w,e,i,t⟩:=g;cases e;exact⟨_,_,rfl,i,o G t⟩
 |swap x y l =>
  intro f rs h c;cases h with
  |cons r h =>
   cases h with
   |cons F h =>
    cases rs with
    |nil=>simp at c
    |cons q rs =>
     cases rs with
     |nil=>simp at c
     |cons H rs =>
      refine⟨_,H::q::rs,.cons F (.cons r h),.swap _ _ _,by simpa using c,λG g=>?_⟩;obtain⟨y,w,e,i,t⟩:=g;cases e;obtain⟨y,w,e,I,J⟩:=t;cases e;exact⟨_,_,rfl,I,⟨_,_,rfl,i,J⟩⟩
 |trans _ _ u v =>
  intro f rs h c;obtain⟨a,b,j,m,n,o⟩:=u h c;obtain⟨z,B,i,K,L,M⟩:=v j n;exact⟨z,B,i,K.trans m,L,λG g=>M G (o G g)⟩
section
variable {X:Cx}
def call_setRows (L:X.calm=true)(hu:X.A.units+64<cLine):qa X (.type "set") (Io X.w):=by
 intro Y s Z H xs G Q I M h;obtain⟨a,ys,rs,rfl,N,J,hl,q⟩:=h;obtain⟨u,rfl,O⟩:=Ka M;obtain rfl:u=Value.ref a:=O;obtain⟨its,p,pl,hz⟩:=I.list (.inl N);have P:=J.length;have l2:=p.length;rw[Zql] at P;have sz:its.toArray.size=its.length:=Zm;have S:∀i,its.toArray.getD i .none=its.getD i .none:=λi=>by
  simp
 have T:∀i,i<its.length->yV s.heap (its.getD i .none) (rs.getD i []):=λi f=>by
  have hr:i<rs.length:=()
  obtain⟨x,g,U⟩:=J.get (i:=i) (d:=rD (rs.getD i [])) ();obtain⟨v,l,y⟩:=p.get g;obtain⟨b,o,ws,n,R⟩:=CN I.hok U y;rw[Qf l];exact SH R
 refine Sn (I.ok.hd L) pl.isList (Sz X.prog X.w s.heap) (λi v l=>?_) () () λh' tk H' kk=>?_
 .grind
 .have same:∀i j,i<its.toArray.size->j<its.toArray.size->(λv u=>decide (yX s.heap v=yX s.heap u)) ((λi=>its.toArray.getD i .none) i) ((λi=>its.toArray.getD i .none) j)=decide (rs.getD i []=rs.getD j []):=λi j f hj=>by
   grind[Bd]
  obtain⟨es,t,m,B,led,plain⟩:=H';rw[Im same _ (Zf _)] at B;obtain⟨ep,K⟩:=m.at_;have en:its.toArray.size=rs.length:=()
  rw[en] at B;have c:(es.toList.map (·.2)).Perm ((jS rs rs.length).map λi=>its.getD i .none):=by
   have:=B.map (·.2);rw[Zw,Zw] at this;refine this.trans (List.Perm.of_eq (UT λi _=>?_));exact S i
  have vl:js ((jS rs rs.length).map λi=>ys.getD i .non) ((jS rs rs.length).map λi=>its.getD i .none):=Xr λi f=>by
   have f:=X3 rs _ i f;obtain⟨x,g⟩:∃x,ys[i]? = some x:=⟨ys[i]'(),()⟩;obtain⟨v,l,y⟩:=p.get g;rw[Qf g,Qf l];exact y
  have C:es.size<=1000:=by
   have:=c.length_eq;rw[Zql,Zql,Ui] at this;have:=D7 rs rs.length;lia
  have F:t.place.size=es.size:=by
   have:=m.tab.size;rw[Uo] at this;exact this
  refine⟨.ref s.heap.objs.size,upd H s.heap.objs.size (zz X.w s.heap.objs.size ((jS rs rs.length).map λi=>ys.getD i .non)),I.laid (λb o e=>kk b o (Zk e) e) (Zf _) ?_,rfl,q _ (I.hok.fresh (Zf _))⟩;refine⟨⟨es,ep,t,_,K,⟨m.tab.fits,plain,led,m.tab.up,F⟩,C,c,vl⟩,⟨_,K⟩,λh1 h2 z kp=>?_⟩;have ⟨es,ep,t,G,e,r⟩:=z;exact⟨es,ep,t,G,kp _ e,r⟩
def SK (I:Inv X Y Z H s)(h:H S=some (zz X.w S ys)):∃es ep t a,s.heap.get? S=some (WY es ep t)/\SetGood X.w es t/\es.size<=1000/\(es.toList.map (·.2)).Perm a/\js ys a:=(I.hok S _ h).1
def SL
 (i:wpAny (model prog w) A.in1 (collect x) (λa c=>∃lt,Wk lt/\a.length<1000/\(∀h',(∀b o,c.heap.get? b=some o->h'.get? b=some o)->2<=a.length->wg prog w A.in1.in1 { c with heap:=h' } a lt) /\
  ∀f h' l,Pl a.length f a.length->Up lt f a.length->(∀b o,c.heap.get? b=some o->h'.get? b=some o)->c.heap.objs.size<=l->(∃e,h'.get? l=some (seqObj "list" (f.map (jD a)) e))->Q (.ref l) { c with heap:=h' }) E s):
 YJ prog w A (call (.builtin "sorted") [x]) Q E s:=by
 refine Calls.call_function_entry kind_sorted plain_sorted entry_sorted (args_sorted1 _) (Za (Zb (Za (Zc i (λa c z=>?_) λ_ _ e=>e))));obtain⟨lt,W,g,j,m⟩:=z;have h:(c.heap.push (seqObj "list" a.toArray 0)).get? c.heap.objs.size=some (seqObj "list" a.toArray 0):=Zr _ rfl;have n:∀b o,c.heap.get? b=some o->b≠c.heap.objs.size:=λb o e=>Zi (Zk e);refine Za (wpAny_newList (Za (wpAny_holding (wpAny_call_entry slot_list_sort ⟨_,h,rfl⟩ entry_list_sort (FV W h g (λh' q=>j h' λb o e=>q b o (n b o e) (Zq _ e)) λf p u=>⟨_,rfl,Zb ⟨_,rfl,m f _ _ p u (λb o e=>?_) (Zf _) (sortedHeap_at h)⟩⟩) (args_list_sort _)))))
 grind[size_push',sortedHeap_old,Nat.lt_succ_of_lt,Heap.lt_size,Heap.get?_push_of_some]
def call_sortedSet (hc:X.calm=true)(hu:X.A.units+64<cLine):qa X (.builtin "sorted") (Ip X.w):=by
 intro Y s Z H xs us Q I rv h;obtain⟨S,ys,rs,rfl,hS,T,J,h64,q⟩:=h;obtain⟨u,rfl,ru⟩:=Ka rv;obtain rfl:u=Value.ref S:=ru;obtain⟨es,ep,t,ws,ho,G,hsz,U,vl⟩:=SK I hS;have l1:=T.length;rw[Zql] at l1;have K:∀m:Yf,m.Perm (es.toList.map (·.2))->m.length=rs.length:=λm n=>by
  have a:=n.length_eq;have b:=U.length_eq;have c:=vl.length;lia
 refine SL (SG (A:=X.A.in1) (E:=X.xe) (I.ok.hd hc) ho G hsz λh1 tk m kk n hsz1=>?_);obtain⟨g,f,y,L,l2,g2⟩:=SJ (U.symm.trans n.symm) vl ();have lv:=K m n;have lr:=L.length_eq;have A2:=g2 H T;have M:∀r∈f,r ≠ []:=λr hr=>J r (L.mem_iff.mp hr);refine⟨λi j=>j3 (f.getD i []) (f.getD j []),ya.wk λi=>f.getD i [],(),λh' N h2=>Ge (by show X.A.units+1+1+4<cLine;lia) (I.hok.kept λb o e=>N b o (kk b o e)) A2 y M h2,λz h' l p u N hl O=>?_⟩;have ⟨e,O⟩:=O;have P:m.length=f.length:=()
 rw[P] at p u;have B:s.heap.objs.size<=l:=by
  have hl:h1.objs.size<=l:=hl;lia
 have at_:∀i∈z.toList,∃x v,g[i]? = some x/\m[i]? = some v/\ju x v:=λi C=>by
  have hn:=p.mem C;have ⟨x,F⟩:∃x,g[i]? = some x:=⟨g[i]'(),()⟩;have ⟨v,n,rr⟩:=y.get F;exact⟨x,v,F,n,rr⟩
 have sp:=CM ya p u;have se:=AA ya (((Qr f).trans L).trans (Qr rs).symm) (WI ya f) (WI ya rs);have R:=q l (z.toList.map λi=>g.getD i .non) (I.hok.fresh B) λG hG=>by
  have:=Be (g2 G hG) z.toList λi C=>p.mem C
  rwa [sp,se] at this
 refine⟨.ref l,upd H l (.lst (z.toList.map λi=>g.getD i .non)),I.laid (λb o e=>N b o (kk b o e)) B ⟨?_,z.toList.map (jD m),e,?_,?_⟩,rfl,R⟩
 .rw[Zql,p.len];exact QQ ()
 .refine Xr λi C=>?_;have ⟨x,v,F,n,rr⟩:=at_ i C;unfold jD
  rwa [Qf F,Qf n]
 .rw[O]
  congr 3
  apply Vj;simp
end
end L2.ST
namespace L2.DL
open PySem PySem.Spec PyProof.Rows L2.ST
def YX:YG->YH
 | [.lst ds]=>(Qy K3 ds).bind λrs=>if(∀r∈rs,r ≠ [])/\(qO rs).length<1000/\rs.length<=999 then some (.lst ((JL j3 (qO rs)).map j0)) else none
 |_=>none
section
variable {X:Cx}{E:XK}{fr:FA}{es:Ym}{e:Expr}
def SN (h:∀{s:TA},PA X es s->PE X e (v1 (Ip X.w) (Ar (v1 (Io X.w) s) wG)))(y:QA X E es fr):QN X E e (j8 YX fr):=PE.weak (h y) λZ H Q A=>by
 obtain⟨B,F,sd,r,n⟩:=A;refine⟨B,F,sd,r,(ja n).mono (λds C O c g b I=>?_) λ_ _ q=>q⟩;obtain⟨z,hz,q⟩:=jh C;unfold YX at hz
 split at hz
 .obtain⟨rs,J,hz⟩:=Jh.mp hz
  split at hz
  .rename_i j;obtain rfl:=Zqi hz;obtain⟨v,rfl,h⟩:=Q5 I;rw[Db J,jm] at h;obtain⟨a,ys,rfl,K,m⟩:=h;refine⟨a,ys,rs,rfl,K.same b.fh,wu.mp (jd.same b.fh _ _ m),j.2.2,λS t=>?_⟩;have u:∀G,qh G (rs.map rD) ys->qh G ((qO rs).map rD) ((jS rs rs.length).map λi=>ys.getD i .non):=λG o=>Be o _ λi L=>X3 rs _ i L;refine⟨S,_,qO rs,rfl,JM,u _ (qh.same (Kz t (zz X.w S ((jS rs rs.length).map λi=>ys.getD i .non))) _ _ (wu.mp (jd.same b.fh _ _ m))),λr M=>j.1 r (mf.mp M),j.2.1,λl N w o=>?_⟩;have p:l≠S:=λz=>by simp_all [JM]
   have f:g l=none:=by rwa [JF p] at w
   have x:Ext c g c (upd g S (zz X.w S ((jS rs rs.length).map λi=>ys.getD i .non))):=.keep b.fh t _;exact(q.ext b) l c _ (x.trans (.keep x.fh w _)) f (Qg b.fh f) ⟨N,JM,wu.mpr (o c (u c (wu.mp m)))⟩
  .exact J6 hz
 simp_all
end
def bt_set:bootBuiltins "set" = some (.type "set"):=by kernel_rfl
def SO (h:∀r∈rs,r ≠ [])(a:(qO rs).length<1000)(b:rs.length<=999):YX [.lst (rs.map j0)]=some (.lst ((JL j3 (qO rs)).map j0)):=by
 show(Qy K3 (rs.map j0)).bind _=_
 simp_all [Da]
end L2.DL
namespace L2.ST
def zq (a b:Jy):Bool:=decide (a.length<b.length)||(decide (a.length=b.length)&&j3 a b)
theorem X4:zq a b=true↔a.length<b.length\/(a.length=b.length/\j3 a b=true):=by
 simp_all [zq]
def D8:zq a b=false↔b.length<a.length\/(a.length=b.length/\j3 a b=false):=by
 grind[X4]
def vL:Tot zq where
 asy:=λa b h=>by
  rw[X4] at h;rw[D8];rcases h with h|⟨f,e⟩
  .exact .inl h
  .exact .inr ⟨f.symm,ya.asy _ _ e⟩
 neg:=λa b c h=>by
  rw[X4] at h;rw[X4,X4];rcases h with h|⟨f,e⟩
  .omega
  .rcases Vb a.length b.length with z|z|z
   .exact .inl (.inl z)
   .rcases ya.neg a b c e with y|y
    .exact by grind
    simp_all
   lia
 tot:=λa b f e=>by
  rw[D8] at f e;rcases f with f|⟨f,h3⟩<;>rcases e with e|⟨e,h4⟩
  .omega
  .omega
  .omega
  .exact ya.tot _ _ h3 h4
def SQ (hs:l.Pairwise λa b=>j3 a b=true)(p:Pl l.length jx l.length)(u:Up (λi j=>decide (((l.getD i []).length:Int)<((l.getD j []).length:Int))) jx l.length):jx.toList.map (λi=>l.getD i [])=JL zq l:=by
 refine AA vL ?_ ?_ (WI vL l)
 .refine Vx ?_ (Qr l).symm;have q:jx.toList.Perm (List.range l.length):=by
   have:=Jp.mp p.perm;simpa using this
  refine(q.map _).trans (List.Perm.of_eq ?_);apply List.ext_getElem
  .simp
  .intro i r g;simp[g]
 .refine Jj.mpr λa b h m ab=>?_;rw[VL,VL];have sz:jx.toList.length=l.length:=by rw[Ui,p.size]
  rw[Zql] at h m;have n:jx.toList[a]=gx jx a:=by
   simp_all [gx]
  have o:jx.toList[b]=gx jx b:=by
   simp_all [gx]
  rw[n,o];have e:=p.lt (Zf _) (show a<l.length from ());have f:=p.lt (Zf _) (show b<l.length from ());have c:=u a b ab ();generalize gx jx a=i at c e;generalize gx jx b=j at c f;rw[D8];rcases c with c|⟨c,ij⟩
  .simp_all
  .have:=of_decide_eq_false c;rcases Vc (l.getD i []).length (l.getD j []).length with z|z
   .exact .inl z
   .refine .inr ⟨(),ya.asy _ _ ?_⟩;have:=Jj.mp hs i j e f ij
    simp_all
section
variable {prog:Program}{w:World}{A:Around}{E:Ya}{s:Shared}
def SR (e:IntsAre a kz)(f:kz.length=vs.length):yj prog w A s oneType' (λi=>(jD a i,jD vs i)) (λi j=>decide (kz.getD i 0<kz.getD j 0)) vs.length:=by
 have at_:∀{a:Yf} {kz:Yh},IntsAre a kz->∀i,i<kz.length->∃t,jD a i=.int (kz.getD i 0) t:=by
  intro a kz h
  induction h with
  |nil=>simp
  |cons n t _ b =>
   intro i c;cases i with
   |zero=>exact⟨t,rfl⟩
   |succ i=>exact b i ()
 intro i j c g E Q l
 grind[W.kat_lt_int]
def SS (kz:Yh):Wk λi j=>decide (kz.getD i 0<kz.getD j 0):=
 ⟨λi j h=>(),()⟩
def SU (p:IntsAre keys.toList kz)(B:kz.length=vs.length)(q:vs.length<1000)(r:kS≠a)
 (v:s.heap.get? kS=some (seqObj "list" keys e)) (C:s.heap.get? a=some (seqObj "list" #[] e1))
 (h:∀f h',Pl vs.length f vs.length->Up (λi j=>decide (kz.getD i 0<kz.getD j 0)) f vs.length->(∀b o,b≠kS->b≠a->s.heap.get? b=some o->h'.get? b=some o)->(∃c,h'.get? a=some (seqObj "list" (f.map (jD vs)) c))->P (.done (.ret .none)) { s with heap:=h' }):
 YJ prog w A (ksk_end a false vs.toArray e1 (.ref kS) keys) P E s:=by
 have hsz:keys.size=vs.length:=by
  have L:=p.length
  simp_all
 have M:keys=keys.toList.toArray:=Array.toArray_toList.symm;have x:keys.zip vs.toArray=(Array.range vs.length).map λi=>(jD keys.toList i,jD vs i):=by
  apply Array.ext_getElem?;intro k;rw[UP];by_cases t:k<vs.length
  .rw[Array.getElem?_range,Zd t]
   grind[jD,List.getD_eq_getElem?_getD,Array.length_toList,Array.getElem?_zip_eq_some,Zqg]
  grind
 have m:∀st (f:Yi),arrOf st=f.map (λi=>(jD keys.toList i,jD vs i))->failedOf st=none->Pl vs.length f vs.length->Up (λi j=>decide (kz.getD i 0<kz.getD j 0)) f vs.length->YJ prog w A (ksk_tail a false e1 (.ref kS) st) P E s:=by
  intro st f F G y H;have I:(arrOf st).map (·.2)=f.map (jD vs):=by rw[F,Array.map_map];rfl
  unfold ksk_tail;dsimp only;rw[I,G];obtain⟨z,g1⟩:∃z,(s.heap.update kS (Obj.mapSeq λ_ => #[])).get? kS=some (seqObj "list" #[] z):=⟨_,get?_update_seq v (λ_ => #[])⟩;have g:(s.heap.update kS (Obj.mapSeq λ_ => #[])).get? a=some (seqObj "list" #[] e1):=by rw[Heap.get?_update_ne _ _ _ _ (Ne.symm r)];exact C
  refine Za (listUpdate_at v rfl ?_ (by rw[hsz,sizeLine_eq];lia) (Ua _));refine Za (wpAny_letGo ?_);refine Za (seqEpoch_at (s:={ s with heap:=s.heap.update kS (Obj.mapSeq λ_ => #[]) }) g rfl (Za (listUpdate_at (s:={ s with heap:=s.heap.update kS (Obj.mapSeq λ_ => #[]) }) g rfl ?_ (Ua _) (by rw[Ze Zj,Uo,y.size,sizeLine_eq];lia))));simp only[bne_self_eq_false,UF,if_false];refine Zb (h f _ y H (λb o J u K=>?_) ?_)
  .show((s.heap.update kS (Obj.mapSeq λ_ => #[])).update a (Obj.mapSeq λ_=>f.map (jD vs))).get? b=some o;rw[Heap.get?_update_ne _ _ _ _ u,Heap.get?_update_ne _ _ _ _ J];exact K
  .exact⟨_,get?_update_seq g (λ_=>f.map (jD vs))⟩
 unfold ksk_end;dsimp only;simp only[UF,if_false];by_cases l:vs.toArray.size<2
 .rw[Zd l,Zd l];refine Za (Zb (m _ (Array.range vs.length) x rfl (A9 _ _ (Zf _)) λi j N O=>?_));rw[Zm] at l;lia
 .rw[Ze l,Ze l];rw[Zm] at l;rw[ksk_kind p (by rw[hsz];lia)];refine Za (Zb ?_);refine Za (Zc (FR (SS kz) (SR p B) (Q:=λ_ n=>∃f,arrOf n=f.map (λi=>(jD keys.toList i,jD vs i))/\failedOf n=none/\Pl vs.length f vs.length/\Up (λi j=>decide (kz.getD i 0<kz.getD j 0)) f vs.length)
   ⟨x,rfl,rfl,rfl⟩ (A9 _ _ ()) () q ()) ?_ λ_ _ e=>e)
  exact()
def SW {a n:Addr}{f:Value}{l:Yf}{kz:Yh}{K:Nat}{P:PySem.Fin->YC}(N:kz.length=l.length)(C:l.length<1000)(F:n≠a)
 (O:s.heap.get? n=some (seqObj "list" #[] 0)) (Z:s.heap.get? a=some (seqObj "list" #[] K))
 (y:∀(i:Nat) v k,l[i]? = some v->kz[i]? = some k->∀h tk,(∀b o,b≠n->b≠a->s.heap.get? b=some o->h.get? b=some o) ->
  YJ prog w A (call f [v]) (λr s'=>∃t G,r=.int k t/\s'={ s with heap:=h,toks:=G }) (λ_ _=>False) { s with heap:=h,toks:=tk })
 (h:∀B h' tk,Pl l.length B l.length->Up (λi j=>decide (kz.getD i 0<kz.getD j 0)) B l.length->(∀b o,b≠n->b≠a->s.heap.get? b=some o->h'.get? b=some o)->(∃c,h'.get? a=some (seqObj "list" (B.map (jD l)) c))->P (.done (.ret .none)) { s with heap:=h',toks:=tk }):
 YJ prog w A (ksk_rest a f false l.toArray K (.ref n)) P E s:=by
 unfold ksk_rest;refine Za (wpAny_rule ?_)
 first
  |rw[List.forIn_toArray]
  | (rw[<- Vo];simp only[List.toList_toArray])
  |rw[<- Vo]
 refine Za (ksk_fold (λi s'=>∃h' tk q e,s'={ s with heap:=h',toks:=tk }/\(∀b o,b≠n->s.heap.get? b=some o->h'.get? b=some o)/\h'.get? n=some (seqObj "list" q e)/\IntsAre q.toList (kz.take i)) l 0 s
  ⟨s.heap,s.toks,#[],0,rfl,λ_ _ _ e=>e,O,by simpa using IntsAre.nil⟩ ?step ?done)
 case step =>
  rintro j x s' Q ⟨h',tk,q,e,rfl,L,m,H⟩;simp only[Nat.zero_add] at H ⊢;have hj:j<l.length:=();obtain⟨k,hkj⟩:∃k,kz[j]? = some k:=⟨_,Zqg ()⟩;have hz:q.size<=l.length:=by
   have R:=H.length;rw[Ui,Uv] at R;lia
  refine Za (wpAny_attempt (Zc (y j x k Q hkj h' tk λb o S _ T=>L b o S T) (λv U X=>?_) λ_ _ Y=>Y.elim));obtain⟨z,I,rfl,rfl⟩:=X
  try dsimp only
  obtain⟨M,hc2⟩:∃M,(h'.update n (Obj.mapSeq (·.push (.int k z)))).get? n=some (seqObj "list" (q.push (.int k z)) M):=⟨_,get?_update_seq m (·.push (.int k z))⟩;have ek:kz.take (j+1)=kz.take j++[k]:=by rw[List.take_add_one,hkj];simp
  have ea:(q.push (Value.int k z)).toList=q.toList++[Value.int k z]:=by simp
  refine Za (listUpdate_at (s:={ s with heap:=h',toks:=I }) m rfl ?_ (by rw[sizeLine_eq];lia) (Zh (Yx (Array.size_push ..)) (by rw[sizeLine_eq];lia)))
  grind[wpAny_pure,ksk_snoc,Heap.get?_update_ne]
 case done =>
  rintro s' ⟨h',tk,q,e,rfl,L,m,H⟩;have J:IntsAre q.toList kz:=by
   grind[List.take_of_length_le]
  try dsimp only
  refine Za (listItems_at m rfl ?_);exact SU J N C F m () λB h2 p u k2 g=>by grind
def SX {a:Addr}{f:Value}{l:Yf}{kz:Yh}{n:Nat}{P:PySem.Fin->YC}(m:s.heap.get? a=some (seqObj "list" l.toArray n))(F:kz.length=l.length)(x:l.length<1000)
 (B:∀(i:Nat) v k,l[i]? = some v->kz[i]? = some k->∀h tk,(∀b o,b≠a->s.heap.get? b=some o->h.get? b=some o) ->
  YJ prog w A (call f [v]) (λr s'=>∃t y,r=.int k t/\s'={ s with heap:=h,toks:=y }) (λ_ _=>False) { s with heap:=h,toks:=tk })
 (h:∀q h' tk,Pl l.length q l.length->Up (λi j=>decide (kz.getD i 0<kz.getD j 0)) q l.length->(∀b o,b≠a->s.heap.get? b=some o->h'.get? b=some o)->(∃c,h'.get? a=some (seqObj "list" (q.map (jD l)) c))->P (.done (.ret .none)) { s with heap:=h',toks:=tk }):
 YJ prog w A (ksk_tree a f false) P E s:=by
 have G:a<s.heap.objs.size:=Zk m;obtain⟨C,ho1⟩:∃C,(s.heap.update a (Obj.mapSeq λ_=>(#[]:Yn))).get? a=some (seqObj "list" #[] C):=⟨_,get?_update_seq m λ_ => #[]⟩;have z:((s.heap.update a (Obj.mapSeq λ_=>(#[]:Yn))).push (seqObj "tuple" l.toArray 0)).objs.size=s.heap.objs.size+1:=by simp
 unfold ksk_tree;refine Za (listItems_at m rfl ?_);refine Za (listUpdate_at m rfl ?_ (by rw[Zm,sizeLine_eq];lia) (Ua _));refine Za (seqEpoch_at ho1 rfl (Za (wpAny_newTuple ?_ (by show l.length<=_;rw[sizeLine_eq];lia))));refine Za (wpAny_newList (wpAny_holding ?_) (Ua _));have H:∀{b o},s.heap.get? b=some o->b≠s.heap.objs.size/\b≠s.heap.objs.size+1:=λe=>⟨Zi (Zk e),Zi (UE (Zk e))⟩;have keep:∀b o,b≠a->s.heap.get? b=some o->(((s.heap.update a (Obj.mapSeq λ_=>(#[]:Yn))).push (seqObj "tuple" l.toArray 0)).push (seqObj "list" #[] 0)).get? b=some o:=λb o I e=>by
  grind[Heap.get?_push_of_some,Heap.get?_update_ne]
 refine SW
  F x (by rw[z];exact U6 (UE G)) (Zr _ rfl) (Zq _ (Zq _ ho1))
  ()
  (λq h' tk p u J g=>())
end
section
variable {X:Cx}
def Iq:YE->Hp->VK->Prop:=λe H Q=>∃a ys rs,e=[.ref a]/\Rd H a (.lst ys)/\qh H (rs.map rD) ys/\rs.Pairwise (λa b=>j3 a b=true)/\rs.length<1000/\(∀r∈rs,r.length<=1000) /\
 ∀l c,H l=none->(∀G,qh G (rs.map rD) ys->qh G ((JL zq rs).map rD) c)->Q (.ref l) (upd H l (.lst c))
def SY {Y:Yb}{Z: St}{H:Hp}{s:Shared}{a:Addr}{ys:YE}{rs:Jz}{Q:VK}(I:Inv X Y Z H s)(S:Rd H a (.lst ys))(N:qh H (rs.map rD) ys)(hs:rs.Pairwise (λa b=>j3 a b=true))(T:rs.length<1000)(C:∀r∈rs,r.length<=1000)
 (q:∀l O,H l=none->(∀G,qh G (rs.map rD) ys->qh G ((JL zq rs).map rD) O)->Q (.ref l) (upd H l (.lst O))):
 YI X (call (.builtin "sorted") [.ref a] [(Str.ofString "key",.builtin "len")]) (EP X Y Z Q) X.xe s:=by
 obtain⟨its,E,pl,hz⟩:=I.list (.inl S);have U:=N.length;have l2:=E.length;rw[Zql] at U;have F:its.length=rs.length:=()
 have hl:=pl.isList;have keep:∀b o,s.heap.get? b=some o->(((s.heap.push (seqObj "list" #[] 0)).update s.heap.objs.size (Obj.mapSeq (· ++ its.toArray))).push (seqObj "list" its.toArray 0)).get? b=some o:=λb o q=>by
  have w:b<s.heap.objs.size:=Zk q;refine Zq _ ?_;rw[Heap.get?_update_ne _ _ _ _ (Zi w),Heap.get?_push_ne _ _ _ (Zi w)];exact q
 have hsz:((s.heap.push (seqObj "list" #[] 0)).update s.heap.objs.size (Obj.mapSeq (· ++ its.toArray))).objs.size=s.heap.objs.size+1:=by
  simp
 have h:(((s.heap.push (seqObj "list" #[] 0)).update s.heap.objs.size (Obj.mapSeq (· ++ its.toArray))).push (seqObj "list" its.toArray 0)).get? (s.heap.objs.size+1)=some (seqObj "list" its.toArray 0):=by
  rw[<- hsz];exact Zr _ rfl
 refine call_function_entry_kw kind_sorted plain_sorted entry_sorted (ksk_s1 _ _) ?_;unfold Builtin.«sorted»;refine Za (m:=checkCount "sorted" 1 1 _) (Zb ?_);refine Za (collect_list hl ?_ (by rw[F,sizeLine_eq];lia));refine Za (wpAny_newList ?_ (by rw[F,sizeLine_eq];lia));show wpAny _ _ _ _ _ { s with heap:=((s.heap.push (seqObj "list" #[] 0)).update s.heap.objs.size (Obj.mapSeq (· ++ its.toArray))).push (seqObj "list" its.toArray 0) };rw[hsz];generalize hH:((s.heap.push (seqObj "list" #[] 0)).update s.heap.objs.size (Obj.mapSeq (· ++ its.toArray))).push (seqObj "list" its.toArray 0)=hp at keep h;refine Za (wpAny_holding (wpAny_call_entry_kw slot_list_sort ⟨_,h,rfl⟩ entry_list_sort ?body (ksk_l1 _ _)))
 case body =>
  show wpAny (model X.prog X.w) X.A.in1.in1 (Builtin.«list.sort» ⟨[.ref (s.heap.objs.size+1)],[(Str.ofString "key",.builtin "len")]⟩) _ _ _;rw[ksk_t4];refine SX (s:={ s with heap:=hp }) (kz:=rs.map λr=>(r.length:Int)) h () () (λi v k y hk h' tk J=>?_) λn h' tk p u J g=>⟨_,rfl,Zb ⟨_,rfl,?_⟩⟩
  .have f:i<rs.length:=by
    have:=(Jc.mp hk).1
    rwa [Zql] at this
   obtain⟨x,t,hI⟩:=N.get (i:=i) (d:=rD (rs.getD i [])) (by rw[Zv,Zqg f,Qf (Zqg f)];rfl);obtain⟨v',z,A⟩:=E.get t;rw[y] at z;obtain rfl:=Zqi z;obtain⟨b,o,ws,m,R⟩:=CN I.hok hI A;obtain rfl:v=Value.ref b:=R.isv;have hb:b≠s.heap.objs.size+1:=Zi (UE (Zk R.get));have ht:IsTup h' b ws.toArray:=⟨o,J b o hb (keep b o R.get),R.cls,m,R.dat⟩;have K:ws.length=(rs.getD i []).length:=R.prs.1;have ek:k=((rs.getD i []).length:Int):=by
    simp_all
   have P:(rs.getD i []).length<=1000:=by
    rw[Qf (Zqg f)];exact C _ (Uw f)
   have ev:Value.int ((ws.toArray.size:Nat):Int) (tk+1)=Value.int k (tk+1):=by simp_all
   exact len_tuple (s:={ s with heap:=h',toks:=tk }) ht (by rw[Zm,K];lia) ⟨tk+1,tk+1+1,ev,rfl⟩
  .obtain⟨c,g⟩:=g;have L:∀b o,s.heap.get? b=some o->h'.get? b=some o:=λb o e=>J b o (Zi (UE (Zk e))) (keep b o e);rw[F] at p u;have ud:(λi j=>decide ((rs.map λr=>(r.length:Int)).getD i 0<(rs.map λr=>(r.length:Int)).getD j 0))=λi j=>decide (((rs.getD i []).length:Int)<((rs.getD j []).length:Int)):=by
    have e:∀i,(rs.map λr=>(r.length:Int)).getD i 0=((rs.getD i []).length:Int):=λi=>by
     rw[Ur,Zv,Ur];cases rs[i]?<;>rfl
    funext i j
    rw[e,e]
   rw[ud] at u;have sp:=SQ hs p u;have B:s.heap.objs.size<=s.heap.objs.size+1:=Nat.le_succ _;have at_:∀i∈n.toList,∃x v,ys[i]? = some x/\its[i]? = some v/\ju x v:=λi f=>by
    have hn:=p.mem f;obtain⟨x,t⟩:∃x,ys[i]? = some x:=⟨ys[i]'(),()⟩;obtain⟨v,y,A⟩:=E.get t;exact⟨x,v,t,y,A⟩
   have M:=q (s.heap.objs.size+1) (n.toList.map λi=>ys.getD i .non) (I.hok.fresh B) λG hG=>by
    have:=Be hG n.toList λi f=>p.mem f;rw[sp] at this;exact this
   refine⟨.ref (s.heap.objs.size+1),upd H (s.heap.objs.size+1) (.lst (n.toList.map λi=>ys.getD i .non)),I.laid (a:=s.heap.objs.size+1) (o:=.lst (n.toList.map λi=>ys.getD i .non)) (t':=tk) L B ⟨?_,n.toList.map (jD its),c,?_,?_⟩,rfl,M⟩
   .rw[Zql,p.len];exact QQ ()
   .refine Xr λi f=>?_;obtain⟨x,v,t,y,A⟩:=at_ i f;unfold jD;rw[Qf t,Qf y];exact A
   .rw[g]
    congr 3
    apply Vj;simp
def pe_sortLen (i:Gl X "sorted")(j:X.mg "sorted" = none)(b:Gl X "len")(c:X.mg "len" = none)(l:PA X [e] t)
 (m:backTo pos (starEach [e] X.env)=(false,eval e X.env)::backTo pos (starEach [] X.env):=by rfl) (f:(backTo pos (starEach [e] X.env)).any (·.1)=false:=by rfl):PE X (.Call (.Name "sorted" p) [e] [⟨some "key",.Name "len" lp,kp⟩] pos) (v1 Iq t):=by
 intro Y s Z H Q I h;refine wpAny_Call_Name_kw (Xi I i j (show bootBuiltins "sorted" = some (.builtin "sorted") by kernel_rfl) ?_ (by decide) (by decide));refine callWith_kw (jH (l pos Y s Z H _ I h) λA B ⟨C,E,g,n,o⟩=>(kws_cons (Xi g b c boot_len (kws_nil ?_) (by decide) (by decide)))) m f;obtain⟨a,ys,rs,rfl,r,v,w,x,y,q⟩:=o;obtain⟨u,rfl,z⟩:=Ka n;obtain rfl:=z;exact SY g r v w x y q
end
end L2.ST
namespace L2.DL
open PySem PySem.Spec PyProof.Rows L2.ST
def YY:YG->YH
 | [.lst ds]=>(Qy K3 ds).bind λrs=>if rs.Pairwise (λa b=>j3 a b=true)/\rs.length<1000/\∀r∈rs,r.length<=1000 then some (.lst ((JL zq rs).map j0)) else none
 |_=>none
section
variable {X:Cx}{E:XK}{fr:FA}{es:Ym}{e:Expr}
def SZ (h:∀{g:TA},PA X es g->PE X e (v1 Iq g))(m:QA X E es fr):QN X E e (j8 YY fr):=PE.weak (h m) λZ H Q o=>by
 obtain⟨B,F,sd,r,n⟩:=o;refine⟨B,F,sd,r,(ja n).mono (λds p y i A b s=>?_) λ_ _ q=>q⟩;obtain⟨z,hz,q⟩:=jh p;unfold YY at hz
 split at hz
 .obtain⟨rs,t,hz⟩:=Jh.mp hz
  split at hz
  .rename_i c;obtain rfl:=Zqi hz;obtain⟨v,rfl,h⟩:=Q5 s;rw[Db t,jm] at h;obtain⟨a,ys,rfl,u,j⟩:=h;exact⟨a,ys,rs,rfl,u.same b.fh,wu.mp (jd.same b.fh _ _ j),c.1,c.2.1,c.2.2,λl w f x=>((q.ext b) l i _ (.keep b.fh f _) f (Qg b.fh f) ⟨w,JM,wu.mpr (x i (wu.mp j))⟩)⟩
  .exact J6 hz
 simp_all
end
def Ta (h:rs.Pairwise (λa b=>j3 a b=true))(c:rs.length<1000)(e:∀r∈rs,r.length<=1000):YY [.lst (rs.map j0)]=some (.lst ((JL zq rs).map j0)):=by
 show(Qy K3 (rs.map j0)).bind _=_
 simp_all [Da]
end L2.DL
namespace L2
def xZ.has {P:Program}{w:World}{H:Hp}{h:Heap}{a:Addr}{o:HO}(x:xZ P w H h a o):∃u,h.get? a=some u:=by
 cases o with
 |lst c=>obtain⟨_,_,_,_,e⟩:=x;exact⟨_,e⟩
 |tup c=>obtain⟨_,_,_,o,e,_⟩:=x;exact⟨_,e⟩
 |dK b=>obtain⟨_,_,_,_,o,_,_,e,_⟩:=x;exact⟨_,e⟩
 |dT b=>obtain⟨_,_,_,_,o,_,_,e,_⟩:=x;exact⟨_,e⟩
 |set S n=>obtain⟨o,_,_,_,e,_⟩:=x;exact⟨_,e⟩
 |ins C g fs=>exact⟨_,x.2.2.2.1⟩
 |own y=>exact x
 |xd fs=>obtain⟨_,⟨_,_,_,e,_⟩,_⟩:=x;exact⟨_,e⟩
 |rng lo i=>obtain⟨_,_,_,e⟩:=x;exact⟨_,e⟩
 |frz j u=>exact⟨_,x.1⟩
 |tbl ps=>exact⟨_,x⟩
 |met f y=>exact⟨_,x⟩
 |ext φ => exact x.2.1
structure FlyAt (l:List Env)(h₀:Heap)(H:Hp)(x C:Addr)(B h:Heap):Prop where
 fly:∃t,Heap.FlyingW B l x (.ref C) (.ref t) h
 trk:∀b o,h.get? b=some o->(H b≠none\/((∃u,h₀.get? b=some u)/\b∉xf l))->B.get? b=some o
def xA (P:Program)(w:World):zB:=λa H s E e s'=>∃b x C B,e=.ref x/\s'.os=s.os/\AllBare s'.gens/\Un (xf a) [] H b s.heap s'.heap/\qK P w b s'.heap/\FlyAt a s.heap b x C B s'.heap/\E (.ref C) none b
structure Thrown (X:Cx)(E:XK):Prop where
 on:∀(Y:Yb) (Z: St) (H:Hp) (s:Shared) (h₀:Heap) (x C:Addr) (B:Heap),Inv X Y Z H s->(∀b u,X.s₀.heap.get? b=some u->b∉X.ex->∃u',h₀.get? b=some u')->FlyAt X.stack h₀ H x C B s.heap->E (.ref C) none H->X.xe (.ref x) s
structure Raises (X:Cx)(E:XK):Prop where
 new:∀(Y:Yb) (Z: St) (H:Hp) (s:Shared) (h':Heap) (x C:Addr) (args:Yf),Inv X Y Z H s->Heap.MadeExcOf s.heap h' x (.ref C) args->E (.ref C) none H->X.xe (.ref x) { s with heap:=h' }
def Thrown.passes {X:Cx}{E:XK}(T:Thrown X E):Xk (xA X.prog X.w) X E:=by
 intro Y Z H s e s' I ⟨c,x,C,B,f,os,bare,un,a,g,h⟩;subst f;exact T.on Y Z c s' s.heap x C B (I.call' os un a bare ()) (λb u e i=>I.base.there b u e i) g h
section
variable {P:Program}{w:World}{K:W.Frag}{mg:Ye}{base:Heap}{N:Yk}{qual:Str}{scope:Scope}{f:Addr}{cd:Value}{A:Around}{outer:List Env}{s:Shared}{H:Hp}{E:XK}
def D9 {Y:Yb}{Z: St}{m:Hp}{s':Shared}{h₀ g B:Heap}{x C t:Addr}(I:Inv (jV (xA P w) P w K mg base N qual scope f cd A outer s H E) Y Z m s')
 (U:∀b u,s.heap.get? b=some u->∃J,h₀.get? b=some J) (p:Heap.FlyingW B outer x (.ref C) (.ref t) g) (L:s'.heap.UpToSlots g)
 (trk:∀b o,s'.heap.get? b=some o->(m b≠none\/((∃u,h₀.get? b=some u)/\b∉xf (envOfC qual scope s.heap.objs.size f cd::outer)))->B.get? b=some o) (M:E (.ref C) none m):
 xA P w outer H s E (.ref x) { s' with heap:=g }:=by
 have O:∀b u,s.heap.get? b=some u->b∉xf outer->b∉xf (envOfC qual scope s.heap.objs.size f cd::outer):=λb u e l z=>by
  have z:=z;rcases Us.mp z with q|q
  .exact Zn (Zk e) (by rw[q];exact Zy _)
  .exact l q
 have a:∀b:Addr,b∉(jV (xA P w) P w K mg base N qual scope f cd A outer s H E).ex:=λb z=>Zn (show b∈([]:Yl) from z) ();have keep:∀b o,s'.heap.get? b=some o->(m b≠none\/((∃u,s.heap.get? b=some u)/\b∉xf outer))->B.get? b=some o:=by grind
 have y:∀b o,s.heap.get? b=some o->b∈xf outer->∃F,g.get? b=some { o with slots:=F }:=λb o e l=>by
  obtain⟨F,Q⟩:=I.base.slot b o e (I.ok.frf b l) l (a b);obtain⟨_,i,j,R⟩:=I.ok.funs.mem l;have j:s.heap.get? b=some i:=j;rw[e] at j;obtain rfl:=Zqi j;obtain⟨r,S⟩:=L b _ Q R;exact⟨r,S⟩
 refine⟨m,x,C,B,rfl,I.os,I.bare,⟨λb o e n l _=>?_,(),λb o e n _=>I.base.free b o e n (a b),λb o e _=>?_,I.base.tups,I.base.frzs,I.base.tbls⟩,λb u e=>?_,⟨⟨t,p⟩,λb o e c=>?_⟩,M⟩
 .exact p.1 b o (keep b o (I.base.keep b o e n l (a b)) ())
 .by_cases l:b∈xf outer
  .grind
  .have ⟨i,G⟩:=I.base.there b o e (a b);exact⟨i,p.1 b i ()⟩
 .refine(I.hok b u e).stay (λc v X q=>p.1 c v (keep c v q (.inl ?_))) (λ_ q=>q) λ_ _ q=>q
  grind
 .have T:∃i,s'.heap.get? b=some i:=by
   rcases c with c|⟨⟨u,hu⟩,_⟩
   .cases q:m b with
    |none=>exact Zn q c
    |some u=>exact(I.hok b u q).has
   .exact I.base.there b u hu (a b)
  have ⟨i,G⟩:=T;have:=p.1 b i (keep b i G c)
  grind[Zqi]
def QV:Thrown (jV (xA P w) P w K mg base N qual scope f cd A outer s H E) E:=by
 refine⟨λY Z m s' h₀ x C B I i a j=>?_⟩;obtain⟨⟨t,c⟩,trk⟩:=a;have g:∀b:Addr,b∉(jV (xA P w) P w K mg base N qual scope f cd A outer s H E).ex:=λb z=>Zn (show b∈([]:Yl) from z) ();exact wpAny_leaves_onW I.ok.frames rfl c λh' a l=>D9 I (λb u e=>i b u e (g b)) a l trk j
def Tb:Raises (jV (xA P w) P w K mg base N qual scope f cd A outer s H E) E:=by
 refine⟨λY Z r s' h' x C args I h i=>?_⟩;have g:∀env∈(envOfC qual scope s.heap.objs.size f cd::outer),∀a,env.frame=some a->a∈xf (envOfC qual scope s.heap.objs.size f cd::outer):=λenv j a l=>Jr.mpr ⟨env,j,l⟩;refine wpAny_leaves_madeW I.ok.frames rfl (λb o e=>W.of_hideAll _ e) (W.funFrames_hide I.stack g) h λm t n p v q=>(D9 (s':=s') I (λb u e=>I.base.there b u e (by show b∉([]:Yl);simp)) n ((Heap.UpToSlots.of_keeps h.keeps).trans q) (λb o e c=>(W.hideAll_get _ e λz=>?_)) i);rcases c with c|c
 .exact c (I.stkFree b z)
 simp_all
end
def yr (P:Program)(w:World)(K:W.Frag)(mg:Ye)(a:Heap)(name:Str)(k:Nat)(ps:Yk)(sp:Sp):Prop:=
 ∃f b,FnOk P w K mg a (xA P w) k f b ps sp/\zF K b ps []/\W.keepIn K (.ref f)=true/\mg name=some (.ref f)
theorem yr.mono {P:Program}{w:World}{K:W.Frag}{mg:Ye}{a:Heap}{name:Str}{j k:Nat}{ps:Yk}{sp:Sp}(c:yr P w K mg a name j ps sp)(h:j<=k):yr P w K mg a name k ps sp:=by
 obtain⟨f,b,F,r⟩:=c;exact⟨f,b,F.mono h,r⟩
section
variable {X:Cx}{E:XK}{name:Str}{k:Nat}{ps:Yk}{sp:Sp}{p pos:Pos}{e:Expr}{es:Ym}{t:TA}
def YZ (c:yr X.prog X.w X.K X.mg X.base name k ps sp)(T:Thrown X E)(h:Room k X.A)(i:Gl X name)(j:PA X (e::es) t)
 (a:(name == ("__debug__" : Str))=false:=by decide) (l:starEach (e::es) X.env=(false,eval e X.env)::starEach es X.env:=by rfl) (g:(backTo pos (starEach es X.env)).any (·.1)=false:=by rfl):
 PE X (.Call (.Name name p) (e::es) [] pos) (Cm sp [] E t):=by
 obtain⟨f,o,F,b,m,n⟩:=c;exact EL F h i n m b .nil T.passes j a l g
end
def Fun.okX {P:Program}{w:World}{K:W.Frag}{mg:Ye}{e:Heap}{x b:Str}{st:Stmt}{f:Addr}{l:FuncData}{N ps:Yk}{k:Nat}{sp:Sp}(F:Fun K x b st f l)(S:FnScope N ps (JV st))(len:∀g H Q E,sp g H Q E->g.length=ps.length)
 (h:∀c A a s H g Q E,Room k (A.deeper (envOfC b (JV st) s.heap.objs.size f c))->sp g H Q E ->
  ∃t,qI (jV (xA P w) P w K mg e N b (JV st) f c A a s H E) (QM st) t/\t { nx:=λ_ m=>Q .non m,rt:=Q } (start N g) H):FnOk P w K mg e (xA P w) (k+1) f l ps sp:=by
 obtain⟨r,u,kV,n,v,y,c,ct,o,rfl,p,i⟩:=F.ex;exact ES p i S len λA a s H g Q E q j=>h c A a s H g Q E q j
end L2
namespace L2.DL
def x8 (K:W.Frag)(a:YG->Res D):Sp:=λb H Q E=>∃F ds,jk F H/\jd K F ds b/\(a ds).need (yo K F H Q) (XW K E F H)
def xP (K:W.Frag)(a:YG->Res D):Sp:=λb H Q E=>∃F ds,jk F H/\jd K F ds b/\(a ds).need (xY K F H Q) (XW K E F H)
def Res.strict {α: Type}:Res α -> Res α
 | .ok a=>.ok a
 |_=>.no
@[simp]def wy {α: Type}(a:α):(Res.ok a).strict=.ok a:=rfl
def j9 {α: Type}{r:Res α}{p:α -> Prop}{q b:Str->YG->Prop}(h:r.strict.need p q):r.need p b:=by
 cases r with
 |ok a=>exact h
 |ex c fs=>exact h.elim
 |no=>exact h
def Qa (a:YG->Res D)(b:FA):FE:=λsd=>(b sd).bind λds=>(a ds).strict
@[simp]def fD (Fn)(fr)(sd):Qa Fn fr sd=(fr sd).bind λds=>(Fn ds).strict:=rfl
section
variable {X:Cx}{E:XK}{name:Str}{k:Nat}{ps:Yk}{Fn:YG->Res D}{p pos:Pos}{e:Expr}{es:Ym}{fr:FA}
def WZ (c:yr X.prog X.w X.K X.mg X.base name k ps (x8 X.K Fn))(T:Thrown X E)(g:Room k X.A)(h:Gl X name)(i:QA X E (e::es) fr)
 (a:(name == ("__debug__" : Str))=false:=by decide) (j:starEach (e::es) X.env=(false,eval e X.env)::starEach es X.env:=by rfl) (b:(backTo pos (starEach es X.env)).any (·.1)=false:=by rfl):
 QE X E (.Call (.Name name p) (e::es) [] pos) (J5 Fn fr):=PE.weak (YZ c T g h i a j b) λZ H Q l=>by
 obtain⟨B,F,sd,r,n⟩:=l;refine⟨B,F,sd,r,(ja n).mono (λm o s t u f v=>?_) λ_ _ q=>q⟩;show x8 X.K Fn (s++[]) u Q E;rw[ZB];exact⟨t,m,f.fh,v,AE o f⟩
def X5 (c:yr X.prog X.w X.K X.mg X.base name k ps (xP X.K Fn))(T:Thrown X E)(g:Room k X.A)(h:Gl X name)(i:QA X E (e::es) fr)
 (a:(name == ("__debug__" : Str))=false:=by decide) (j:starEach (e::es) X.env=(false,eval e X.env)::starEach es X.env:=by rfl) (b:(backTo pos (starEach es X.env)).any (·.1)=false:=by rfl):
 QN X E (.Call (.Name name p) (e::es) [] pos) (J5 Fn fr):=PE.weak (YZ c T g h i a j b) λZ H Q l=>by
 obtain⟨B,F,sd,r,n⟩:=l;refine⟨B,F,sd,r,(ja n).mono (λm o s t u f v=>?_) λ_ _ q=>q⟩;show xP X.K Fn (s++[]) u Q E;rw[ZB];exact⟨t,m,f.fh,v,CP o f⟩
def Ir (c:zn X.prog X.w X.K X.mg X.base name k ps (qJ X.K Fn))(g:Room k X.A)(h:Gl X name)(i:QA X E (e::es) fr)
 (a:(name == ("__debug__" : Str))=false:=by decide) (j:starEach (e::es) X.env=(false,eval e X.env)::starEach es X.env:=by rfl) (b:(backTo pos (starEach es X.env)).any (·.1)=false:=by rfl):
 QE X E (.Call (.Name name p) (e::es) [] pos) (Qa Fn fr):=PE.weak (XX c g h i a j b) λZ H Q l=>by
 obtain⟨B,F,sd,r,n⟩:=l;refine⟨B,F,sd,r,(ja n).mono (λm o s t u f v=>?_) λ_ _ q=>q⟩;show qJ X.K Fn (s++[]) u Q E0;rw[ZB];exact⟨t,m,f.fh,v,j9 (AE o f)⟩
def KE (c:zn X.prog X.w X.K X.mg X.base name k ps (yM X.K Fn))(g:Room k X.A)(h:Gl X name)(i:QA X E (e::es) fr)
 (a:(name == ("__debug__" : Str))=false:=by decide) (j:starEach (e::es) X.env=(false,eval e X.env)::starEach es X.env:=by rfl) (b:(backTo pos (starEach es X.env)).any (·.1)=false:=by rfl):
 QN X E (.Call (.Name name p) (e::es) [] pos) (Qa Fn fr):=PE.weak (XX c g h i a j b) λZ H Q l=>by
 obtain⟨B,F,sd,r,n⟩:=l;refine⟨B,F,sd,r,(ja n).mono (λm o s t u f v=>?_) λ_ _ q=>q⟩;show yM X.K Fn (s++[]) u Q E0;rw[ZB];exact⟨t,m,f.fh,v,j9 (CP o f)⟩
end
section
variable {P:Program}{w:World}{K:W.Frag}{mg:Ye}{base:Heap}{x qual:Str}{f:Addr}{fd:FuncData}{N ps:Yk}{k:Nat}{st:Stmt}
def Z1 {g:FS}(F:Fun K x qual st f fd)(S:FnScope N ps (JV st))
 (e:∀b A a s H E,Room k (A.deeper (envOfC qual (JV st) s.heap.objs.size f b))->zm (jV (xA P w) P w K mg base N qual (JV st) f b A a s H E) E false (QM st) g):
 FnOk P w K mg base (xA P w) (k+1) f fd ps (x8 K (jE N.length ps.length g)):=by
 refine F.okX S (λi H Q E ⟨F,ds,_,h,n⟩=>?_) λb A a s H i Q E j ⟨F,ds,hs,h,n⟩=>⟨_,e b A a s H E j,?_⟩
 .unfold jE at n
  split at n
  .rw[h.length];lia
  .exact n.elim
 .unfold jE at n
  split at n
  .refine⟨⟨F,H,λ_=>none⟩,F,_,RS.start hs h,(ja n).mono (λo c=>?_) λ_ _ q=>q⟩;cases o with
   |next sd=>exact λZ l m _ r=>c .non l m r.ext (jG.mpr rfl)
   |ret d=>exact c
   |brk sd=>exact c.elim
   |cont sd=>exact c.elim
  .exact n.elim
def Z3 {g:FS}(F:Fun K x qual st f fd)(S:FnScope N ps (JV st))
 (e:∀b A a s H E,Room k (A.deeper (envOfC qual (JV st) s.heap.objs.size f b))->zm (jV (xA P w) P w K mg base N qual (JV st) f b A a s H E) E true (QM st) g):
 FnOk P w K mg base (xA P w) (k+1) f fd ps (xP K (jQ N.length ps.length g)):=by
 refine F.okX S (λi H Q E ⟨F,ds,_,h,n⟩=>?_) λb A a s H i Q E j ⟨F,ds,hs,h,n⟩=>⟨_,e b A a s H E j,?_⟩
 .unfold jQ at n
  split at n
  .rw[h.length];lia
  .exact n.elim
 .unfold jQ at n
  split at n
  .refine⟨⟨F,H,λ_=>none⟩,F,_,RS.start hs h,(ja n).mono (λo c=>?_) λ_ _ q=>q⟩;cases o with
   |next sd=>exact c.elim
   |ret d=>exact c
   |brk sd=>exact c.elim
   |cont sd=>exact c.elim
  .exact n.elim
end
end L2.DL
namespace L2
def Tc (h:n<1000000):n.log2<20:=by
 by_cases z:n=0
 .simp_all
 .exact(Nat.log2_lt z).mpr (Zg h (by decide))
section
variable {X:Cx}{x:Str}{v e:Expr}{tv:TE}{t:TA}{p1 p2 np cpos pos:Pos}{k}
def mx (x:Str)(tv:TE):TE:=λZ H Q=>tv Z H λy b=>∃a:Int,y=.int a/\a.natAbs<1000000/\Q (.str (Str.empty++x++Str.ofString (toString a))) b
def Td (A:x.length<=1000)(g:PE X v tv):PE X (.JoinedStr [.Constant (.str x) k p1,.FormattedValue v (-1) none p2] pos) (mx x tv):=by
 intro Y s Z H Q I h;refine wpAny_JoinedStr ?_;have B:(Str.empty:Str).length=0:=rfl;refine jH (E1 Y s Z H (λy b=>y=.str x/\b=H) I ⟨rfl,rfl⟩) λu i ⟨y,b,j,l,c,m⟩=>?_;subst c m;obtain⟨n,rfl⟩:=l;refine⟨x,n,rfl,by grind[strLen_append,sizeLine_eq],wpAny_FormattedValue_plain (jH (g Y i Z b _ j h) λu C ⟨y,o,p,r,a,c,w,q⟩=>?_)⟩;subst c;obtain⟨E,rfl⟩:=r;have z:=Tc w;have F:=int_text_length_le (by decide) z;have f:(Str.empty++x++Str.ofString (toString a)).length<=sizeLine:=by grind[strLen_append,PySem.ofString_length,sizeLine_eq]
 exact wpAny_formatField_int () ⟨_,_,rfl,f,f,⟨.str (Str.empty++x++Str.ofString (toString a)),o,p.tok _,⟨_,rfl⟩,q⟩⟩
structure Exc (K:W.Frag)(mg:Ye)(c:Str)(C:Addr):Prop where
 ns:W.nsIn K mainGlobals c=some (some (.ref C))
 mgc:mg c=some (.ref C)
 exc:W.excIn K C [.type "ValueError",.type "Exception",.type "BaseException",.type "object"] "ValueError.__new__" = true
def rC (m:Yf)(l:List Yg)(g:Addr->List Value->Option Value->Option Value->Option Value->Option Value->String->Option Value->Bool):Prop:=
 ∃C a k0 k1 k2 k3 n k5,m=.ref C::a/\l=[k0,k1,k2,k3,some (.builtin n),k5]/\g C a k0 k1 k2 k3 n k5=true
def Te
 (q:W.excIn.match_1 (λ_ _=>Bool) m l g (λ_ _=>false)=true):rC m l g:=by
 cases m with
 |nil=>exact JB q
 |cons v b =>
  cases v with
  |ref C =>
   cases l with
   |nil=>exact JB q
   |cons k0 l =>
    cases l with
    |nil=>exact JB q
    |cons k1 l =>
     cases l with
     |nil=>exact JB q
     |cons k2 l =>
      cases l with
      |nil=>exact JB q
      |cons k3 l =>
       cases l with
       |nil=>exact JB q
       |cons a l =>
        cases a with
        |none=>exact JB q
        |some u =>
         cases u with
         |builtin n =>
          cases l with
          |nil=>exact JB q
          |cons k5 l =>
           cases l with
           |nil=>exact⟨_,_,_,_,_,_,_,_,rfl,rfl,q⟩
           |cons _ _=>exact JB q
         |_=>exact JB q
  |_=>exact JB q
def Iu {K:W.Frag}{h:Heap}{C:Addr}{f:Yf}{a:String}{P:Prop}(i:K.In h)(q:W.excIn K C f a=true)
 (k:∀j N nm m bs hdct sn sub ab col dd k0 k1 k2 k3 k5 p,h.get? C=some (excClassObj nm m C N bs j hdct sn sub ab col dd k0 k1 k2 k3 k5 a)->h.Ns N p->p "__init__" = none->OwnTail h f j->P):P:=by
 unfold W.excIn at q
 split at q
 .rename_i dd w r y;obtain⟨H,j,k0,k1,k2,k3,n,k5,s,hs,q⟩:=Te q;simp only[Ud,Ys,Bool.not_eq_true'] at q;obtain⟨⟨⟨⟨⟨z,A⟩,b⟩,B⟩,c⟩,g⟩:=q;subst z A;have u:=i _ _ y;obtain⟨nm,bs,E,ns,m,F,sn,sub,ab,col,G⟩:=w;dsimp only at s b c g u;subst s b;have o:r = #[k0,k1,k2,k3,some (.builtin n),k5]:=by
   obtain⟨l⟩:=r;exact Zt Array.mk hs
  subst o;exact k j ns nm m bs F sn sub ab col dd k0 k1 k2 k3 k5 _ u (.of_isNs (W.isNs_of_in i c)) (W.nsMap_none_of_in i c g) (W.tail_of_in i B)
 .exact JB q
def Th (C:Addr)(E:XK)(t:TA):TS:=λ_ Z H=>t Z H λa b=>a.length<=1000/\E (.ref C) none b
def Ti {E:XK}{c:Str}{C:Addr}(R:Raises X E)(f:Exc X.K X.mg c C)(j:X.calm=true)(l:Gl X c)(m:PA X [e] t)(n:(c == ("__debug__" : Str))=false:=by decide)
 (g:starEach [e] X.env=(false,eval e X.env)::starEach [] X.env:=by rfl):PS X (.Raise (some (.Call (.Name c np) [e] [] cpos)) none pos) (Th C E t):=by
 intro Y s Z H D I h;refine Iu I.mod.kin f.exc λB N nm q bs hdct sn sub ab col dd k0 k1 k2 k3 k5 F o p b T=>(wpAny_Raise_call_subU (nm:=nm) (q:=q) (N:=N) (bs:=bs) (hdct:=hdct) (sn:=sn) (sub:=sub) (ab:=ab) (col:=col) (dd:=dd) (k0:=k0) (k1:=k1) (k2:=k2) (k3:=k3) (k5:=k5)
  PySem.F.excBase_ValueError (by rfl) PySem.F.excBase_ValueError (T.hasType PySem.F.excBase_ValueError.hasBase) (I.ok.hd j) (by rw[g];rfl) b (Xh I l f.mgc ⟨rfl,?_⟩ n))
 have i:=m cpos Y s Z H _ I h;rw[g] at i ⊢;refine Calls.evalArgs_plain (Zc i (λG r ⟨ws,u,a,w,J,z⟩=>?_) λ_ _ y=>y);have K:=w.length;refine⟨rfl,QQ (),a.bk _ _ o,p.keeps a.bk,T.keeps a.bk,λh' x A=>R.new Y Z u r h' x C _ a A z⟩
end
end L2
namespace L2.DL
def wT (x:Str):D->YH
 | .int a=>if Nat.ble a.natAbs 999999=true then some (.str (Str.empty++x++Str.ofString (toString a))) else none
 |_=>none
def Tj (b: -999999<=a)(c:a<=999999):∃z,wT x (.int a)=some (.str z):=⟨_,Zd (Nat.ble_eq.mpr ())⟩
def Bf (c:Str)(f:FE):FS:=λsd=>(f sd).bind λ_=>.ex c []
@[simp]def f9 (c)(f)(sd):Bf c f sd=(f sd).bind λ_=>.ex c []:=rfl
section
variable {X:Cx}{E:XK}{m:Option Bool}{x:Str}{v e:Expr}{fv fe:FE}{p1 p2 np cpos pos:Pos}{k}
def kb (b:x.length<=1000)(c:QE X E v fv):QE X E (.JoinedStr [.Constant (.str x) k p1,.FormattedValue v (-1) none p2] pos) (qV (wT x) fv):=
 PE.weak (Td b c) λZ H Q f=>by
  obtain⟨B,F,sd,r,n⟩:=f;refine⟨B,F,sd,r,(ja n).mono (λd g y h i j l=>?_) λ_ _ q=>q⟩;obtain⟨z,hz,q⟩:=jh g;unfold wT at hz
  split at hz
  .rename_i a
   split at hz
   .rename_i o;obtain rfl:=Zqi hz;exact⟨a,je.mp l,by have:=Nat.ble_eq.mp o;lia,q _ h i j (jy.mpr rfl)⟩
   .exact J6 hz
  simp_all
def Tk (R:Raises X E)(ex:Exc X.K X.mg c C)(f:X.calm=true)(g:Gl X c)(h:QE X E e fe)(i:(c == ("__debug__" : Str))=false:=by decide)
 (a:starEach [e] X.env=(false,eval e X.env)::starEach [] X.env:=by rfl):QS X E m (.Raise (some (.Call (.Name c np) [e] [] cpos)) none pos) (Bf c fe):=
 PS.weak (Ti R ex f g (J1 h J2 a) i a) λT Z H j=>by
  obtain⟨B,F,sd,r,n⟩:=j;have l:(J0 fe jc sd).need (λds=>ds.length=1/\XW X.K E B.F0 B.H0 c []) (XW X.K E F H):=by
   unfold Bf at n;unfold J0 jc;cases b:fe sd with
   |ok d=>rw[b] at n;exact⟨rfl,n⟩
   |ex o fs=>rw[b] at n;exact XW.ext (n:XW X.K E B.F0 B.H0 o fs) r.ext
   |no=>rwa [b] at n
  refine⟨B,F,sd,r,l.mono (λds p y s t u w=>?_) λ_ _ q=>q⟩;have:=w.length;exact⟨(),p.2 (.ref C) none s t (r.ext.trans u) ⟨C,rfl,ex.ns,.inl rfl⟩⟩
end
end L2.DL
namespace L2
def Z5 (X:Cx)(Y:Yb)(Z: St)(E:XK)(e:Value)(s':Shared):Prop:=
 ∃a h₀ x C B,e=.ref x/\Inv X Y Z a s'/\(∀b u,X.s₀.heap.get? b=some u->b∉X.ex->∃c,h₀.get? b=some c)/\(∀p∈X.pn++Y,∃u,h₀.get? p.1=some u)/\FlyAt X.stack h₀ a x C B s'.heap/\E (.ref C) none a
section
variable {X:Cx}{Y:Yb}{Z: St}{H:Hp}{s:Shared}{E:XK}
def Tl (F:FnOk X.prog X.w X.K X.mg X.base (xA X.prog X.w) k f fd ps sp)(j:Room k X.A)(l:zF X.K fd ps [])
 (I:Inv X Y Z H s) (r:js vs us) (h:sp vs H Q E):YI X (call (.ref f) us) (EP X Y Z Q) (Z5 X Y Z E) s:=by
 have m:(us++[]).length=ps.length:=by rw[ZB,<- r.length];exact F.len _ _ _ _ h
 have a:=l s us I.kIn m;rw[ZB] at a;refine wpAny_call (codeAny_mono (F.run X.A X.stack s H ⟨us,[]⟩ us vs Q E j I.env0 a r h) λr s' c=>?_);cases r with
 |error e =>
  obtain⟨n,x,C,B,o,os,bare,un,g,i,q⟩:=c;subst o;exact⟨n,s.heap,x,C,B,rfl,I.call' os un g bare (λb z=>Zn z ()),λb u e t=>I.base.there b u e t,λp hp=>⟨_,(I.pin p hp).1⟩,i,q⟩
 |ok i =>
  cases i with
  |ret u=>exact I.after c
  |next=>exact False.elim c
  |brk=>exact False.elim c
  |cont=>exact False.elim c
def Inv.flown {h₀ h' B:Heap}{x C t:Addr}(I:Inv X Y Z H s)(O:∀b u,X.s₀.heap.get? b=some u->b∉X.ex->∃R,h₀.get? b=some R)(hp:∀p∈X.pn++Y,∃u,h₀.get? p.1=some u)
 (trk:∀b o,s.heap.get? b=some o->(H b≠none\/((∃u,h₀.get? b=some u)/\b∉xf X.stack))->B.get? b=some o) (G:Heap.FlyingW B X.stack x (.ref C) (.ref t) h') (L:s.heap.UpToSlots h'):Inv X Y Z H { s with heap:=h' }:=by
 have w:∀b u,X.s₀.heap.get? b=some u->b∉X.fs->b∉xf X.stack:=λb u e a z=>by
  rcases Us.mp (I.stkSub b z) with q|q
  .exact Zn (Zk e) (by rw[q];exact Nat.not_lt.mpr I.ok.above)
  .exact a q
 have g:∀b o,X.s₀.heap.get? b=some o->b∈X.fs->b∉X.ex->∃J,h'.get? b=some { o with slots:=J }:=λb o e a f=>by
  obtain⟨J,S⟩:=I.base.slot b o e (I.ok.frf b a) a f;obtain⟨_,K,A,M⟩:=I.ok.funs.mem a;rw[e] at A;obtain rfl:=Zqi A;obtain⟨N,T⟩:=L b _ S M;exact⟨N,T⟩
 have j:∀c v,s.heap.IsCell c v->h'.IsCell c v:=λc v U=>by
  obtain⟨o,ho,M⟩:=U;obtain⟨J,e⟩:=L c o ho λvs q=>by simp_all
  exact⟨_,e,M⟩
 obtain⟨m,hn,hl⟩:=id I.loc;refine⟨I.ok,I.os,I.bare,⟨λb o e n a f=>?_,λb o e n a f=>g b o e a f,λb o e n f=>I.base.free b o e n f,λb o e f=>?_,I.base.tups,I.base.frzs,I.base.tbls⟩,⟨m,L.ns hn,λi y v h1 h2 h3=>?_⟩,λy c e=>?_,I.free,I.freeC,λp F=>?_,λb u e=>?_,I.len⟩
 .exact G.1 b o (trk b o (I.base.keep b o e n a f) (.inr ⟨O b o e f,w b o e a⟩))
 .by_cases a:b∈X.fs
  .obtain⟨J,q⟩:=g b o e a f;exact⟨_,q⟩
  .obtain⟨K,e'⟩:=I.base.there b o e f;exact⟨K,G.1 b K (trk b K e' (.inr ⟨O b o e f,w b o e a⟩))⟩
 .obtain⟨u,r,l⟩:=hl i y v h1 h2 h3;refine⟨u,r,?_⟩;rcases l with l|⟨k,c,e,z⟩
  .exact .inl l
  .exact .inr ⟨k,c,e,j c _ z⟩
 .obtain⟨v,q⟩:=I.cell y c e;exact⟨v,j c v q⟩
 .obtain⟨q1,q2,P,Q,q5⟩:=I.pin p F;refine⟨G.1 _ _ (trk _ _ q1 (.inr ⟨hp p F,λz=>?_⟩)),q2,P,Q,q5⟩;rcases Us.mp (I.stkSub _ z) with q|q
  .exact P q
  .exact Q q
 .refine(I.hok b u e).stay (λc v hc q=>G.1 c v (trk c v q (.inl ?_))) (λ_ q=>q) λ_ _ q=>q
  grind
abbrev Cx.inSuite (X:Cx)(x:Addr):Cx:={ X with A:=X.A.mark (some (.ref x)),calm:=false,xe:=λ_ _=>False }
def Inv.suite (I:Inv X Y Z H s)(x:Addr):Inv (X.inSuite x) Y Z H s:=
 ⟨⟨I.ok.mod,I.ok.kind,I.ok.glob,I.ok.blt,I.ok.above,I.ok.inj,I.ok.has,I.ok.cab,(),I.ok.frames,I.ok.stk,I.ok.exf,I.ok.bs,I.ok.bsz,I.ok.noex,I.ok.exfs,I.ok.funs,I.ok.frf⟩,I.os,I.bare,I.base,I.loc,I.cell,I.free,I.freeC,I.pin,I.hok,I.len⟩
def Inv.unsuite (I:Inv (X.inSuite x) Y Z H s)(ok:X.Ok):Inv X Y Z H s:=⟨ok,I.os,I.bare,I.base,I.loc,I.cell,I.free,I.freeC,I.pin,I.hok,I.len⟩
theorem SP.unsuite (h:SP (X.inSuite x) Y D f s')(ok:X.Ok):SP X Y D f s':=by
 cases f with
 |next=>obtain⟨a,b,I,q⟩:=h;exact⟨a,b,I.unsuite ok,q⟩
 |brk=>obtain⟨a,b,I,q⟩:=h;exact⟨a,b,I.unsuite ok,q⟩
 |cont=>obtain⟨a,b,I,q⟩:=h;exact⟨a,b,I.unsuite ok,q⟩
 |ret u=>obtain⟨v,a,b,I,r,q⟩:=h;exact⟨v,a,b,I.unsuite ok,r,q⟩
def Tn {r:Ya}{c:Str}{C:Addr}{b₀:Stmt}{suite:List Stmt}{L j:Pos}{F:TS}{D:Ends}{e:Value}(a:X.stack=X.env::X.outer)(u:X.env.frame=some X.env.locals)(G:Exc X.K X.mg c C)(M:Gl X c)
 (hs:∀x,qI (X.inSuite x) (b₀::suite) F) (g:Z5 X Y Z (λO _ P=>O=.ref C/\F D Z P) e s) (Q:(c == ("__debug__" : Str))=false):
 YI X (noteFrame e X.env) (λ_ s₂=>YI X (setFlight e none) (λ_ s₃=>YI X (handleBy e X.env [.ExceptHandler (some (.Name c L)) none (b₀::suite) j]) (SP X Y D) r s₃) r s₂) r s:=by
 obtain⟨R,h₀,x,C',B,rfl,I,J,hp,⟨⟨t,v⟩,trk⟩,w,y⟩:=g;cases w;have i:=v;rw[a] at i;refine wpAny_looks_onW (I.ok.frames.trans (by rw[a])) u i λh₄ held₄ up₄=>(wpAny_landsW held₄ λh₅ fl₅ up₅=>?_);have n:=fl₅;rw[<- a] at n;have o:=up₄.trans up₅;have K:=I.flown J hp trk n o;refine wpAny_handleBy_cons (codeAny_handlers_test (Xh (K.suite x) M G.mgc (Iu K.kIn G.exc λtl N nm q bs hdct sn sub ab col dd k0 k1 k2 k3 k5 mN S hN U T=>?_) Q)) (by intro q;cases q);obtain⟨ob,A,p⟩:=fl₅.there;refine wpAny_excMatches_sub_self S A p (T.hasType PySem.F.excBase_ValueError.hasBase) (codeAny_handlers_suite (lands_againW fl₅ λh₆ fl₆ up₆=>?_));rw[<- a] at fl₆;exact Zc (hs x Y _ Z R D ((I.flown J hp trk fl₆ (o.trans up₆)).suite x) y) (λf s2 q=>q.unsuite I.ok) λ_ _ z=>z.elim
end
end L2
namespace L2.DL
section
variable {X:Cx}{E:XK}{m:Option Bool}
def xP.d {K:W.Frag}{a:YG->Res D}{b:YE}{H:Hp}{Q:VK}{E:XK}(h:x8 K a b H Q E):xP K a b H Q E:=by
 obtain⟨F,ds,c,e,n⟩:=h;exact⟨F,ds,c,e,n.mono (λ_ q=>q.new) λ_ _ q=>q⟩
theorem yr.d {P:Program}{w:World}{K:W.Frag}{mg:Ye}{a:Heap}{name:Str}{k:Nat}{ps:Yk}{b:YG->Res D}(c:yr P w K mg a name k ps (xP K b)):yr P w K mg a name k ps (x8 K b):=by
 obtain⟨f,e,F,r⟩:=c;exact⟨f,e,F.imp λ_ _ _ _ h=>xP.d h,r⟩
end
end L2.DL
namespace L2
def DA {P:Program}{w:World}{K:W.Frag}{mg:Ye}{c:Heap}{N:Yk}{g:Str}{b:Scope}{f:Addr}{h:Value}{A:Around}{a:List Env}{s:Shared}{H:Hp}{E:XK} :
 PassesOwn (model (jV (xA P w) P w K mg c N g b f h A a s H E).prog (jV (xA P w) P w K mg c N g b f h A a s H E).w) (jV (xA P w) P w K mg c N g b f h A a s H E).A (jV (xA P w) P w K mg c N g b f h A a s H E).env (jV (xA P w) P w K mg c N g b f h A a s H E).xe:=
 PassesOwn.leaving (Q₁:=λe i=>xA P w a H s E e i)
end L2
namespace L2.DL
def xV (H:Hp)(l:Addr):Hp:=λa=>if a=l then none else H a
def Tp:jk (xV H l) H:=λa o e=>by
 simp_all [xV]
def Tq:xV H l l=none:=by simp_all [xV]
def Tr (h:a≠l):xV H l a=H a:=by simp_all [xV]
def Iv (R:Res Out->Prop)(P:Nat->SD->Prop)(m:P 0 sd)(n:∀sd,P ds.length sd->R (.ok (.next sd)))
 (hs:∀(i:Nat) (x:D) (sd:SD),ds[i]? = some x->P i sd->(∃sd',(JQ tg x sd).bind b=.ok (.next sd')/\P (i+1) sd')\/∃c es,(JQ tg x sd).bind b=.ex c es/\R (.ex c es)):R (qY tg b ds sd):=by
 have h:∀(k i:Nat) (sd:SD),ds.length-i=k->i<=ds.length->P i sd->R (qY tg b (ds.drop i) sd):=by
  intro k
  induction k with
  |zero =>
   intro i sd e j p;have:i=ds.length:=()
   simp_all
  |succ k l =>
   intro i sd e j p;have a:i<ds.length:=()
   rw[Uu a];unfold qY y7;rcases hs i ds[i] sd () p with ⟨sd',f,g⟩|⟨c,es,f,g⟩
   .rw[f];exact l (i+1) sd' () a g
   .rwa [f]
 grind
section
variable {X:Cx}{pos:Pos}
def DB:D->D->YH
 | .lst a,.lst b=>if a.length+b.length<=sizeLine then some (.lst (a++b)) else none
 |_,_=>none
def Ts:fZ X (binaryOp .Add) DB:=xb.weak Gz λx y H Q h=>by
 obtain⟨F,d,e,z,c,id,i,hz,q⟩:=h;cases d with
 |lst a =>
  cases e with
  |lst b =>
   have hz:(if a.length+b.length<=sizeLine then some (D.lst (a++b)) else none)=some z:=hz
   split at hz
   .obtain rfl:=Zqi hz;obtain⟨l,j,rfl,m,f⟩:=id;obtain⟨n,ys,rfl,o,g⟩:=i;have r:=f.length;have s:=g.length;exact⟨l,n,j,ys,rfl,rfl,m.same c,o.same c,(),λp hp=>q p F _ (.keep c hp _) hp (Qg c hp) ⟨_,JM,f.append g⟩⟩
   simp_all
  |_=>exact J6 hz
 |_=>exact J6 hz
@[simp]def lL (a b:YG):DB (.lst a) (.lst b)=if a.length+b.length<=sizeLine then some (.lst (a++b)) else none:=rfl
end
end L2.DL
namespace L2
def vi (K:W.Frag)(x:Str)(st:Stmt):Prop:=∃f a,W.nsIn K mainGlobals x=some (some (.ref f))/\Fun K x x st f a
def vi.callee {P:Program}{w:World}{K:W.Frag}{h b:Heap}{mg:Ye}{x:Str}{st:Stmt}{k:Nat}{ps:Yk}{sp:Sp}(X:K.In h)(G:h.Ns mainGlobals mg)(d:vi K x st)
 (ok:∀{f:Addr} {c:FuncData},Fun K x x st f c->FnOk P w K mg b yp k f c ps sp)
 (j:∀(kV e l:Value) (m:Option Addr) (g ct:Value) (i:Yf),i.length=ps.length->bindArgs (W.fnOf x x (WD st) (QM st) (JV st) .none kV e l m g ct) ⟨i,[]⟩=pure (ps.zip i)):zn P w K mg b x k ps sp:=by
 obtain⟨f,c,a,F⟩:=d;exact⟨f,c,ok F,F.binds j,F.kp,W.mg_of X G a⟩
def vi.calleeX {P:Program}{w:World}{K:W.Frag}{h b:Heap}{mg:Ye}{x:Str}{st:Stmt}{k:Nat}{ps:Yk}{sp:Sp}(X:K.In h)(G:h.Ns mainGlobals mg)(d:vi K x st)
 (ok:∀{f:Addr} {c:FuncData},Fun K x x st f c->FnOk P w K mg b (xA P w) k f c ps sp)
 (j:∀(kV e l:Value) (m:Option Addr) (g ct:Value) (i:Yf),i.length=ps.length->bindArgs (W.fnOf x x (WD st) (QM st) (JV st) .none kV e l m g ct) ⟨i,[]⟩=pure (ps.zip i)):yr P w K mg b x k ps sp:=have ⟨f,c,a,F⟩:=d;⟨f,c,ok F,F.binds j,F.kp,W.mg_of X G a⟩
end L2
namespace L2.DL
def zt:YG->YH
 | [.int i]=>if Nat.ble i.natAbs.log2 1900 then some (.str (toString i)) else none
 |_=>none
section
variable {X:Cx}{E:XK}{tg e a b:Expr}{fe fa fb:FE}{lo hi:Option Expr}{p2 pos p:Pos}
def DC:qa X (.type "str") (wM X.K zt):=qa.weak Nk λl H Q c=>by
 obtain⟨F,ds,z,f,id,hz,q⟩:=c;unfold zt at hz
 split at hz
 .rename_i i
  split at hz
  .rename_i g;obtain rfl:=Zqi hz;obtain⟨m,n,h,j,id⟩:=jn.mp id;subst id h;exact⟨i,by rw[je.mp j],UJ (Nat.ble_eq.mp g) (by decide),q _ F H (.refl f) (jy.mpr rfl)⟩
  .exact J6 hz
 simp_all
end
structure ClsD (K:W.Frag)(mg:Ye)(c:Str)(C:Addr)(fs:Yk):Prop where
 ns:W.nsIn K mainGlobals c=some (some (.ref C))
 mgc:mg c=some (.ref C)
 cls:Cls K C
 no:∀f∈fs,vk K C f
def zS (f:Str):Yk->YG->YH
 |g::gs,d::ds=>if g=f then some d else zS f gs ds
 |_,_=>none
theorem Iw {K:W.Frag}{H:Hp}{f:Str}:∀{fs:Yk} {ds:YG} {a:YE} {d:D},jd K H ds a->fs.length=a.length->zS f fs ds=some d->∃x,(fs.zip a).lookup f=some x/\jf K H d x
 | [],ds,a,d,_,_,h=>J6 h
 |g::gs,[],a,d,i,l,h=>by
  simp_all [jd.nil_iff]
 |g::gs,e::ds,a,d,i,l,h=>by
  obtain⟨x,r,rfl,c,b⟩:=jn.mp i;unfold zS at h;rw[Vt];by_cases q:g=f
  .simp_all
  .rw[Ze q] at h;obtain⟨y,j,m⟩:=Iw b (by simpa using l) h
   grind
def qX (c f:Str):D->YH
 | .ins c' fs ds=>if c'=c then zS f fs ds else none
 |_=>none
section
variable {X:Cx}{E:XK}{e:Expr}{fe:FE}{pos:Pos}
def Z7 {c f:Str}{C:Addr}{fs:Yk}(k:ClsD X.K X.mg c C fs)(l:f∈fs)(m:QE X E e fe)(o:attributeBase e f X.env (eval e X.env)=eval e X.env:=by rfl):QE X E (.Attribute e f pos) (qV (qX c f) fe):=PE.weak (Nv m o) λZ H Q p=>by
 obtain⟨B,F,sd,r,n⟩:=p;refine⟨B,F,sd,r,(ja n).mono (λd s v t u b w=>?_) λ_ _ q=>q⟩;obtain⟨z,hz,q⟩:=jh s;cases d with
 |ins g y ds =>
  have h:(if g=c then zS f y ds else none)=some z:=hz;by_cases i:g=c
  .rw[Zd i] at h;subst i;obtain⟨a,M,A,N,rfl,j,G,I,J⟩:=jX.mp w;rw[k.ns] at j;cases j;obtain⟨x,K,L⟩:=Iw J I h;exact⟨a,C,A,_,x,rfl,b.fh _ _ G,k.cls,k.no f l,K,q _ t u b L⟩
  simp_all
 |_=>exact J6 hz
end
theorem Ix (f)(v):∀fs:List (Str×V),f∉fs.map (·.1)->qM f v fs=fs++[(f,v)]
 | [],_=>rfl
 | (g,x)::r,h=>by
  rw[Zl,Us,not_or] at h;show(if g=f then(g,v)::r else(g,x)::qM f v r)=_;rw[Ze (λz=>h.1 z.symm),Ix f v r h.2];rfl
def tI (K:W.Frag)(c:Str)(names:Yk)(g:FA):TS:=λT Z H=>∃B F sd x C j fs e b,RS K B F H sd Z /\ (∀(i:Nat) (p:Bool) (d:D),sd[i]? ≠ some (some (SV.own p d))) /\ Z[0]? = some (some (.ref x))/\B.H0 x=none/\F x=none/\W.nsIn K mainGlobals c=some (some (.ref C))/\H x=some (.ins C j (fs.zip e))/\fs.length=e.length/\(fs++names).Nodup/\(fs++names).length<900/\jd K F b e /\
 (g sd).need (λds=>∀f h a,Ext B.F0 B.H0 f h->f x=none->h x=some (.ins C j ((fs++names).zip a))->(fs++names).length=a.length->jd K f (b++ds) a->T.nx Z h) (XW K E0 B.F0 B.H0)
section
variable {X:Cx}{o e:Expr}{fe:FE}{g:FA}{pos pos':Pos}{ss:List Stmt}{c f:Str}{C:Addr}{fs names:Yk}
def Iy:qI X [] (tI X.K c [] jc):=qI.weak An λT Z H j=>by
 obtain⟨B,F,sd,x,C,l,fs,m,b,r,no,u,v,p,w,q,s,y,z,t,n⟩:=j;have n:∀h i a,Ext B.F0 B.H0 h i->h x=none->i x=some (.ins C l ((fs++[]).zip a))->(fs++[]).length=a.length->jd X.K h (b++[]) a->T.nx Z i:=n;simp at n;exact n F H m r.ext p q s t
def Bg (k:ClsD X.K X.mg c C fs)(I:f∈fs)(J:PE X o (yc 0))(K:QE X E0 e fe)(L:qI X ss (tI X.K c names g))(hs:swapsWith e (some (.Attribute o f pos')) pos.line X.env=pure false:=by rfl):
 qI X (.Assign [.Attribute o f pos'] e pos::ss) (tI X.K c (f::names) (J0 fe g)):=qI.weak (XN (Nw J K hs) L) λT Z H M=>by
 obtain⟨B,F,sd,x,m,w,b,i,p,r,no,y,z,N,s,A,E,O,P,Q,n⟩:=M;refine⟨B,F,sd,r,(ja n).mono (λd R v G H1 l S=>?_) λ_ _ q=>q.ext r.ext⟩;have U:m=C:=by
  rw[k.ns] at s;cases s;rfl
 subst U;have t:=l.hh _ _ A;have j:G x=none:=l.new x N (by rw[A];simp);have Y:(b.zip i).map (·.1)=b:=by rw[List.map_fst_zip ()]
 have hfn:f∉b:=by grind
 have ll:(b.zip i).length<1000:=by
  grind
 refine⟨.ref x,y,x,m,w,_,rfl,t,k.cls,k.no f I,ll,?_⟩;rw[Ix f v _ (by rwa [Y])];have ez:b.zip i++[(f,v)]=(b++[f]).zip (i++[v]):=by rw[List.zip_append E];rfl
 rw[ez];have h:=r.step l;refine⟨B,G,sd,x,m,w,b++[f],i++[v],p++[d],⟨⟨h.ext.ff,λa o e=>?_,λa o e=>?_,h.ext.new⟩,h.len,h.val,(),()⟩,no,y,z,j,s,JM,by simp[E],by simpa using O,by simpa using P,(jd.snoc (jd.same l.ff _ _ Q) S),(ja R).mono (λds n2 F2 H2 u e2 f2 q1 q2 q3=>?_) λ_ _ q=>q⟩
 .rw[JF (Kf e j)];exact h.ext.fh _ _ e
 .rw[JF (Kf e z)];exact h.ext.hh _ _ e
 .exact n2 F2 H2 u e2 f2 (by simpa using q1) (by simpa using q2) (by simpa using q3)
end
def sG (K:W.Frag)(c:Str)(names:Yk)(h:YG->Res YG):Sp:=λi H Q _=>∃F ds x C f g,jk F H/\i=.ref x::g/\jd K F ds g/\F x=none/\W.nsIn K mainGlobals c=some (some (.ref C))/\H x=some (.ins C f []) /\
 (h ds).need (λes=>∀a b e,Ext F (xV H x) a b->a x=none->b x=some (.ins C f (names.zip e))->names.length=e.length->jd K a es e->Q .non b) (XW K E0 F (xV H x))
def zM (n ar:Nat)(g:FA)(ds:YG):Res YG:=if ds.length+1=ar then g (none::Qm (n-1) ds) else .no
def z7 {K:W.Frag}{F H:Hp}{N:Yk}{ds:YG}{b:YE}{x:Addr}(s:jk F H)(h:jd K F ds b):
 RS K ⟨F,xV H x,λ_=>none⟩ F H (none::Qm N.length ds) (some (.ref x)::L2.start N b)/\∀(i:Nat) p d,(none::Qm N.length ds:SD)[i]? ≠ some (some (SV.own p d)):=by
 have a:=RS.start (N:=N) s h;have no:∀(i:Nat) p d,(none::Qm N.length ds:SD)[i]? ≠ some (some (SV.own p d)):=λi p d q=>by
  cases i with
  |zero=>cases q
  |succ i =>
   obtain⟨l,_,f,_,c,_⟩:=a.own q;obtain⟨o,g⟩:=c.has
   simp_all
 refine⟨⟨⟨.refl _,s,Tp,λ_ e _=>e⟩,by simp[a.len],λ{i d} q=>?_,λq=>Zn q (no _ _ _),λ_ q _ _=>Zn q (no _ _ _)⟩,no⟩;cases i with
 |zero=>cases q
 |succ i=>exact a.val q
section
variable {P:Program}{w:World}{K:W.Frag}{mg:Ye}{base:Heap}{x qual:Str}{st:Stmt}{f:Addr}{fd:FuncData}{N ps:Yk}{k:Nat}
def gF {c y:Str}{names:Yk}{g:FA}(F:Fun K x qual st f fd)(S:FnScope (y::N) ps (JV st))(m:names.Nodup)(o:names.length<900)
 (p:∀b A a s H E,Room k (A.deeper (envOfC qual (JV st) s.heap.objs.size f b))->qI (jV yp P w K mg base (y::N) qual (JV st) f b A a s H E).nox (QM st) (tI K c names g)):
 FnOk P w K mg base yp (k+1) f fd ps (sG K c names (zM (y::N).length ps.length g)):=by
 refine F.ok S (λq H Q E ⟨F,ds,x,C,l,j,_,e,i,_,_,_,n⟩=>?_) λb A a s H q Q E t ⟨F,ds,x,C,l,j,hs,e,i,u,v,z,n⟩=>⟨_,p b A a s H E t,?_⟩
 .unfold zM at n
  split at n
  .rename_i h;rw[e,<- h,Zu,i.length]
  .exact n.elim
 .subst e;unfold zM at n
  split at n
  .have es:L2.start (y::N) (.ref x::j)=some (.ref x)::L2.start N j:=by
    unfold L2.start;simp
   rw[es];obtain⟨r,no⟩:=z7 hs i;exact⟨_,F,_,x,C,l,[],[],[],r,no,rfl,Tq,u,v,z,rfl,m,o,.nil,n⟩
  .exact n.elim
end
def r8 (P:Program)(w:World)(K:W.Frag)(mg:Ye)(a:Heap)(c:Str)(names:Yk)(k:Nat)(ps:Yk)(e:YG->Res YG):Prop:=
 ∃C f b,ClsD K mg c C names/\Mk K C f/\FnOk P w K mg a yp k f b ps (sG K c names e)/\zF K b ps []
def Z8 (c:Str)(names:Yk)(a:YG->Res YG)(b:FA):FE:=λsd=>(b sd).bind λds=>(a ds).bind λes=>.ok (.ins c names es)
section
variable {X:Cx}{pos:Pos}
def Iz (M:r8 X.prog X.w X.K X.mg X.base c names k ps Fn)(A:Room (k+1) X.A)(E:Gl X c)(I:QA X E0 (e::es) fa)
 (m:(c == ("__debug__" : Str))=false:=by decide) (J:starEach (e::es) X.env=(false,eval e X.env)::starEach es X.env:=by rfl) (t:(backTo pos (starEach es X.env)).any (·.1)=false:=by rfl):
 QN X E0 (.Call (.Name c p) (e::es) [] pos) (Z8 c names Fn fa):=by
 obtain⟨C,f,fd,u,mk,F,b⟩:=M;refine PE.weak (N2 mk F A E u.mgc b .nil Cy I m J t) λZ H Q ⟨B,F,sd,r,n⟩=>⟨B,F,sd,r,(ja n).mono (λds K L j l h N x g nx j5 ne=>?_) λ_ _ q=>q⟩;have v:j x=none:=by
  cases q:j x with
  |none=>rfl
  |some o=>rw[h.fh _ _ q] at nx;cases nx
 have w:H x=none:=by
  cases q:H x with
  |none=>rfl
  |some o=>rw[h.hh _ _ q] at nx;cases nx
 have y:∀{G:Hp},jk G l->jk G (xV (upd (upd l g (.own x)) x (.ins C g [])) x):=λ{G} s a o q=>by
  have i:=s _ _ q
  rwa [Tr (Kf i nx),JF (Kf i nx),JF (Kf i j5)]
 have O:jk j (upd (upd l g (.own x)) x (.ins C g [])):=λa o q=>by
  have i:=h.fh _ _ q
  rwa [JF (Kf i nx),JF (Kf i j5)]
 have z:Ext F H j (xV (upd (upd l g (.own x)) x (.ins C g [])) x):=⟨h.ff,y h.fh,y h.hh,h.new⟩;rw[ZB];exact⟨j,ds,x,C,g,L,O,rfl,N,v,u.ns,JM,(ja K).mono (λes P R S T U Y h2 l2 i2=>⟨rfl,P x R S (z.trans U) w Y ⟨C,g,T,u.ns,h2,l2,i2⟩⟩) λ_ _ q=>q.ext z⟩
end
def I1 (K:W.Frag)(c a:Str)(fs:Yk)(st:Stmt):Prop:=∃C e b,W.nsIn K mainGlobals c=some (some (.ref C))/\Cls K C/\(∀f∈fs,vk K C f)/\Mk K C e/\Fun K "__init__" a st e b
def DE (F c:Hp):Prop:=∀a b,c a=some (.tup b)->F a=some (.tup b)
section
variable {K:W.Frag}{B:Bs}{F H F' H':Hp}{sd:SD}{Z: St}
def RS.frz1C (r:RS K B F H sd Z)(y:sd[i]? = some (some (.own p d))):∃F',jk F F'/\DE F F'/\RS K B F' H (sd.set i (~~~d)) Z:= by
 obtain⟨l,A,G,C,g,_⟩:=r.own y;obtain⟨o,e⟩:=g.has;have I:i<sd.length:=(Jc.mp y).1;have w:jk F (upd F l o):=Kz C o;have J:DE F (upd F l o):=λa U q=>by
  by_cases z:a=l
  .subst z;rw[JM] at q;obtain rfl:=Zqi q;cases d with
   |lst ds=>obtain⟨_,h,_⟩:=g;rw[e] at h;cases h
   |dct ks ds=>obtain⟨_,h,_⟩:=g;rw[e] at h;cases h
   |ins c fs ds=>obtain⟨_,_,_,_,h,_⟩:=g;rw[e] at h;cases h
   |_=>exact g.elim
  .rw[JF z] at q;exact q
 refine⟨upd F l o,w,J,⟨r.ext.ff.trans w,λb u q=>?_,r.ext.hh,λa t s=>?_⟩,by rw[UG,r.len],λ{j x} q=>?_,λ{j p x} q=>?_,λ{j k X Y d1 d2 m} n t s L=>?_⟩
 .by_cases z:b=l
  .subst z;rw[JM] at q;cases q;exact e
  .rw[JF z] at q;exact r.ext.fh _ _ q
 .have z:a≠l:=λz=>s (by rw[z];exact G);rw[JF z];exact r.ext.new a t s
 .by_cases z:i=j
  .subst z;obtain⟨f,_⟩:=Ko q;cases f;exact⟨_,A,g.frz e C⟩
  .rw[Qv z] at q;obtain⟨v,M,N⟩:=r.val q;exact⟨v,M,jf.same w _ _ N⟩
 .by_cases z:i=j
  .subst z;obtain⟨f,_⟩:=Ko q;cases f
  .rw[Qv z] at q;obtain⟨m,E,m2,O,P,Q⟩:=r.own q;have ne:m≠l:=λe=>r.apart z y q A (by rw[<- e];exact E);exact⟨m,E,m2,by rw[JF ne];exact O,P.ext w λu R=>R,Q⟩
 .have S:i≠j:=λz=>by subst z;obtain⟨f,_⟩:=Ko t;cases f
  have T:i≠k:=λz=>by subst z;obtain⟨f,_⟩:=Ko s;cases f
  rw[Qv S] at t;rw[Qv T] at s;exact r.apart n t s L
theorem RS.frzC:∀(is:Yj) {F:Hp} {sd:SD},RS K B F H sd Z -> ∃F',jk F F'/\DE F F'/\RS K B F' H (jU is sd) Z
 | [],F,sd,r=>⟨F,.refl _,λ_ _ q=>q,r⟩
 |i::is,F,sd,r=>by
  unfold jU
  split
  .rename_i p d h;obtain⟨n,c,e,f⟩:=r.frz1C h;obtain⟨g,j,l,m⟩:=RS.frzC is f;exact⟨g,c.trans j,λa b q=>e a b (l a b q),m⟩
  .exact RS.frzC is r
def gJ:D->Bool
 | .tup ds=>ds.all K2
 |d=>K2 d
def X6 (F H b:Hp):Hp:=λa=>match H a,b a with
 |none,some (.tup xs)=>some (.tup xs)
 |_,_=>F a
def Tt (s:jk F H)(g:jk F F1)(e:Ext F1 H F2 H2):Ext F H (X6 F H F2) H2:=by
 refine⟨λa o q=>?_,λa o q=>?_,e.hh,λa b c=>?_⟩
 .unfold X6;rw[s _ _ q];exact q
 .unfold X6 at q
  split at q
  .rename_i i f;obtain rfl:=Zqi q;exact e.fh _ _ f
  .exact e.hh _ _ (s _ _ q)
 .unfold X6;cases h:H a with
  |none=>exact Zn h c
  |some o=>exact b
def IA:D->Bool
 | .lst ds=>ds.all gJ
 |_=>false
def fL (is:Yj)(f:FE):FE:=λsd=>(f (jU is sd)).bare.bind λd=>if IA d then .ok d else .no
end
end L2.DL
namespace L2
open PySem
def JK (a:h.kind=.function:=by rfl)(b:h.isCoroutine=false:=by rfl)(c:h.isGenerator=false:=by rfl)(d:N.Nodup:=by decide +kernel)(e:N.take P.length=P:=by rfl)
 (f:∀x∈P,h.names.lookup x=some .local\/h.names.lookup x=some .cell:=by decide +kernel) (g:∀y∈h.names,y.2 ≠ .free:=by decide +kernel):FnScope N P h:=⟨a,b,c,d,e,f,g⟩
def qU (i:Nat)(a:X.N.Nodup)(b:X.N[i]? = some x:=by rfl)(c:yT X.env.scope x:=by trivial)(e:X.fn x=true\/X.env.scope.names.lookup x=some .local:=by trivial):PG X (.Name x pos) (KR i):=JZ a b c e
section
variable {p:Yf->Prop}
def rK (h:∀a,p [a]):∀b:Yf,b.length=1->p b:=λb e=>by
 obtain⟨a,rfl⟩:=List.length_eq_one_iff.mp e;exact h a
def mj (h:∀a b,p [a,b]):∀c:Yf,c.length=2->p c:=λc e=>by
 cases c with
 |nil=>simp_all
 |cons a c=>exact rK (p:=λc=>p (a::c)) (λb=>h a b) c (UL e)
def rJ (h:∀a b c,p [a,b,c]):∀f:Yf,f.length=3->p f:=λf e=>by
 cases f with
 |nil=>simp_all
 |cons a f=>exact mj (p:=λf=>p (a::f)) (λb c=>h a b c) f (UL e)
def mi (h:∀a b c d,p [a,b,c,d]):∀f:Yf,f.length=4->p f:=λf e=>by
 cases f with
 |nil=>simp_all
 |cons a f=>exact rJ (p:=λf=>p (a::f)) () f (UL e)
def p4 (h:∀a b c d e,p [a,b,c,d,e]):∀f:Yf,f.length=5->p f:=λf e=>by
 cases f with
 |nil=>simp_all
 |cons a f=>exact mi (p:=λf=>p (a::f)) () f (UL e)
end
end L2
namespace L2.DL
section
variable {X:Cx}{E:XK}{m:Option Bool}{pos:Pos}
def zK (f:FE)(tg:Tg):FS:=λsd=>(f sd).bind λd=>(JQ tg d sd).bind λsd'=>.ok (.next sd')
@[simp]def ri (f:FE)(tg:Tg)(sd:SD):zK f tg sd=(f sd).bind λd=>(JQ tg d sd).bind λsd'=>.ok (.next sd'):=rfl
def Tu (b:QE X E e fe)(c:QG X tg t)(hs:swapsWithSole [tg] e pos.line X.env=pure false:=by rfl)(f:swappedStores [tg] e X.env=pure none:=by rfl)
 (g:(assignEach [tg] X.env).map (·.2)=[assign tg X.env]:=by rfl):QS X E m (.Assign [tg] e pos) (zK fe t):=PS.weak (E9 b c hs f g) λT Z H h=>by
 obtain⟨B,F,sd,r,n⟩:=h;refine⟨B,F,sd,r,(ja n).mono (λd i v j l a o=>?_) λ_ _ q=>q.ext r.ext⟩;exact Xv (r.step a) o (ja i) λsd' s p _ u=>p s j l a.ff u
end
end L2.DL
namespace L2
section
variable {M:Model}{A:Around}{E:Ya}{s:Shared}{base:Heap}{e:Addr}{cls a0 fl:Value}
def Tv (w:base.StaysIn s.heap)(x:s.heap.FunFrames base l)(y:s.heap.TracedAtW base e cls a0 fl)
 (h:∀h' T,base.get? T=none->(∀b,b≠T->h'.get? b=s.heap.get? b)->(∃o j,s.heap.get? T=some o/\o.data=.fields j)->base.StaysIn h'->h'.FunFrames base l->(∃m,h'.TracedAtW base e cls a0 m)->Q Yt { s with heap:=h' }):wpAny M A (setFlight (.ref e) f) Q E s:=by
 obtain⟨B,j,T,C,F,r,G,t,u,p,v,g,c,H⟩:=y;have I:=(Jv.mp H).1;have i:∀b,b≠T->(s.heap.update T (Obj.mapFields (·.setIfInBounds 3 (f.elim Value.none λa=>rawInt a)))).get? b=s.heap.get? b:=λb n=>Heap.get?_update_other _ _ n.symm;have J:∀b o,s.heap.get? b=some o->(∀ws,o.data ≠ .fields ws)->b≠T:=λb o q n z=>by
  subst z;rw[g] at q;cases q;exact n _ c
 unfold setFlight;refine Za (wpAny_field r t u ?_);rw[Zd ()];refine wpAny_setField g c I (h _ T p i ⟨C,F,g,c⟩ (λb o q=>(i b λz=>by rw[z,p] at q;cases q).trans (w b o q)) (x.of_keeps λb o q n=>⟨o,(i b (J b o q n)).trans q,rfl⟩) ⟨f.elim Value.none λa=>rawInt a,B,j,T,_,_,(i e v.symm).trans r,G,t,u,p,v,Heap.get?_update_self _ g (Obj.isFreed_of_fields (Obj.data_mapFields c _)),Obj.data_mapFields c _,?_⟩)
 simp_all
def Tw (a:A.frames=some (env::outer))(f:env.frame=some L)(i:base.StaysIn s.heap)(g:base.get? e=none)(j:s.heap.FunFrames base (env::outer))(h:s.heap.TracedAtW base e cls a0 fl)
 (l:∀h',Heap.FlyingW base outer e cls a0 h'->s.heap.UpToSlots h'->Q Yt { s with heap:=h' }):wpAny M A (leaving env (.ref e)) Q E s:=by
 by_cases c:fl=rawInt L
 .subst c;exact Za (wpAny_noteFrame_againW f h (wpAny_setFlight_noneW i j h λh' k1 k2 k3 v=>l h' ⟨k1,g,k2.2.2,k3⟩ λb o q n=>⟨o.slots,v b o q n⟩))
 .obtain⟨K,N,T,O,P,w,⟨x,y⟩,m,B,R,S,p,r,t⟩:=h;subst x;have C:=(Jv.mp t).1;have u:∀b,b≠T->(s.heap.update T (Obj.mapFields (·.setIfInBounds 3 Value.none))).get? b=s.heap.get? b:=λb n=>Heap.get?_update_other _ _ n.symm;have F:∀b o,s.heap.get? b=some o->(∀ws,o.data ≠ .fields ws)->b≠T:=by grind
  unfold leaving noteFrame;simp only[f];refine Za (Za (wpAny_field w m B (Za (wpAny_field p r t ?_))));rw[Ze (λz=>c (Ys.mp z))];exact Za (wpAny_setField p r C (wpAny_newEntryW a (j.of_keeps ()) f () (λb o q=>(u b λz=>()).trans (i b o q)) g m () y λh' ⟨G,H,I,J⟩=>(l h' ⟨G,g,H.2.2,I⟩ λb o q n=>J b o ((u b (F b o q n)).trans q) n)))
end
structure FlyAny (l:List Env)(h₀:Heap)(H:Hp)(x C:Addr)(B h:Heap):Prop where
 st:B.StaysIn h
 no:B.get? x=none
 fr:h.FunFrames B l
 tr:∃t fl,h.TracedAtW B x (.ref C) (.ref t) fl
 trk:∀b o,h.get? b=some o->(H b≠none\/((∃u,h₀.get? b=some u)/\b∉xf l))->B.get? b=some o
structure ThrownA (X:Cx)(E:XK):Prop where
 on:∀(Y:Yb) (Z: St) (H:Hp) (s:Shared) (x C:Addr) (B:Heap),Inv X Y Z H s->FlyAny X.stack X.s₀.heap H x C B s.heap->E (.ref C) none H->X.xe (.ref x) s
def Tx {P:Program}{w:World}{K:W.Frag}{mg:Ye}{g:Heap}{N:Yk}{h:Str}{a:Scope}{f:Addr}{l:Value}{A:Around}{c:List Env}{s:Shared}{H:Hp}{E:XK}:ThrownA (jV (xA P w) P w K mg g N h a f l A c s H E) E:=by
 refine⟨λY Z q s' x C B I i n=>?_⟩;obtain⟨t,m,o⟩:=i.tr;exact Tw I.ok.frames rfl i.st i.no i.fr o λh' j p=>D9 I (λb u e=>⟨u,e⟩) j p i.trk n
theorem IB {h h' B a:Heap}(k0:∀b,B.get? b=none->a.get? b=none):∀{l:List Env},(∀b∈xf l,h'.get? b=h.get? b)->h.FunFrames B l->h'.FunFrames a l
 | [],_,_=>trivial
 |env::rest,k,⟨g1,⟨L,o,g2,g3,g4,g5⟩,r⟩=>by
  have c:L∈xf (env::rest):=by
   unfold xf;rw[UX,g2];exact Zqs
  refine⟨g1,⟨L,o,g2,k0 L g3,(k L c).trans g4,g5⟩,IB k0 (λb e=>k b ?_) r⟩
  simp_all [xf]
def Tz {X:Cx}{E:XK}{f:Scope}{N:Yk}{cl:List (Str×Addr)}{C:Addr}{s:Shared}{H:Hp}{L:Yl}(A:X.stack=X.env::X.outer)(hfr:X.env.frame=some X.env.locals)(M:X.ex=[])(T:ThrownA X E)(at_:WE X C s H L):Thrown (JJ X f N cl C s H L) E:=by
 obtain⟨F,Z0,I0,O,hC⟩:=at_;refine⟨λY Z H' s' h₀ x D B I h0 fl hE=>?_⟩;obtain⟨⟨t,fly⟩,trk⟩:=fl;have P:Heap.FlyingW B (X.env::X.outer) x (.ref D) (.ref t) s'.heap:=by rw[<- A];exact fly
 have Q:noteFrame (.ref x) (compEnvC f cl C X.env)=noteFrame (.ref x) X.env:=rfl;show YI X (noteFrame (.ref x) (compEnvC f cl C X.env)) (λ_ s''=>XS X C (.ref x) s'') (XS X C) s';rw[Q];refine wpAny_looks_onW (I0.ok.frames.trans (by rw[A])) hfr P λh1 R up1=>?_;obtain⟨m,hm,_⟩:=id I.loc;have S:h1.Ns C m:=up1.ns hm;refine⟨m,S,λG i cenv _=>?_⟩;obtain⟨hc1,hc2,hc3,hc4⟩:=R;obtain⟨oC,es,ep,hoC,hdC,_⟩:=id S;have nC:∀b o ws,h1.get? b=some o->o.data=.fields ws->b≠C:=by grind
 have g:∀b o,s.heap.get? b=some o->b≠C:=λb o q=>Zi (Zg (Zk q) hC);have U:∀b∈xf X.stack,b≠C:=λb a=>by
  obtain⟨_,J,j,_⟩:=I.ok.funs.mem a;exact g b J j
 obtain⟨p,hB'⟩:∃p,W.hideAll B [C]=p:=⟨_,rfl⟩;have inB:∀b o,p.get? b=some o->B.get? b=some o:=λb o q=>by rw[<- hB'] at q;exact W.of_hideAll _ q
 have toB:∀b o,B.get? b=some o->b≠C->p.get? b=some o:=λb o q n=>by grind[W.hideAll_get]
 have K:∀b,B.get? b=none->p.get? b=none:=λb q=>by
  cases z:p.get? b with
  |none=>rfl
  |some o=>rw[inB b o z] at q;cases q
 have nBC:∀b o,p.get? b=some o->b≠C:=λb o q z=>by
  grind[W.hideAll_none]
 have st2:p.StaysIn G:=λb o q=>(i.2 b (nBC b o q)).trans (hc1 b o (inB b o q));have fr2:G.FunFrames p X.stack:=IB K (λb a=>i.2 b (U b a)) (by rw[A];exact hc3);obtain⟨oe,vs,T0,oT,ts,g1,g2,g3,g4,g5,g6,g7,g8,g9⟩:=hc4;have tr2:G.TracedAtW p x (.ref D) (.ref t) (rawInt X.env.locals):=⟨oe,vs,T0,oT,ts,(i.2 x (nC _ _ _ g1 g3)).trans g1,g2,g3,g4,K T0 g5,g6,(i.2 T0 (nC _ _ _ g7 g8)).trans g7,g8,g9⟩;unfold PySem.passOn;refine Za (wpAny_field (s:={ s' with heap:=G }) ((i.2 x (nC _ _ _ g1 g3)).trans g1) g3 g4 ?_);rw[Ze ()];refine Za (Tv (s:={ s' with heap:=G }) st2 fr2 tr2 λh3 T' t1 t2 t3 st3 fr3 tr3=>wpAny_throw ?_);have K1:∀b o,B.get? b=some o->b≠C->h3.get? b=some o:=λb o q n=>st3 b o (toB b o q n);have nex:∀b u,X.s₀.heap.get? b=some u->b∉L:=λb u q a=>by
  rcases(O b a).2.2.2.1 with z|z
  .rw[M] at z;cases z
  .exact Zn (Zk q) (Nat.not_lt.mpr z)
 have w:∀b o,s.heap.get? b=some o->b∈xf X.stack->b∉L->∃sl,h3.get? b=some { o with slots:=sl }:=λb o q a l=>by
  obtain⟨_,J,j,hd⟩:=I.ok.funs.mem a;have j:s.heap.get? b=some J:=j;rw[q] at j;obtain rfl:=Zqi j;obtain⟨sl,e1⟩:=I.base.slot b o q (I.ok.frf b a) a l;obtain⟨sl',e2⟩:=up1 b _ e1 hd;have e3:G.get? b=some { o with slots:=sl' }:=(i.2 b (U b a)).trans e2;refine⟨sl',(t2 b λz=>?_).trans e3⟩;obtain⟨oz,wz,z1,z2⟩:=t3;rw[<- z] at z1;have z1:G.get? b=some oz:=z1;rw[e3] at z1;cases z1;exact hd _ z2
 refine T.on F Z0 H' _ x D p (I0.call' (s':={ s' with heap:=h3 }) (ch:=L) I.os ⟨λb o e n a l=>?_,λb o e n a l=>w b o e a l,λb o e n l=>I.base.free b o e n l,λb o e l=>?_,I.base.tups,I.base.frzs,I.base.tbls⟩ (λb u e=>?_) I.bare λb a=>⟨(O b a).2.2.2.1,(O b a).2.1,(O b a).2.2.2.2.1,(O b a).2.2.2.2.2⟩) ⟨st3,K x hc2,fr3,?_,λb o e c=>?_⟩ hE
 .exact K1 b o (trk b o (I.base.keep b o e n a l) (.inr ⟨h0 b o e l,a⟩)) (g b o e)
 .by_cases a:b∈xf X.stack
  .obtain⟨sl,q⟩:=w b o e a l;exact⟨_,q⟩
  .obtain⟨J,e'⟩:=I.base.there b o e l;exact⟨J,K1 b J (trk b J e' (.inr ⟨h0 b o e l,a⟩)) (g b o e)⟩
 .refine(I.hok b u e).stay (λc v hc q=>K1 c v (trk c v q (.inl ?_)) ?_) (λ_ q=>q) λ_ _ q=>q
  .rcases hc with z|z
   .rw[z,e];simp
   .rw[z];simp
  .intro z;have fC:H' C=none:=I.free;rcases hc with y|y
   .rw[<- y,z,fC] at e;exact J6 e
   .rw[z,fC] at y;exact J6 y
 .obtain⟨fl',q⟩:=tr3;exact⟨t,fl',q⟩
 .have key:∃r,B.get? b=some r/\b≠C:=by
   rcases c with c|⟨⟨u,hu⟩,a⟩
   .cases q:H' b with
    |none=>exact Zn q c
    |some u =>
     obtain⟨r,h2'⟩:=(I.hok b u q).has;exact⟨r,trk b r h2' (.inl c),λz=>by rw[z] at q;rw[show H' C=none from I.free] at q;exact J6 q⟩
   .obtain⟨o1,e1⟩:=I0.base.there b u hu (by rw[M];simp);obtain⟨r,e2⟩:=I.base.there b o1 e1 (nex b u hu);exact⟨r,trk b r e2 (.inr ⟨h0 b o1 e1 (nex b u hu),a⟩),g b o1 e1⟩
  obtain⟨r,k1,k2⟩:=key;have:=K1 b r k1 k2;have e:=e;rw[e] at this;cases this;exact toB b o k1 k2
end L2
namespace L2.DL
def T1 (N)(cap)(e:X.calm=true)(b:QP scope X.env N X.N cap=true)(g:QI X E tg iter fi)
 (i:∀c C s H a,QG (JJ X scope N c C s H a) tg t) (j:∀c C s H a,WE X C s H a->QE (JJ X scope N c C s H a) E elt f) (hs:∀x,foldedSetIterable iter X.env x=pure x:=by intro _;rfl):
 QN X E (.ListComp elt [⟨tg,iter,[],0⟩] scope pos) (Qk cap fi t f):=PE.weak (Fk N cap e b g i j hs) λ_ _ _ h=>CZ h
abbrev HP:=List (Addr×D)
def jz:HP->Addr->YH
 | [],_=>none
 |p::r,a=>if a=p.1 then some p.2 else jz r a
def Ww:HP->Addr->D->HP
 | [],_,_=>[]
 |p::r,a,d=>if a=p.1 then(p.1,d)::r else p::Ww r a d
def IC (a):jz [] a=none:=rfl
theorem V5 (p)(r:HP)(a):jz (p::r) a=if a=p.1 then some p.2 else jz r a:=rfl
theorem DF:∀{hp:HP} {a:Addr} {d:D} b,jz hp a≠none->jz (Ww hp a d) b=if b=a then some d else jz hp b
 | [],a,d,b,h=>Zn rfl h
 |p::r,a,d,b,h=>by
  unfold Ww;by_cases z:a=p.1
  .simp_all [V5]
  .rw[Ze z,V5,V5];rw[V5,Ze z] at h;rw[DF b h]
   grind
structure RT (K:W.Frag)(B B':Bs)(F H:Hp)(sd:SD)(hp:HP)(Z: St):Prop where
 rs:RS K B' F H sd Z
 f0:B'.F0=B.F0
 pa:B'.pa=B.pa
 out:∀a,jz hp a=none->B'.H0 a=B.H0 a
 obj:∀a d,jz hp a=some d->B.F0 a=none/\B.H0 a=none/\yF K F B'.H0 a d
section
variable {K:W.Frag}{B B':Bs}{F F' H H':Hp}{sd sd':SD}{hp:HP}{Z Z':St}{a:Addr}{d:D}
def RT.sub (t:RT K B B' F H sd hp Z):jk B.H0 B'.H0:=λa o e=>by
 cases q:jz hp a with
 |none=>rwa [t.out a q]
 |some d=>rw[(t.obj a d q).2.1] at e;exact J6 e
def RT.ext0 (t:RT K B B' F H sd hp Z)(e:Ext B'.F0 B'.H0 F2 H2):Ext B.F0 B.H0 F2 H2:=
 ⟨by rw[<- t.f0];exact e.ff,e.fh,t.sub.trans e.hh,λa c b=>e.new a (by rwa [t.f0]) λz=>b (Qg t.sub z)⟩
def RT.go (t:RT K B B' F H sd hp Z)(s:jk F F')(r:RS K B' F' H' sd' Z'):RT K B B' F' H' sd' hp Z':=
 ⟨r,t.f0,t.pa,t.out,λa d h=>let ⟨h1,h2,h3⟩:=t.obj a d h;⟨h1,h2,h3.ext s λ_ q=>q⟩⟩
def RT.free (t:RT K B B' F H sd hp Z)(h:jz hp a=some d):F a=none:=have ⟨c,e,b⟩:=t.obj a d h;have ⟨o,f⟩:=b.has;t.rs.ext.new a (by rwa [t.f0]) ()
def RT.lies (t:RT K B B' F H sd hp Z)(h:jz hp a=some d):yF K F H a d:=(t.obj a d h).2.2.ext (.refl _) λo q=>t.rs.ext.hh _ _ q
def RT.no_own (t:RT K B B' F H sd hp Z)(h:jz hp a=some d)(b:B'.H0 l=none):l≠a:=λz=>by
 have ⟨o,c⟩:=(t.obj a d h).2.2.has
 simp_all
def RT.ret (t:RT K B B' F H sd hp Z)(h:AG K m B Q d):AG K m B' Q d:=by
 have g:yo K B.F0 B.H0 Q d->yo K B'.F0 B'.H0 Q d:=λh v c f e i=>h v c f (t.ext0 e) i;have j:xY K B.F0 B.H0 Q d->xY K B'.F0 B'.H0 Q d:=λh l c f e n p o=>h l c f (t.ext0 e) (Qg t.sub n) p o;cases m with
 |none =>
  have h:bW K B.F0 B.H0 Q d:=h;show bW K B'.F0 B'.H0 Q d
  grind[bW]
 |some b =>
  cases b with
  |true=>exact j h
  |false=>exact g h
def RT.xw (t:RT K B B' F H sd hp Z)(h:XW K E B.F0 B.H0 c fs):XW K E B'.F0 B'.H0 c fs:=λb a f g e q=>h b a f g (t.ext0 e) q
def RT.chg (t:RT K B B' F H sd hp Z)(f:jz hp a=some d)(h:yF K F (upd H a o) a d'):RT K B ⟨B'.F0,upd B'.H0 a o,B'.pa⟩ F (upd H a o) sd (Ww hp a d') Z:= by
 have m:=t.free f;have ⟨n,r,L⟩:=t.obj a d f;have g:jz hp a≠none:=by simp_all
 refine⟨⟨⟨t.rs.ext.ff,C6 o t.rs.ext.fh m,λb u e=>?_,λb s v=>?_⟩,t.rs.len,t.rs.val,λ{i p e} q=>?_,t.rs.apart⟩,t.f0,t.pa,λb c=>?_,λb e c=>?_⟩
 .have e:upd B'.H0 a o b=some u:=e;by_cases z:b=a
  .simp_all [JM]
  .rw[JF z] at e ⊢;exact t.rs.ext.hh _ _ e
 .by_cases z:b=a
  .rwa [z]
  .exact t.rs.ext.new b s λy=>v (by show upd B'.H0 a o b=none;rwa [JF z])
 .obtain⟨l,w,j,x,A,C⟩:=t.rs.own q;have ne:=t.no_own f j;exact⟨l,w,(JF ne).trans j,x,A.ext (.refl _) (λu E=>by rwa [JF ne]),λz=>(C z).mono λu E=>by rwa [JF ne]⟩
 .rw[DF b g] at c;by_cases z:b=a
  .simp_all
  .rw[Ze z] at c;show upd B'.H0 a o b=B.H0 b;rw[JF z];exact t.out b c
 .rw[DF b g] at c;by_cases z:b=a
  .rw[Zd z] at c;obtain rfl:=Zqi c;subst z;exact⟨n,r,h.ext (.refl _) λu q=>by simp_all [JM]⟩
  .rw[Ze z] at c;have ⟨G,I,J⟩:=t.obj b e c;exact⟨G,I,J.ext (.refl _) λu q=>by show upd B'.H0 a o b=some u;rwa [JF z]⟩
def zx (F b:Hp)(hp:HP):Hp:=λa=>match jz hp a with
 |some _=>b a
 |none=>F a
theorem RT.frz (t:RT K B B' F H sd hp Z):∃h,jk F h/\RS K B h H sd Z /\ ∀a d,jz hp a=some d->jf K h d (.ref a):=by
 have s:∀b d,jz hp b=some d->zx F B'.H0 hp b=B'.H0 b:=λb d e=>by grind[zx]
 have g:∀b,jz hp b=none->zx F B'.H0 hp b=F b:=λb e=>by grind[zx]
 have f:jk F (zx F B'.H0 hp):=λb u e=>by
  cases q:jz hp b with
  |none=>rwa [g b q]
  |some d=>rw[t.free q] at e;exact J6 e
 refine⟨zx F B'.H0 hp,f,⟨⟨?_,λb u e=>?_,t.sub.trans t.rs.ext.hh,λb E j=>?_⟩,t.rs.len,λq=>let ⟨v,j,h2⟩:=t.rs.val q;⟨v,j,jf.same f _ _ h2⟩,λ{i p e} q=>?_,t.rs.apart⟩,λb e m=>?_⟩
 .rw[<- t.f0];exact t.rs.ext.ff.trans f
 .cases q:jz hp b with
  |none=>rw[g b q] at e;exact t.rs.ext.fh _ _ e
  |some d=>rw[s b d q] at e;exact t.rs.ext.hh _ _ e
 .cases q:jz hp b with
  |none=>rw[g b q];exact t.rs.ext.new b (by rwa [t.f0]) (by rwa [t.out b q])
  |some d=>exact Zn (t.obj b d q).2.1 j
 .have ⟨l,w,n,G,x,y⟩:=t.rs.own q;have A:jz hp l=none:=by
   cases z:jz hp l with
   |none=>rfl
   |some I=>exact Zn rfl (t.no_own z n)
  exact⟨l,w,Qg t.sub n,by rwa [g l A],x.ext f λ_ q=>q,λz=>by rw[<- t.pa];exact y z⟩
 .have ⟨J,L,r⟩:=t.obj b e m;have ⟨o,C⟩:=r.has;refine jf.same (λc u q=>?_) _ _ (r.frz C (t.free m));by_cases z:c=b
  .simp_all [JM]
  .rw[JF z] at q;exact f _ _ q
end
mutual
def der (hp:HP):D->D
 | .adr a=>match jz hp a with
  |some d=>d
  |none=>.adr a
 | .lst ds=>.lst (zT hp ds)
 | .non=>.non
 | .bl b=>.bl b
 | .int i=>.int i
 | .str x=>.str x
 | .ty n=>.ty n
 | .scr ns=>.scr ns
 | .tup ds=>.tup ds
 | .dct ks ds=>.dct ks ds
 | .ins c fs ds=>.ins c fs ds
 | .exc c=>.exc c
 | .ucl c=>.ucl c
 | .dcf ks ds=>.dcf ks ds
 | .pin a d=>.pin a d
def zT (hp:HP):YG->YG
 | []=>[]
 |d::ds=>der hp d::zT hp ds
end
theorem T3 (hp)(a):der hp (.adr a)=match jz hp a with
 |some d=>d
 |none=>.adr a:=by rw[der]
def T4 (hp):zT hp []=[]:=by rw[zT]
section
variable {K:W.Frag}{B:Bs}{F H:Hp}{sd:SD}{hp:HP}{Z: St}
mutual
theorem jf.der (f:∀a d,jz hp a=some d->jf K F d (.ref a)):∀d v,jf K F d v->jf K F (der hp d) v
 | .adr a,v,h=>by
  obtain rfl:=jL.mp h
  grind[T3]
 | .lst ds,v,h=>have ⟨a,e,g,i,j⟩:=jm.mp h;jm.mpr ⟨a,e,g,i,jd.der f ds e j⟩
 | .non,v,h=>by rwa [L2.DL.der]
 | .bl b,v,h=>by rwa [L2.DL.der]
 | .int b,v,h=>h
 | .str b,v,h=>by rwa [L2.DL.der]
 | .ty b,v,h=>h
 | .scr b,v,h=>by rwa [L2.DL.der]
 | .tup b,v,h=>by rwa [L2.DL.der]
 | .dct b c,v,h=>h
 | .ins b c d,v,h=>by rwa [L2.DL.der]
 | .exc b,v,h=>by rwa [L2.DL.der]
 | .ucl b,v,h=>by rwa [L2.DL.der]
 | .dcf b c,v,h=>by rwa [L2.DL.der]
 | .pin b c,v,h=>by rwa [L2.DL.der]
theorem jd.der (c:∀a d,jz hp a=some d->jf K F d (.ref a)):∀ds b,jd K F ds b->jd K F (zT hp ds) b
 | [],b,h=>by rwa [T4]
 |d::ds,b,h=>have ⟨x,r,e,f,g⟩:=jn.mp h;jn.mpr ⟨x,r,e,jf.der c d x f,jd.der c ds r g⟩
end
def derI (hp:HP):Yj->SD->SD
 | [],sd=>sd
 |i::is,sd=>derI hp is (match sd[i]? with
  |some (~~~d)=>sd.set i (~~~(der hp d))
  |_=>sd)
def Bh {α: Type}{l:List α}{a:α}(h:l[i]? = some a):l.set i a=l:=by
 apply List.ext_getElem?;intro j;by_cases z:i=j
 .subst z;rw[UO (Jc.mp h).1,h]
 .rw[Zx z]
def RS.reval (r:RS K B F H sd Z)(a:sd[i]? = some (~~~d))(h:∀v,jf K F d v->jf K F d' v):RS K B F H (sd.set i (~~~d')) Z:= by
 have ⟨v,b,c⟩:=r.val a;have:=r.setVal (i:=i) (h v c)
 rwa [Bh b] at this
theorem RS.derI (b:∀a d,jz hp a=some d->jf K F d (.ref a)):∀is {sd:SD},RS K B F H sd Z -> RS K B F H (derI hp is sd) Z
 | [],sd,r=>r
 |i::is,sd,r=>by
  unfold L2.DL.derI
  split
  .rename_i d h;exact RS.derI b is (r.reval h λv q=>jf.der b d v q)
  .exact RS.derI b is r
end
inductive Out2 where
 |next (sd:SD) (hp:HP)|ret (d:D)|brk (sd:SD) (hp:HP)|cont (sd:SD) (hp:HP)
def vj (K:W.Frag)(m:Option Bool)(B:Bs)(F:Hp)(T:Ends):Out2->Prop
 | .next sd hp=>∀Z c a b,jk F a->RT K B c a b sd hp Z -> T.nx Z b
 | .brk sd hp=>∀Z c a b,jk F a->RT K B c a b sd hp Z -> T.bk Z b
 | .cont sd hp=>∀Z c a b,jk F a->RT K B c a b sd hp Z -> T.ct Z b
 | .ret d=>AG K m B T.rt d
abbrev qL:=SD->HP->Res Out2
def v0 (K:W.Frag)(E:XK)(m:Option Bool)(g:qL):TS:=λT Z H=>∃B a F sd hp,RT K B a F H sd hp Z /\ (g sd hp).need (vj K m B F T) (XW K E B.F0 B.H0)
abbrev w5 (X:Cx)(E:XK)(m:Option Bool)(st:Stmt)(g:qL):Prop:=PS X st (v0 X.K E m g)
abbrev zc (X:Cx)(E:XK)(m:Option Bool)(st:List Stmt)(g:qL):Prop:=qI X st (v0 X.K E m g)
def hX (hp:HP):Out->Out2
 | .next sd=>.next sd hp
 | .ret d=>.ret d
 | .brk sd=>.brk sd hp
 | .cont sd=>.cont sd hp
section
variable {K:W.Frag}{E:XK}{m:Option Bool}{B B':Bs}{F F' H:Hp}{T:Ends}{sd:SD}{hp:HP}{Z: St}
def vj.mono (h:vj K m B F T o)(e:jk F F'):vj K m B F' T o:=by
 cases o with
 |next sd hp=>exact λZ a b c s r=>h Z a b c (e.trans s) r
 |brk sd hp=>exact λZ a b c s r=>h Z a b c (e.trans s) r
 |cont sd hp=>exact λZ a b c s r=>h Z a b c (e.trans s) r
 |ret d=>exact h
def RT.lift (t:RT K B B' F H sd hp Z)(h:vj K m B F T (hX hp o)):zC K m B' F T o:=by
 cases o with
 |next sd'=>exact λa F' b s r=>h a B' F' b s (t.go s r)
 |brk sd'=>exact λa F' b s r=>h a B' F' b s (t.go s r)
 |cont sd'=>exact λa F' b s r=>h a B' F' b s (t.go s r)
 |ret d=>exact t.ret h
end
section
variable {X:Cx}{E:XK}{m:Option Bool}{st:Stmt}{sts:List Stmt}{g:FS}{g1 g2:qL}{pos pos':Pos}{o i e:Expr}{fo fi fv:FE}
def vn (g:FS):qL:=λsd hp=>(g sd).bind λo=>.ok (hX hp o)
def Bi (h:QS X E m st g):w5 X E m st (vn g):=PS.weak h λT Z H ⟨B,a,F,sd,hp,t,n⟩=>⟨a,F,sd,t.rs,(ja n).mono (λo b=>t.lift b) λ_ _ q=>t.xw q⟩
def DG:qL:=λsd hp=>.ok (.next sd hp)
def Bj (g1 g2:qL):qL:=λsd hp=>(g1 sd hp).bind λo=>match o with
 | .next sd' hp'=>g2 sd' hp'
 |o=>.ok o
def T5:zc X E m [] DG:=qI.weak An λT Z H ⟨B,a,F,sd,hp,t,n⟩=>n Z a F H (.refl _) t
def Bk (h:w5 X E m st g1):zc X E m [st] g1:=Cf h
def T6 (b:w5 X E m st g1)(c:zc X E m sts g2):zc X E m (st::sts) (Bj g1 g2):=qI.weak (XN b c) λT Z H f=>by
 obtain⟨B,h,F,sd,hp,t,n⟩:=f;refine⟨B,h,F,sd,hp,t,(ja n).mono (λo a=>?_) λ_ _ q=>q⟩;cases o with
 |next sd' hp'=>exact λr j l u s p=>⟨B,j,l,sd',hp',p,a.mono (λo q=>q.mono s) λ_ _ q=>q⟩
 |ret d=>exact a
 |brk sd' hp'=>exact a
 |cont sd' hp'=>exact a
abbrev vK:=SD->HP->Res Bool
def m5 (K:W.Frag)(E:XK)(f:vK):TT:=λZ H Q=>∃B a F sd hp,RT K B a F H sd hp Z /\ (f sd hp).need (vF F H Q) (XW K E F H)
abbrev sH (X:Cx)(E:XK)(e:Expr)(f:vK):Prop:=PT X e (m5 X.K E f)
def zL (c:vK)(g1 g2:qL):qL:=λsd hp=>(c sd hp).bind λb=>if b then g1 sd hp else g2 sd hp
def kc (p:sH X E c fc)(r:zc X E m a g1)(s:zc X E m b g2):w5 X E m (.If c a b pos) (zL fc g1 g2):=PS.weak (Ap p r s) λT Z H u=>by
 obtain⟨B,h,F,sd,hp,t,n⟩:=u;refine⟨B,h,F,sd,hp,t,(ja n).mono (λb j l v f=>?_) λ_ _ q=>q.ext (t.ext0 t.rs.ext)⟩;cases b with
 |true=>exact⟨B,h,l,sd,hp,t.go f.ff (t.rs.step f),j.mono (λ_ q=>q.mono f.ff) λ_ _ q=>q⟩
 |false=>exact⟨B,h,l,sd,hp,t.go f.ff (t.rs.step f),j.mono (λ_ q=>q.mono f.ff) λ_ _ q=>q⟩
def qZ (b:D->qL):YG->qL
 | [],sd,hp=>.ok (.next sd hp)
 |x::xs,sd,hp=>(b x sd hp).bind λo=>match o with
  | .next sd' hp'=>qZ b xs sd' hp'
  | .cont sd' hp'=>qZ b xs sd' hp'
  | .brk sd' hp'=>.ok (.next sd' hp')
  | .ret d=>.ok (.ret d)
def KF (tg:Tg)(b:qL)(x:D):qL:=λsd hp=>(JQ tg x sd).bind λs=>b s hp
def Wx (it:FA)(tg:Tg)(b:qL):qL:=λsd hp=>(it sd).bind λds=>qZ (KF tg b) ds sd hp
def T7 (wk:zY X.K F1 J ds)(r:RT X.K B B1 F1 H1 sd hp Z)(Y:(qZ (KF t g1) ds sd hp).need (vj X.K m B F1 T) (XW X.K E B.F0 B.H0)):
 ∃W:Nat->Nat->St->Hp->Prop,(∃m,W 0 m Z H1)/\∀i S Z H,W i S Z H->(J.stop i H/\T.nx Z H)\/(J.go i H/\∃N:St->Hp->Prop,(∀s h,N s h->∃m2,m2<S/\W (i+1) m2 s h)/\∀x h,J.yld i H x h->gT t X.K x Z h λK C=>v0 X.K E m g1 { T with nx:=N,ct:=N,bk:=T.nx } K C):=by
 refine⟨λi k Z H=>k=ds.length-i/\i<=ds.length/\∃F u sd hp,jk F1 u/\RT X.K B F u H sd hp Z /\ (qZ (KF t g1) (ds.drop i) sd hp).need (vj X.K m B u T) (XW X.K E B.F0 B.H0),
  ⟨ds.length,rfl,Ua _,B1,F1,sd,hp,.refl _,r,Y⟩,?_⟩
 rintro i k K C ⟨rfl,hi,F,u,sd2,L,M,G,v⟩;obtain⟨w1,w2⟩:=wk i u C M G.rs.ext.fh;by_cases j:i<ds.length
 .have ⟨go,yl⟩:=w1 j;refine .inr ⟨go,λs h=>∃O l a b,jk F1 l/\RT X.K B O l h a b s/\(qZ (KF t g1) (ds.drop (i+1)) a b).need (vj X.K m B l T) (XW X.K E B.F0 B.H0),
   λs h ⟨O,l,a,b,q1,q2,q3⟩=>⟨ds.length-(i+1),(),rfl,j,O,l,a,b,q1,q2,q3⟩,λx H3 y=>?_⟩
  obtain⟨d,l,hd,n,i3⟩:=yl x H3 y;rw[Uu j] at v;have P:ds[i]=d:=by simp_all
  rw[P] at v;have U:=G.go n.ff (G.rs.step n);refine Xv U.rs i3 (ja (ja v)) λsd' s n4 _ r4=>⟨B,F,l,sd',L,U.go (.refl _) r4,n4.mono (λo I=>?_) λ_ _ q=>q⟩;cases o with
  |next c f=>exact λQ w z R p A=>⟨w,z,c,f,(M.trans n.ff).trans p,A,I.mono (λ_ q=>q.mono (n.ff.trans p)) λ_ _ q=>q⟩
  |cont c f=>exact λQ w z R p A=>⟨w,z,c,f,(M.trans n.ff).trans p,A,I.mono (λ_ q=>q.mono (n.ff.trans p)) λ_ _ q=>q⟩
  |brk c f=>exact λQ w z R p A=>I Q w z R (n.ff.trans p) A
  |ret d=>exact I
 .have he:i=ds.length:=()
  refine .inl ⟨w2 (),?_⟩;subst he;rw[U9] at v;exact v K F u C (.refl _) G
def DH (hp:PassesOwn (model X.prog X.w) X.A X.env X.xe)(c:X.calm=true)(f:QI X E tg iter it)(h:QG X tg t)(j:zc X E m body g1)
 (a:∀x,foldedSetIterable iter X.env x=pure x:=by intro _;rfl):w5 X E m (.For tg iter body [] pos) (Wx it t g1):=PS.weak (EA hp c f h j a) λT Z H ⟨B,l,F,sd,hp,r,n⟩=>⟨l,F,sd,r.rs,(ja n).mono (λds p J s u b wk=>(T7 wk (r.go b.ff (r.rs.step b)) (p.mono (λ_ q=>q.mono b.ff) λ_ _ q=>q))) λ_ _ q=>q.ext (r.ext0 r.rs.ext)⟩
end
@[simp]def uw (hp:HP)(sd:SD):hX hp (.next sd)=.next sd hp:=rfl
@[simp]def nU (g:FS)(sd:SD)(hp:HP):vn g sd hp=(g sd).bind λo=>.ok (hX hp o):=rfl
def uL (g:qL):Out2->Res Out2
 | .next sd hp=>g sd hp
 |o=>.ok o
@[simp]def l6 (g:qL)(sd:SD)(hp:HP):uL g (.next sd hp)=g sd hp:=rfl
@[simp]def f8 (a b:qL)(sd:SD)(hp:HP):Bj a b sd hp=(a sd hp).bind (uL b):=by
 rfl
@[simp]def lA (sd:SD)(hp:HP):DG sd hp=.ok (.next sd hp):=rfl
@[simp]def ID (c:vK)(a e:qL)(sd:SD)(hp:HP):zL c a e sd hp=(c sd hp).bind λb=>if b then a sd hp else e sd hp:=rfl
@[simp]def T8 (it:FA)(tg:Tg)(b:qL)(sd:SD)(hp:HP):Wx it tg b sd hp=(it sd).bind λds=>qZ (KF tg b) ds sd hp:=rfl
@[simp]def IE (hp:HP)(sd:SD):derI hp [] sd=sd:=rfl
def fJ (hp:HP)(i:Nat)(sd:SD):Option (Option SV)->SD
 |some (~~~d)=>sd.set i (~~~(der hp d))
 |_=>sd
@[simp]def fI (hp:HP)(i:Nat)(sd:SD)(d:D):fJ hp i sd (some (~~~d))=sd.set i (~~~(der hp d)):=rfl
@[simp]def IF (hp:HP)(i:Nat)(is:Yj)(sd:SD):derI hp (i::is) sd=derI hp is (fJ hp i sd sd[i]?):=by
 rfl
@[simp]def fE (tg:Tg)(b:qL)(x:D)(sd:SD)(hp:HP):KF tg b x sd hp=(JQ tg x sd).bind λs=>b s hp:=rfl
def wf (K:W.Frag)(F H:Hp)(hp:HP):Prop:=∀a d,jz hp a=some d->F a=none/\yF K F H a d
def RT.lent {K:W.Frag}{B a:Bs}{F H:Hp}{sd:SD}{hp:HP}{Z: St}(t:RT K B a F H sd hp Z):wf K F H hp:=λ_ _ h=>⟨t.free h,t.lies h⟩
section
variable {K:W.Frag}{B B':Bs}{F H:Hp}{sd:SD}{hp:HP}{Z: St}
def RT.drop (t:RT K B B' F H sd hp Z):RS K B F H sd Z:= ⟨t.ext0 t.rs.ext,t.rs.len,t.rs.val,λq=>let ⟨l,l1,l2,l3,l4,l5⟩:=t.rs.own q;⟨l,l1,Qg t.sub l2,l3,l4,λz=>by rw[<- t.pa];exact l5 z⟩,t.rs.apart⟩
end
abbrev qp:=SD->HP->Res (D×HP)
abbrev xW:=SD->HP->Res (YG×HP)
abbrev ze:=SD->HP->Res (Bool×HP)
def wH (K:W.Frag)(E:XK)(f:qp):TE:=λZ H Q=>∃B c F sd hp,RT K B c F H sd hp Z /\ (f sd hp).need (λp=>∀v e a b,jk F a->RT K B e a b sd p.2 Z -> jf K a p.1 v->Q v b) (XW K E B.F0 B.H0)
abbrev yR (X:Cx)(E:XK)(e:Expr)(f:qp):Prop:=PE X e (wH X.K E f)
def uE (K:W.Frag)(E:XK)(f:xW):TA:=λZ H Q=>∃B e F sd hp,RT K B e F H sd hp Z /\ (f sd hp).need (λp=>∀b g a c,jk F a->RT K B g a c sd p.2 Z -> jd K a p.1 b->Q b c) (XW K E B.F0 B.H0)
abbrev va (X:Cx)(E:XK)(es:Ym)(f:xW):Prop:=PA X es (uE X.K E f)
def uD (K:W.Frag)(E:XK)(f:ze):TT:=λZ H Q=>∃B c F sd hp,RT K B c F H sd hp Z /\ (f sd hp).need (λp=>∀e a b,jk F a->RT K B e a b sd p.2 Z -> Q p.1 b) (XW K E B.F0 B.H0)
abbrev vC (X:Cx)(E:XK)(e:Expr)(f:ze):Prop:=PT X e (uD X.K E f)
section
variable {X:Cx}{E:XK}{m:Option Bool}{a b e o i:Expr}{es:Ym}{fa fb fe fo fi:FE}{f2 g2:qp}{fr:xW}{pos pos':Pos}
def yt (fe:FE):qp:=λsd hp=>(fe sd).bind λd=>.ok (d,hp)
def KG (h:QE X E e fe):yR X E e (yt fe):=PE.weak h λZ H Q ⟨B,f,F,sd,hp,t,n⟩=>⟨f,F,sd,t.rs,(ja n).mono (λd g v j l c p=>g v f j l c.ff (t.go c.ff (t.rs.step c)) p) λ_ _ q=>q.ext (t.ext0 t.rs.ext)⟩
def zH (g:D->D->YH)(fa fb:qp):qp:=λsd hp=>(fa sd hp).bind λp=>(fb sd p.2).bind λq=>(Res.ofO (g p.1 q.1)).bind λz=>.ok (z,q.2)
def T9 {K:W.Frag}{g:D->D->YH}{Z: St}{H:Hp}{Q:VK}(h:wH K E (zH g f2 g2) Z H Q):vm (vp K g) (wH K E f2) (wH K E g2) Z H Q:=by
 obtain⟨B,l,F,sd,hp,t,n⟩:=h;refine⟨B,l,F,sd,hp,t,(ja n).mono (λp r v s x P y A C=>⟨B,s,x,sd,p.2,A,(ja r).mono (λq G w I J R j c L=>?_) λ_ _ q=>q⟩) λ_ _ q=>q⟩;obtain⟨z,hz,k⟩:=jh (ja G);exact⟨J,p.1,q.1,z,c.rs.ext.fh,jf.same j _ _ C,L,hz,λu M N f O=>k u I M N ((y.trans j).trans f.ff) (c.go f.ff (c.rs.step f)) O⟩
def TB (c:yU X (vp X.K g))(f:yR X E a f2)(j:yR X E b g2)(hs:Av b):yR X E (.Subscript a b pos) (zH g f2 g2):=PE.weak (Cq c f j hs) λ_ _ _ h=>T9 h
def TC (fa:qp):ze:=λsd hp=>(fa sd hp).bind λp=>match p.1 with
 | .bl b=>.ok (b,p.2)
 |_=>.no
def Bl:xW:=λ_ hp=>.ok ([],hp)
def Wy (f:qp)(g:xW):xW:=λsd hp=>(f sd hp).bind λp=>(g sd p.2).bind λq=>.ok (p.1::q.1,q.2)
def TD:va X E [] Bl:=PA.weak W9 λZ H Q ⟨B,c,F,sd,hp,t,n⟩=>n [] c F H (.refl _) t .nil
def DI (f:yR X E e f2)(g:va X E es fr)(hs:starEach (e::es) X.env=(false,eval e X.env)::starEach es X.env:=by rfl):va X E (e::es) (Wy f2 fr):=PA.weak (Wh f g hs) λZ H Q ⟨B,h,F,sd,hp,t,n⟩=>⟨B,h,F,sd,hp,t,(ja n).mono (λp j v l r J s u w=>⟨B,l,r,sd,p.2,u,(ja j).mono (λq x y z A C c G I=>(x (v::y) z A C (s.trans c) G (.mk (jf.same c _ _ w) I))) λ_ _ q=>q⟩) λ_ _ q=>q⟩
def vZ (fr:xW):qp:=λsd hp=>(fr sd hp).bind λp=>if p.1.length<=1000 then .ok (.tup p.1,p.2) else .no
def DJ (i:Nat)(f:qp):qL:=λsd hp=>(f sd hp).bind λp=>.ok (.next (sd.set i (~~~(p.1))) p.2)
def TF {i:Nat}{x:Str}{c:Pos}(g:X.N.Nodup)(h:X.N[i]? = some x)(j:yT X.env.scope x)(l:yR X E e f2)(hs:swapsWith e (some (.Name x pos')) c.line X.env=pure false:=by rfl)(r:X.fn x=true\/X.env.scope.names.lookup x=some .local:=by trivial):
 w5 X E m (.Assign [.Name x pos'] e c) (DJ i f2):=PS.weak (Ch g h j l hs r) λT Z H ⟨B,s,F,sd,hp,t,n⟩=>⟨B,s,F,sd,hp,t,(ja n).mono (λp u v w y z A f C=>(u _ w y z A (f.go (.refl _) (f.rs.setVal C)))) λ_ _ q=>q⟩
def ZE (fo fi:FE)(c:qp):qL:=λsd hp=>(c sd hp).bind λp=>(fo sd).bind λo=>match o with
 | .adr a=>match jz p.2 a with
  |some (.lst es)=>(fi sd).bind λk=>match k with
   | .int k=>match zg es.length k with
    |some q=>.ok (.next sd (Ww p.2 a (.lst (es.set q p.1))))
    |none=>.no
   |_=>.no
  |_=>.no
 |_=>.no
def IG (z:QE X E o fo)(A:QE X E i fi)(C:yR X E e f2)(h:∀v,assign (.Subscript o i pos') X.env v=(do
 let j <- holding [v] (eval o X.env)
 let u <- holding [v,j] (eval i X.env)
 standAt pos'
 holding [v,j,u] (setItem j u v)
 release [v,j,u] []):=by intro _;rfl) (hs:swapsWithSole [.Subscript o i pos'] e pos.line X.env=pure false:=by rfl) (G:swappedStores [.Subscript o i pos'] e X.env=pure none:=by rfl)
 (I:(assignEach [.Subscript o i pos'] X.env).map (·.2)=[assign (.Subscript o i pos') X.env]:=by rfl):w5 X E m (.Assign [.Subscript o i pos'] e pos) (ZE fo fi f2):=PS.weak (E9 C (MQ z A NG h) hs G I) λT Z H J=>by
 obtain⟨B,K,F,sd,hp,t,n⟩:=J;refine⟨B,K,F,sd,hp,t,(ja n).mono (λp L v x M H1 N c O=>⟨x,M,sd,c.rs,(ja L).mono (λd f v2 P H2 l Q=>?_) λ_ _ q=>q.ext (c.ext0 c.rs.ext)⟩) λ_ _ q=>q⟩
 split at f
 .rename_i a;obtain rfl:=jL.mp Q;have r:=c.go l.ff (c.rs.step l)
  split at f
  .rename_i es h;refine⟨x,P,sd,r.rs,(ja f).mono (λk g w R H3 s S=>?_) λ_ _ q=>q.ext (c.ext0 r.rs.ext)⟩;have y:=r.go s.ff (r.rs.step s)
   split at g
   .rename_i k
    split at g
    .rename_i q hk;have ⟨U,Y,g2⟩:=y.lies h;exact⟨a,U,k,q,rfl,je.mp S,Y,by rwa [g2.length],g Z _ R _ ((N.trans l.ff).trans s.ff) (y.chg h ⟨_,JM,g2.set q (jf.same (l.ff.trans s.ff) _ _ O)⟩)⟩
    .exact g.elim
   .exact g.elim
  .exact f.elim
 .exact f.elim
def V6 (i:Nat)(f:qp):qL:=λsd hp=>match sd[i]? with
 |some (some (.own false (.lst ds)))=>(f sd hp).bind λp=>if ds.length<sizeLine then .ok (.next (sd.set i (some (.own false (.lst (ds++[p.1]))))) p.2) else .no
 |_=>.no
def TH {i:Nat}{c f:Pos}(y:PE X o (yc i))(z:yR X E e f2)
 (hp:∀{u:TE} {t:TA},PE X o u->PA X [e] t->PE X (.Call (.Attribute o "append" c) [e] [] f) (bb X.K "list" Cr u t))
 (hs:swapsWith (.Call (.Attribute o "append" c) [e] [] f) none pos.line X.env=pure false:=by rfl)
 (g:starEach [e] X.env=(false,eval e X.env)::starEach [] X.env:=by rfl):w5 X E m (.Expr (.Call (.Attribute o "append" c) [e] [] f) pos) (V6 i f2):=
 PS.weak (Cg (hp y (Wh z W9 g)) hs) λT Z H A=>by
  obtain⟨B,C,F,sd,hp,t,n⟩:=A;unfold V6 at n
  split at n
  .rename_i ds h;obtain⟨l,j,O,P,⟨G,I,Q⟩,_⟩:=t.rs.own h;refine⟨.ref l,j,.inl ⟨rfl,G,qy.of I⟩,B,C,F,sd,hp,t,(ja n).mono (λp r v J K R L s M=>?_) λ_ _ q=>q⟩
   split at r
   .obtain⟨S,w,g2,U,⟨ys,N,x⟩,_⟩:=s.rs.own h;rw[j] at w;cases w;have Y:=x.length;exact⟨l,ys,v,rfl,rfl,N,(),r Z J K _ L (s.go (.refl _) (s.rs.chg h j ⟨ys++[v],JM,x.snoc M⟩))⟩
   .exact r.elim
  .exact n.elim
end
def DK (K:W.Frag)(E:XK)(g:qp):TS:=λT Z H=>∃B c F sd hp,RT K B c F H sd hp Z /\ (g sd hp).need (λp=>∀v e sd' f a b,jk F a->RT K B f a b sd' p.2 e->jf K a p.1 v->T.rt v b) (XW K E B.F0 B.H0)
abbrev yN (X:Cx)(E:XK)(sts:List Stmt)(g:qp):Prop:=qI X sts (DK X.K E g)
section
variable {X:Cx}{E:XK}{m:Option Bool}{e:Expr}{f2 g2 ga:qp}{g1:qL}{fc:ze}{pos:Pos}{st:Stmt}{sts a:List Stmt}{c:Expr}
def Wz (h:yR X E e f2):yN X E [.Return (some e) pos] f2:=qI.weak (Cf (Ao h)) λT Z H ⟨B,b,F,sd,hp,t,n⟩=>⟨B,b,F,sd,hp,t,n.mono () λ_ _ q=>q⟩
def xi (g1:qL)(g2:qp):qp:=λsd hp=>(g1 sd hp).bind λo=>match o with
 | .next sd' hp'=>g2 sd' hp'
 |_=>.no
def W0 (g:w5 X E m st g1)(h:yN X E sts g2):yN X E (st::sts) (xi g1 g2):=qI.weak (XN g h) λT Z H i=>by
 obtain⟨B,j,F,sd,hp,t,n⟩:=i;refine⟨B,j,F,sd,hp,t,(ja n).mono (λo b=>?_) λ_ _ q=>q⟩;cases o with
 |next sd' hp'=>exact λI l r J s u=>⟨B,l,r,sd',hp',u,b.mono (λp q v w f x y z A C G=>q v w f x y z (s.trans A) C G) λ_ _ q=>q⟩
 |ret d=>exact b.elim
 |brk sd' hp'=>exact b.elim
 |cont sd' hp'=>exact b.elim
def vS (fc:ze)(ga g2:qp):qp:=λsd hp=>(fc sd hp).bind λp=>if p.1 then ga sd p.2 else g2 sd p.2
def Bm (z:vC X E c fc)(A:yN X E a ga)(C:yN X E sts g2):yN X E (.If c a [] pos::sts) (vS fc ga g2):=qI.weak (XN (Ap z A An) C) λT Z H G=>by
 obtain⟨B,I,F,sd,hp,t,n⟩:=G;refine⟨B,I,F,sd,hp,t,(ja n).mono (λp s u w J x y=>?_) λ_ _ q=>q⟩;obtain⟨k,f⟩:=p;cases k with
 |true=>exact⟨B,u,w,sd,f,y,s.mono (λp q v g b h i j l o r=>q v g b h i j (x.trans l) o r) λ_ _ q=>q⟩
 |false=>exact⟨B,u,w,sd,f,y,s.mono (λp q v g b h i j l o r=>q v g b h i j (x.trans l) o r) λ_ _ q=>q⟩
end
structure ExtW (K:W.Frag)(F H:Hp)(hp:HP)(F' H':Hp)(hp':HP):Prop where
 ff:jk F F'
 fh:jk F' H'
 hh:∀a o,jz hp a=none->H a=some o->H' a=some o
 new:∀a,F a=none->H a≠none->F' a=none
 len:wf K F' H' hp'
 dom:∀a,jz hp' a=none↔jz hp a=none
theorem ZF:∀{hp:HP} {a:Addr},jz hp a=none↔a∉hp.map (·.1)
 | [],a=>by simp[IC]
 |p::r,a=>by
  rw[V5,Zl,Us,not_or];by_cases z:a=p.1
  .simp_all
  .rw[Ze z,ZF]
   simp_all
def yy (H:Hp)(hp:HP):Hp:=λa=>match jz hp a with
 |none=>H a
 |some _=>none
def KQ (h:jz hp a=none):yy H hp a=H a:=by grind[yy]
def IH (h:jz hp a=some d):yy H hp a=none:=by unfold yy;rw[h]
def wa (K:W.Frag)(c:YG->HP->Res (D×HP)):Sp:=λe H Q _=>∃F ds hp,jk F H/\jd K F ds e/\wf K F H hp/\(c ds hp).need (λp=>∀v a b,ExtW K F H hp a b p.2->jf K a p.1 v->Q v b) (XW K E0 F (yy H hp))
def QK (n ar:Nat)(g:qp)(ds:YG)(hp:HP):Res (D×HP):=if ds.length=ar then(g (Qm n ds) hp).bind λp=>if p.2.map (·.1)=hp.map (·.1) then .ok p else .no else .no
section
variable {K:W.Frag}{B B':Bs}{F F' H H':Hp}{sd:SD}{hp hp':HP}{Z: St}
def RT.call (t:RT K B B' F H sd hp Z)(w:ExtW K F H hp F' H' hp'):∃j,RT K B j F' H' sd hp' Z:= by
 have m:=λa o h e=>w.hh a o h (t.rs.ext.hh _ _ e);refine⟨⟨B'.F0,λa=>match jz hp a with
  |none=>B'.H0 a
  |some _=>H' a,B'.pa⟩,⟨⟨t.rs.ext.ff.trans w.ff,w.fh,λa o e=>?_,λa n c=>?_⟩,t.rs.len,λq=>let ⟨v,c,h2⟩:=t.rs.val q;⟨v,c,jf.same w.ff _ _ h2⟩,λ{i p d} q=>?_,t.rs.apart⟩,t.f0,t.pa,λa b=>?_,λa d b=>?_⟩
 .grind
 .cases z:jz hp a with
  |none =>
   have c:(match jz hp a with
    |none=>B'.H0 a
    |some _=>H' a)≠none:=c
   rw[z] at c;exact w.new a (t.rs.ext.new a n c) λy=>(c (Qg t.rs.ext.hh y))
  |some d =>
   obtain⟨o,r⟩:=(t.lies z).has;exact w.new a (t.free z) ()
 .obtain⟨l,s,x,A,f,C⟩:=t.rs.own q;have g:jz hp l=none:=by
   cases z:jz hp l with
   |none=>rfl
   |some I=>exact Zn rfl (t.no_own z x)
  obtain⟨o,r⟩:=f.has;refine⟨l,s,?_,w.new l A (),f.ext w.ff λu q=>w.hh _ _ g q,λz=>(C z).mono λu q=>w.hh _ _ g q⟩
  simp_all
 .have b:=(w.dom a).mp b;show(match jz hp a with
   |none=>B'.H0 a
   |some _=>H' a)=B.H0 a
  rw[b];exact t.out a b
 .cases z:jz hp a with
  |none=>rw[(w.dom a).mpr z] at b;cases b
  |some d0 =>
   obtain⟨E,G,_⟩:=t.obj a d0 z;refine⟨E,G,(w.len a d b).2.ext (.refl _) λo q=>?_⟩
   simp_all
def RT.hidden (t:RT K B B' F H sd hp Z):Ext B.F0 B.H0 F (yy H hp):=by
 have e:=t.ext0 t.rs.ext;refine⟨e.ff,λa o q=>?_,λa o q=>?_,e.new⟩
 .cases z:jz hp a with
  |none=>rw[KQ z];exact e.fh _ _ q
  |some d=>rw[t.free z] at q;exact J6 q
 .cases z:jz hp a with
  |none=>rw[KQ z];exact e.hh _ _ q
  |some d=>rw[(t.obj a d z).2.1] at q;exact J6 q
end
section
variable {P:Program}{w:World}{K:W.Frag}{mg:Ye}{base:Heap}{x qual:Str}{st:Stmt}{f:Addr}{fd:FuncData}{N ps:Yk}{k:Nat}
def II (F:Fun K x qual st f fd)(S:FnScope N ps (JV st))
 (B:∀c A b s H E,Room k (A.deeper (envOfC qual (JV st) s.heap.objs.size f c))->qI (jV yp P w K mg base N qual (JV st) f c A b s H E).nox (QM st) (DK K E0 g)):
 FnOk P w K mg base yp (k+1) f fd ps (wa K (QK N.length ps.length g)):=by
 refine F.ok S (λr H Q E ⟨F,ds,hp,_,i,_,n⟩=>?_) λc A b s H r Q E C ⟨F,ds,hp,hs,i,u,n⟩=>⟨_,B c A b s H E C,?_⟩
 .unfold QK at n
  split at n
  .rw[i.length];lia
  .exact n.elim
 .unfold QK at n
  split at n
  .have t:RT K ⟨F,yy H hp,λ_=>none⟩ ⟨F,H,λ_=>none⟩ F H (Qm N.length ds) hp (L2.start N r):=⟨RS.start hs i,rfl,rfl,λa h=>(KQ h).symm,λa d h=>⟨(u a d h).1,IH h,(u a d h).2⟩⟩;refine⟨_,_,F,_,hp,t,(ja n).mono (λp l v T sd' U G I J j L=>?_) λ_ _ q=>q⟩
   split at l
   .rename_i M;have m:∀a,jz p.2 a=none↔jz hp a=none:=λa=>by rw[ZF,ZF,M]
    have e:=j.ext0 j.rs.ext;refine l v G I ⟨J,j.rs.ext.fh,λa o h q=>e.hh a o ((KQ h).trans q),λa O R=>?_,j.lent,m⟩ L;cases z:jz hp a with
    |none=>exact e.new a O λy=>R ((KQ z).symm.trans y)
    |some d =>
     cases y:jz p.2 a with
     |none=>simp_all
     |some X=>exact j.free y
   .exact l.elim
  .exact n.elim
end
section
variable {X:Cx}{pos:Pos}
def Kj (a:YG->HP->Res (D×HP))(b:FA):qp:=λsd hp=>(b sd).bind λds=>a ds hp
def IJ (c:zn X.prog X.w X.K X.mg X.base name k ps (wa X.K Fn))(h:Room k X.A)(j:Gl X name)(l:QA X E0 (e::es) fr)
 (b:(name == ("__debug__" : Str))=false:=by decide) (m:starEach (e::es) X.env=(false,eval e X.env)::starEach es X.env:=by rfl) (f:(backTo pos (starEach es X.env)).any (·.1)=false:=by rfl):
 yR X E0 (.Call (.Name name p) (e::es) [] pos) (Kj Fn fr):=PE.weak (XX c h j l b m f) λZ H Q o=>by
 obtain⟨B,r,F,sd,hp,t,n⟩:=o;refine⟨r,F,sd,t.rs,(ja n).mono (λds s u x y a z=>?_) λ_ _ q=>q.ext (t.ext0 t.rs.ext)⟩;have g:=t.go a.ff (t.rs.step a);show wa X.K Fn (u++[]) y Q E0;rw[ZB];refine⟨x,ds,hp,a.fh,z,g.lent,s.mono (λp A v C E w i=>?_) λ_ _ q=>q.ext g.hidden⟩;obtain⟨G,I⟩:=g.call w;exact A v G C E (a.ff.trans w.ff) I i
end
abbrev FX:=SD->Res (D×SD)
def pB (K:W.Frag)(E:XK)(f:FX):TE:=λZ H Q=>∃B F sd,RS K B F H sd Z /\ (f sd).need (λp=>∀v a b,jk F a->RS K B a b p.2 Z -> jf K a p.1 v->Q v b) (XW K E B.F0 B.H0)
abbrev QX (X:Cx)(E:XK)(e:Expr)(f:FX):Prop:=PE X e (pB X.K E f)
open Classical in
def zW (g:Addr->Res (D×SD)):Res (D×SD):=if h:∃o,∀a,g a=.ok o then .ok (Classical.choose h) else .no
def TJ (h:∀a,g a=.ok o):zW g=.ok o:=by
 have b:∃o,∀a,g a=.ok o:=⟨o,h⟩;unfold zW;rw[dif_pos b];have c:=Classical.choose_spec b 0;rw[h 0] at c;exact c.symm
def TK (h:(zW g).need p q)(a):(g a).need p q:=by
 unfold zW at h
 split at h
 .grind
 .exact h.elim
def zo (i:Nat)(f:qp):FX:=λsd=>match sd[i]? with
 |some (some (.own false d))=>zW λa=>(f (sd.set i (~~~(.adr a))) [(a,d)]).bind λp=>match jz p.2 a with
  |some b=>.ok (p.1,sd.set i (some (.own false b)))
  |none=>.no
 |_=>.no
def wb {K:W.Frag}{B:Bs}{F H:Hp}{sd:SD}{Z: St}{i:Nat}{p:Bool}{d:D}{l:Addr}(r:RS K B F H sd Z)(n:sd[i]? = some (some (.own p d)))(g:Z[i]? = some (some (.ref l)))(s:B.H0 l=none)(t:F l=none)(u:yF K F H l d):
 RT K B ⟨B.F0,λa=>if a=l then H l else B.H0 a,B.pa⟩ F H (sd.set i (~~~(.adr l))) [(l,d)] Z:= by
 have c:=r.setVal (i:=i) (d:=.adr l) (jL.mpr rfl);rw[Bh g] at c;have at_:∀{a:Addr} {e:D},jz [(l,d)] a=some e->a=l/\e=d:=λ{a e} q=>by
  simp_all [V5,IC]
 refine⟨⟨⟨c.ext.ff,c.ext.fh,λa o e=>?_,λa v f=>?_⟩,c.len,c.val,λ{j x y} q=>?_,c.apart⟩,rfl,rfl,λa h=>?_,λa e h=>?_⟩
 .have e:(if a=l then H l else B.H0 a)=some o:=e;by_cases z:a=l
  .rw[Zd z] at e;rwa [z]
  .rw[Ze z] at e;exact c.ext.hh _ _ e
 .by_cases z:a=l
  .rwa [z]
  .have f:(if a=l then H l else B.H0 a)≠none:=f;rw[Ze z] at f;exact c.ext.new a v f
 .have m:i≠j:=by grind
  obtain⟨b,w,A,C,E,G⟩:=c.own q;rw[Qv m] at q;have ne:b≠l:=λz=>r.apart m n q g (z ▸ w);exact by grind
 .grind[V5]
 .obtain⟨rfl,rfl⟩:=at_ h;refine⟨Qg r.ext.ff t,s,u.ext (.refl _) λo q=>?_⟩
  simp_all
def TL {X:Cx}{E:XK}{e:Expr}{i:Nat}{f:qp}(h:yR X E e f):QX X E e (zo i f):=PE.weak h λZ H Q u=>by
 obtain⟨B,F,sd,r,n⟩:=u;unfold zo at n
 split at n
 .rename_i d g;obtain⟨l,m,w,x,y,_⟩:=r.own g;refine⟨B,_,F,_,_,wb r g m w x y,(ja (TK n l)).mono (λp c v L A C s t G=>?_) λ_ _ q=>q⟩
  split at c
  .rename_i I a;refine c v A C s ?_ G;have J:=t.drop.setOwn (i:=i) (t.obj l I a).2.1 (t.free a) (t.lies a) λj p e q z=>by
    have ⟨b,o,K,_⟩:=t.rs.own q;rw[z] at o;cases o;exact Zn rfl (t.no_own a K)
   rwa [List.set_set,Bh m] at J
  .exact c.elim
 .exact n.elim
section
variable {X:Cx}{E:XK}{m:Option Bool}{e o:Expr}{f:FX}{pos pos':Pos}
def uN (i:Nat)(f:FX):FS:=λsd=>(f sd).bind λp=>.ok (.next (p.2.set i (~~~(p.1))))
@[simp]def bB (i)(f)(sd):uN i f sd=(f sd).bind λp=>.ok (.next (p.2.set i (~~~(p.1)))):=rfl
end
def rV:FS:=λ_=>.no
def uX {X:Cx}{E:XK}{m:Option Bool}{st:Stmt}:QS X E m st rV:=λY s Z H T I ⟨B,F,sd,r,n⟩=>n.elim
section
variable {X:Cx}{E:XK}{e:Expr}{g:qp}{fe:FE}{sts:List Stmt}
def wV (i:Nat)(g:qp):qp:=λsd hp=>g (jU [i] sd) hp
def TM (h:yN X E sts g):yN X E sts (wV i g):=qI.weak h λT Z H ⟨B,b,F,sd,hp,t,n⟩=>have ⟨c,s,r⟩:=t.rs.frz [i];⟨B,b,c,_,hp,t.go s r,(n).mono (λp q v f a j l m o u w=>q v f a j l m (s.trans o) u w) λ_ _ q=>q⟩
def wR:D->D->YH:=λd e=>match d with
 | .dct _ _=>none
 | .dcf _ _=>none
 |d=>jA d e
def kW:yU X (vp X.K wR):=GA
def zG (is:Yj)(f:FE):qp:=λsd hp=>(f (derI hp is sd)).strict.bind λd=>if K2 d then .ok (d,hp) else .no
def TN (is:Yj)(h:QE X E e fe):yR X E e (zG is fe):=PE.weak h λZ H Q i=>by
 obtain⟨B,j,F,sd,hp,t,n⟩:=i;obtain⟨l,s,m,o⟩:=t.frz;refine⟨B,l,_,m.derI o is,(j9 (ja n)).mono (λd a v u b p r=>?_) λc fs q=>q⟩
 split at a
 .rename_i hs;have f:Ext F H F b:=.grow t.rs.ext.fh p.hh;exact a v j F b (.refl _) (t.go f.ff (t.rs.step f)) (r.scal hs)
 .exact a.elim
end
section
variable {X:Cx}{E:XK}{m:Option Bool}{e o i:Expr}{es:Ym}{f2 g2:qp}{f3:FX3}{f:FX}{fr2:xW}{pos pos':Pos}
def sj (z:D)(q:D×HP):Res (D×HP):=match z with
 | .adr a=>match jz q.2 a with
  |some (.lst es)=>(Res.ofO (jA (.lst es) q.1)).bind λz=>.ok (z,q.2)
  |_=>.no
 |_=>.no
def ub (a b:qp):qp:=λsd hp=>(a sd hp).bind λp=>(b sd p.2).bind (sj p.1)
def TQ (a:YG->HP->Res (D×HP))(b:xW):qp:=λsd hp=>(b sd hp).bind λp=>a p.1 p.2
end
open Classical in
def xj (n:Nat)(g:Yl->Res Out):Res Out:=if h:∃o,∀a,a.length=n->g a=.ok o then .ok (Classical.choose h) else .no
def ZG (h:∀a,a.length=n->g a=.ok o):xj n g=.ok o:=by
 have b:∃o,∀a,a.length=n->g a=.ok o:=⟨o,h⟩;unfold xj;have c:(List.replicate n (0:Addr)).length=n:=List.length_replicate
 grind
def capO (cap:List (Option Nat))(k:Nat)(sd:SD):SD:=match (cap[k]?).join with
 |some j=>match sd[j]? with
  |some (some (.own false d))=>(jW cap sd).set k (some (.own false d))
  |_=>jW cap sd
 |none=>jW cap sd
def TR {cap:List (Option Nat)}{sd:SD}{i:Nat}{x:SV}(q:(jW cap sd)[i]? = some (some x)):∃d,x=.val d:=by
 unfold jW at q;rw[Zv] at q;cases a:cap[i]? with
 |none=>simp_all
 |some o =>
  rw[a] at q;cases o with
  |none=>cases q
  |some j =>
   grind
theorem RS.capO {K:W.Frag}{B:Bs}{F H:Hp}{sd:SD}{Z: St}(cap)(k)(r:RS K B F H sd Z):RS K B F H (capO cap k sd) (KL cap Z):=by
 unfold L2.DL.capO
 split
 .rename_i j a
  split
  .rename_i d f;obtain⟨l,g,h,m,n,_⟩:=r.own f;have s:(KL cap Z)[k]? = some (some (.ref l)):=by
    unfold KL;rw[Zv];cases b:cap[k]? with
    |none=>rw[b] at a;exact J6 a
    |some o =>
     rw[b] at a;have a:o=some j:=a;subst a;show some (Option.bind (some j) λj=>(Z[j]?).join)=_;rw[Option.bind_some,g];rfl
   have c:=(r.cap cap).setOwn (i:=k) (d:=d) (l:=l) h m n λi p e q=>by
    obtain⟨t,z⟩:=TR q;cases z
   rw[Bh s] at c;exact c
  .exact r.cap cap
 .exact r.cap cap
def ZH (cap:List (Option Nat))(k:Nat)(it:FA)(tg:Tg)(f:FE):FE:=λsd=>(it sd).bind λds=>if Ux (capO cap k sd) tg=true/\ds.length<sizeLine then(yf (λx=>(JQ tg x (capO cap k sd)).bind f) ds).bind λys=>.ok (.lst ys) else .no
def TU {K:W.Frag}{E:XK}{t:Tg}{z:FA}{f:FE}{cap:List (Option Nat)}{c:Nat}{Z: St}{H:Hp}{Q:VK}(l:vP K E (ZH cap c z t f) Z H Q):Xm cap (ba K E z) (gT t K) (tD K E f) Z H Q:=by
 obtain⟨B,F,sd,r,n⟩:=l;refine⟨B,F,sd,r,(ja n).mono (λds m J A G j wk=>?_) λ_ _ q=>q⟩
 split at m
 .rename_i l;obtain⟨I,hz⟩:=l;refine⟨λi k ys Z b=>k=ds.length-i/\i<=ds.length/\∃a es,Ext A G a b/\RS K B a b (capO cap c sd) Z /\ jd K a es ys/\es.length=i /\
   (yf (λx=>(JQ t x (capO cap c sd)).bind f) (ds.drop i)).need (λrs=>xY K a b Q (.lst (es++rs))) (XW K E a b),⟨ds.length,rfl,Ua _,A,[],.refl j.fh,(r.step j).capO cap c,.nil,rfl,?_⟩,?_⟩
  .exact(ja m).mono (λrs q=>(q).ext j) λ_ _ q=>q.ext j
  rintro i k ys Z2 b ⟨rfl,hi,a,es,o,p,s,hl,u⟩;have ly:=s.length;refine⟨(),?_⟩;obtain⟨w1,w2⟩:=wk i a b o.ff o.fh;by_cases g:i<ds.length
  .obtain⟨go,L⟩:=w1 g;refine .inr ⟨go,λx M y=>?_⟩;obtain⟨d,N,O,e,P⟩:=L x M y;have R:=Gv O u;refine Xv (p.step e) P (ja R) λsd' Z' S T C=>?_;obtain⟨U,X⟩:=CY I T;refine⟨B,N,sd',C,S.mono (λy Y v F4 H4 h i4=>⟨ds.length-(i+1),(),rfl,g,F4,es++[y],(o.trans e).trans h,(C.step h).forget U X,(jd.same (e.ff.trans h.ff) _ _ s).snoc i4,(),Y.mono (λrs q=>?_) λ_ _ q=>q.ext (e.trans h)⟩) λ_ _ q=>q.ext e⟩;rw[Uh];exact q.ext (e.trans h)
  .have he:i=ds.length:=()
   subst he;refine .inl ⟨w2 (Zf _),λD w=>?_⟩;rw[U9] at u;have q:xY K a b Q (.lst (es++[])):=u;rw[ZB] at q;exact q D a _ (.keep p.ext.fh w _) w (Qg p.ext.fh w) ⟨ys,JM,s⟩
 .exact m.elim
section
variable {X:Cx}{E:XK}{m:Option Bool}{tg iter elt c:Expr}{scope:Scope}{pos spos py:Pos}{y:Str}{iy:Nat}{t:Tg}{fi:FA}{f:FE}
def TV (N)(cap)(c)(a:X.N.Nodup)(b:X.N[iy]? = some y)(e:yT X.env.scope y)(o:X.calm=true)(g:QP scope X.env N X.N cap=true)(p:QI X E tg iter fi)
 (r:∀i C s H j,QG (JJ X scope N i C s H j) tg t) (u:∀i C s H j,QE (JJ X scope N i C s H j) E elt f) (l:swapsWith (.ListComp elt [⟨tg,iter,[],0⟩] scope pos) (some (.Name y py)) spos.line X.env=pure true:=by rfl)
 (n:X.fn y=true\/X.env.scope.names.lookup y=some .local:=by trivial) (hs:∀x,foldedSetIterable iter X.env x=pure x:=by intro _;rfl):
 QS X E m (.Assign [.Name y py] (.ListComp elt [⟨tg,iter,[],0⟩] scope pos) spos) (j4 iy (ZH cap c fi t f)):=
 PS.weak (GQ l a b e n N cap o g p r u hs) λT Z H h=>Dn (λ_ _ _ q=>TU q) h
end
@[simp]def fB (cap)(k)(it)(tg)(f)(sd):ZH cap k it tg f sd=(it sd).bind λds=>if Ux (capO cap k sd) tg=true/\ds.length<sizeLine then(jO tg f (capO cap k sd) ds).bind λys=>.ok (.lst ys) else .no:=rfl
def Ks (K:W.Frag)(c:YG->HP->Res (D×HP)):Sp:=λe H Q E=>∃F ds hp,jk F H/\jd K F ds e/\wf K F H hp/\(c ds hp).need (λp=>∀v a b,ExtW K F H hp a b p.2->jf K a p.1 v->Q v b) (XW K E F (yy H hp))
section
variable {P:Program}{w:World}{K:W.Frag}{mg:Ye}{base:Heap}{x qual:Str}{st:Stmt}{f:Addr}{fd:FuncData}{N ps:Yk}{k:Nat}
def IK (F:Fun K x qual st f fd)(S:FnScope N ps (JV st))
 (B:∀c A b s H E,Room k (A.deeper (envOfC qual (JV st) s.heap.objs.size f c))->qI (jV (xA P w) P w K mg base N qual (JV st) f c A b s H E) (QM st) (DK K E g)):
 FnOk P w K mg base (xA P w) (k+1) f fd ps (Ks K (QK N.length ps.length g)):=by
 refine F.okX S (λr H Q E ⟨F,ds,hp,_,i,_,n⟩=>?_) λc A b s H r Q E C ⟨F,ds,hp,hs,i,u,n⟩=>⟨_,B c A b s H E C,?_⟩
 .unfold QK at n
  split at n
  .rw[i.length];lia
  .exact n.elim
 .unfold QK at n
  split at n
  .have t:RT K ⟨F,yy H hp,λ_=>none⟩ ⟨F,H,λ_=>none⟩ F H (Qm N.length ds) hp (L2.start N r):=⟨RS.start hs i,rfl,rfl,λa h=>(KQ h).symm,λa d h=>⟨(u a d h).1,IH h,(u a d h).2⟩⟩;refine⟨_,_,F,_,hp,t,(ja n).mono (λp l v T sd' U G I J j L=>?_) λ_ _ q=>q⟩
   split at l
   .rename_i M;have m:∀a,jz p.2 a=none↔jz hp a=none:=λa=>by rw[ZF,ZF,M]
    have e:=j.ext0 j.rs.ext;refine l v G I ⟨J,j.rs.ext.fh,λa o h q=>e.hh a o ((KQ h).trans q),λa O R=>?_,j.lent,m⟩ L;cases z:jz hp a with
    |none=>exact e.new a O λy=>R ((KQ z).symm.trans y)
    |some d =>
     cases y:jz p.2 a with
     |none=>simp_all
     |some X=>exact j.free y
   .exact l.elim
  .exact n.elim
end
section
variable {X:Cx}{E:XK}{m:Option Bool}{e o i c:Expr}{es:Ym}{fe fo fi:FE}{fr:FA}{f2 g2:qp}{fr2:xW}{ft:FT}{pos pos' p:Pos}{name:Str}{k:Nat}{ps:Yk}
def IL (c:yr X.prog X.w X.K X.mg X.base name k ps (Ks X.K Fn))(T:Thrown X E)(h:Room k X.A)(j:Gl X name)(l:QA X E (e::es) fr)
 (b:(name == ("__debug__" : Str))=false:=by decide) (r:starEach (e::es) X.env=(false,eval e X.env)::starEach es X.env:=by rfl) (f:(backTo pos (starEach es X.env)).any (·.1)=false:=by rfl):
 yR X E (.Call (.Name name p) (e::es) [] pos) (Kj Fn fr):=PE.weak (YZ c T h j l b r f) λZ H Q s=>by
 obtain⟨B,u,F,sd,hp,t,n⟩:=s;refine⟨u,F,sd,t.rs,(ja n).mono (λds x y z A a C=>?_) λ_ _ q=>q.ext (t.ext0 t.rs.ext)⟩;have g:=t.go a.ff (t.rs.step a);show Ks X.K Fn (y++[]) A Q E;rw[ZB];refine⟨z,ds,hp,a.fh,C,g.lent,x.mono (λp G v I J w i=>?_) λ_ _ q=>q.ext g.hidden⟩;obtain⟨K,L⟩:=g.call w;exact G v K I J (a.ff.trans w.ff) L i
def Bn (a:YG->Res D)(fr:xW):qp:=λsd hp=>(fr sd hp).bind λp=>(a p.1).bind λd=>.ok (d,p.2)
def TW (c:yr X.prog X.w X.K X.mg X.base name k ps (x8 X.K Fn))(T:Thrown X E)(h:Room k X.A)(j:Gl X name)(l:va X E (e::es) fr2)
 (b:(name == ("__debug__" : Str))=false:=by decide) (r:starEach (e::es) X.env=(false,eval e X.env)::starEach es X.env:=by rfl) (f:(backTo pos (starEach es X.env)).any (·.1)=false:=by rfl):
 yR X E (.Call (.Name name p) (e::es) [] pos) (Bn Fn fr2):=PE.weak (YZ c T h j l b r f) λZ H Q s=>by
 obtain⟨B,u,F,sd,hp,t,n⟩:=s;refine⟨B,u,F,sd,hp,t,(ja n).mono (λp w x y z A C a G=>?_) λ_ _ q=>q⟩;show x8 X.K Fn (x++[]) A Q E;rw[ZB];exact⟨z,p.1,a.rs.ext.fh,G,(ja w).mono (λd I v J K g L=>I v y J K (C.trans g.ff) (a.go g.ff (a.rs.step g)) L) λ_ _ q=>q.ext (a.ext0 a.rs.ext)⟩
def yW (f:FT):ze:=λsd hp=>(f sd).bind λb=>.ok (b,hp)
def DM (h:QT X E e ft):vC X E e (yW ft):=PT.weak h λZ H Q ⟨B,f,F,sd,hp,t,n⟩=>⟨f,F,sd,t.rs,(ja n).mono (λb g j l a=>g f j l a.ff (t.go a.ff (t.rs.step a))) λ_ _ q=>q.ext (t.ext0 t.rs.ext)⟩
def wJ (is:Yj)(f:FT):vK:=λsd hp=>(f (derI hp is sd)).strict
def TX (is)(h:QT X E e ft):sH X E e (wJ is ft):=PT.weak h λZ H Q ⟨B,r,F,sd,hp,t,n⟩=>have ⟨a,s,b,f⟩:=t.frz;⟨B,a,_,b.derI f is,(j9 (n)).mono (λd g u j l=>(g F j (.grow t.rs.ext.fh l.hh))) λc fs q=>q⟩
def zI (fo fi:FE):qp:=λsd hp=>(fo sd).bind λo=>match o with
 | .adr a=>match jz hp a with
  |some (.dct ks ds)=>(fi sd).bind λk=>(Res.ofO ((QB k).bind λq=>jI ks ds q)).bind λz=>.ok (z,hp)
  |_=>.no
 |_=>.no
def TY (r:X.A.units+1<cLine)(s:QE X E o fo)(u:QE X E i fi)(hs:wc i):yR X E (.Subscript o i pos) (zI fo fi):=PE.weak (Cw r s u hs) λZ H Q A=>by
 obtain⟨B,g,F,sd,hp,t,n⟩:=A;refine⟨g,F,sd,t.rs,(ja n).mono (λd b v C T h G=>?_) λ_ _ q=>q.ext (t.ext0 t.rs.ext)⟩
 split at b
 .rename_i a;obtain rfl:=jL.mp G
  split at b
  .rename_i ks ds I;have f:=t.go h.ff (t.rs.step h);refine⟨g,C,sd,f.rs,(ja b).mono (λy J w K L j M=>?_) λ_ _ q=>q.ext (t.ext0 f.rs.ext)⟩;have l:=f.go j.ff (f.rs.step j);have ⟨U,N,O,P⟩:=l.lies I;have ⟨z,hz,q⟩:=jh (ja J);have ⟨k,R,hz⟩:=Jh.mp hz;have ⟨x,S,ix⟩:=(Xx k O P).1 z hz;refine⟨a,x,rfl,?_,q x g K L (h.ff.trans j.ff) l ix⟩;rw[WR R M,<- S];exact Dg (.inl N)
  .exact b.elim
 .exact b.elim
def IM (fo b:FE)(sd:SD)(p:D×HP):Res Out2:=(fo sd).bind λo=>match o with
 | .adr a=>match jz p.2 a with
  |some (.dct ks ds)=>(b sd).bind λk=>match QB k with
   |some q=>if ks.length<sizeLine then .ok (.next sd (Ww p.2 a (.dct (V1 ks q) (Wr ks ds q p.1)))) else .no
   |none=>.no
  |_=>.no
 |_=>.no
def Bo (fo a:FE)(b:qp):qL:=λsd hp=>(b sd hp).bind (IM fo a sd)
def TZ (x:X.A.units+1<cLine)(y:QE X E o fo)(z:QE X E i fi)(A:yR X E e f2)(hs:swapsWith e (some (.Subscript o i pos')) pos.line X.env=pure false:=by rfl):
 w5 X E m (.Assign [.Subscript o i pos'] e pos) (Bo fo fi f2):=PS.weak (Fd x y z A hs) λT Z H C=>by
 obtain⟨B,G,F,sd,hp,t,n⟩:=C;refine⟨B,G,F,sd,hp,t,(ja n).mono (λp I v r J H1 K b L=>⟨r,J,sd,b.rs,(ja I).mono (λd f v2 M H2 h N=>?_) λ_ _ q=>q.ext (b.ext0 b.rs.ext)⟩) λ_ _ q=>q⟩
 split at f
 .rename_i a;obtain rfl:=jL.mp N;have j:=b.go h.ff (b.rs.step h)
  split at f
  .rename_i ks ds s;refine⟨r,M,sd,j.rs,(ja f).mono (λk g w O H3 l P=>?_) λ_ _ q=>q.ext (b.ext0 j.rs.ext)⟩;have u:=j.go l.ff (j.rs.step l)
   split at g
   .rename_i q Q
    split at g
    .have ⟨xs,R,S,U⟩:=u.lies s;obtain⟨ys,Y,y2,y3⟩:=G8 S U (jf.same (h.ff.trans l.ff) _ _ L);exact⟨a,_,rfl,(by rw[WR Q P];exact zA.k R ()),g Z _ O _ ((K.trans h.ff).trans l.ff) (u.chg s ⟨ys,by rw[JM,Y],y2,y3⟩)⟩
    .exact g.elim
   .exact g.elim
  .exact f.elim
 .exact f.elim
end
def wI (K:W.Frag)(E:XK)(e:FA)(d0:D):TA:=λZ H Q=>∃B F sd,RS K B F H sd Z /\ (e sd).need (λds=>∀c l a b,Ext F H a b->jd K a ds c->H l=none->a l=none->yF K a b l d0->Q (c++[.ref l]) b) (XW K E F H)
open Classical in
def zX (g:Addr->Res D):Res D:=if h:∃r,∀a,g a=r then Classical.choose h else .no
def dF (h:∀a,g a=r):zX g=r:=by
 have b:∃r,∀a,g a=r:=⟨r,h⟩;unfold zX;rw[dif_pos b];exact(Classical.choose_spec b 0).symm.trans (h 0)
def cJ (h:(zX g).need p q)(a):(g a).need p q:=by
 unfold zX at h
 split at h
 .grind
 .exact h.elim
def DN (a:YG->HP->Res (D×HP))(d0:D)(b:FA):FE:=λsd=>(b sd).bind λds=>zX λl=>(a (ds++[.adr l]) [(l,d0)]).bind λp=>.ok p.1
section
variable {X:Cx}{E:XK}{e:Expr}{es:Ym}{fe:FE}{fr:FA}{d0:D}{pos p:Pos}{name:Str}{k:Nat}{ps:Yk}
def cB (h:QN X E e (dC d0))(hs:starEach [e] X.env=(false,eval e X.env)::starEach [] X.env:=by rfl):PA X [e] (wI X.K E jc d0):=PA.weak (Wh h W9 hs) λZ H Q ⟨B,F,sd,r,n⟩=>⟨B,F,sd,r,λl a b e c f g=>(n) [] l a b e rfl c f g⟩
def DO (c:QE X E e fe)(f:PA X es (wI X.K E fr d0))(hs:starEach (e::es) X.env=(false,eval e X.env)::starEach es X.env:=by rfl):PA X (e::es) (wI X.K E (J0 fe fr) d0):=PA.weak (Wh c f hs) λZ H Q ⟨B,F,sd,r,n⟩=>⟨B,F,sd,r,(ja n).mono (λx g v h z a i=>⟨B,h,sd,r.step a,(ja g).mono (λA j m l o s b t u w y=>(j (v::m) l o s (a.trans b) (.mk (jf.same b.ff _ _ i) t) (Qg a.hh u) w y)) λ_ _ q=>q.ext a⟩) λ_ _ q=>q⟩
def ka (c:yr X.prog X.w X.K X.mg X.base name k ps (Ks X.K Fn))(T:Thrown X E)(s:Room k X.A)(t:Gl X name)(u:PA X (e::es) (wI X.K E fr d0))
 (f:(name == ("__debug__" : Str))=false:=by decide) (x:starEach (e::es) X.env=(false,eval e X.env)::starEach es X.env:=by rfl) (g:(backTo pos (starEach es X.env)).any (·.1)=false:=by rfl):
 QE X E (.Call (.Name name p) (e::es) [] pos) (DN Fn d0 fr):=PE.weak (YZ c T s t u f x g) λZ H Q A=>by
 obtain⟨B,F,sd,r,n⟩:=A;refine⟨B,F,sd,r,(ja n).mono (λds C G l h j b I O P R=>?_) λ_ _ q=>q⟩;show Ks X.K Fn ((G++[.ref l])++[]) j Q E;rw[ZB];have at_:∀{a:Addr},a≠l->jz [(l,d0)] a=none:=λz=>by rw[V5,Ze z];rfl
 have ne:∀a o,H a=some o->a≠l:=by grind
 have J:wf X.K h j [(l,d0)]:=λa d q=>by
  simp_all [V5]
 refine⟨h,ds++[.adr l],[(l,d0)],b.fh,I.snoc (jL.mpr rfl),J,(ja (cJ C l)).mono (λp K v L M w i=>?_) λc fs q=>?_⟩
 .refine K v L M ⟨b.ff.trans w.ff,w.fh,λa o q=>w.hh a o (at_ (ne a o q)) (b.hh a o q),λa N m=>(w.new a (b.new a N m) λz=>?_)⟩ i;cases y:H a with
  |none=>exact m y
  |some o=>rw[b.hh a o y] at z;cases z
 .refine q.ext ⟨b.ff,λa o y=>?_,λa o y=>?_,b.new⟩
  .have na:a≠l:=by grind
   rw[KQ (at_ na)];exact b.fh a o y
  .rw[KQ (at_ (ne a o y))];exact b.hh a o y
end
def sQ {P:Program}{w:World}{K:W.Frag}{mg:Ye}{a:Heap}{f:Addr}{b:FuncData}{ps:Yk}{k:Nat}:FnOk P w K mg a (xA P w) k f b ps (Ks K λ_ _=>.no):=⟨λ_ _ _ _ ⟨_,_,_,_,_,_,n⟩=>n.elim,λ_ _ _ _ _ _ _ _ _ _ _ _ _ ⟨_,_,_,_,_,_,n⟩=>n.elim⟩
structure Ev where
 P:Program
 w:World
 K:W.Frag
 mg:Ye
 base:Heap
 C:Nat->Addr
 t:Nat->Tok
abbrev Ca (e:Ev):=zn e.P e.w e.K e.mg e.base
abbrev yE (e:Ev):=yr e.P e.w e.K e.mg e.base
def vW (K:W.Frag)(T:Nat->Stmt):List (Str×Nat)->Prop
 | []=>True
 |p::r=>vi K p.1 (T p.2)/\vW K T r
def Nn (K:W.Frag):Yk->Prop
 | []=>True
 |x::r=>W.nsIn K mainGlobals x=some none/\Nn K r
def dfs_cons {K:W.Frag}{T:Nat->Stmt}{x:Str}{i:Nat}{r:List (Str×Nat)}(h:vi K x (T i))(q:vW K T r):vW K T ((x,i)::r):=⟨h,q⟩
def nn_cons {K:W.Frag}{x:Str}{r:Yk}(h:W.nsIn K mainGlobals x=some none)(q:Nn K r):Nn K (x::r):=⟨h,q⟩
theorem DP {K:W.Frag}{T:Nat->Stmt}:∀{l:List (Str×Nat)} {j:Nat} {p:Str×Nat},vW K T l->l[j]? = some p->vi K p.1 (T p.2)
 | [],j,p,_,h=>by simp at h
 |q::r,0,p,d,h=>by
  obtain rfl:=by simpa using h
  exact d.1
 |q::r,j+1,p,d,h=>DP d.2 (by simpa using h)
theorem IN {K:W.Frag}{h:Heap}{mg:Ye}(X:K.In h)(G:h.Ns mainGlobals mg):∀{l:Yk},Nn K l->∀x∈l,mg x=none
 | [],_,x,q=>by simp at q
 |y::r,d,x,q=>by
  rcases Us.mp q with z|z
  .rw[z];exact W.mg_none_of X G d.1
  .exact IN X G d.2 x z
abbrev sL (mg:Ye)(bl:Yk):Prop:=∀x∈bl,mg x=none
def JH {mg:Ye}{bl:Yk}{x:Str}(m:sL mg bl)(h:x∈bl:=by decide):mg x=none:=m x h
structure Al (e:Ev)(T:Nat->Stmt)(tbl:List (Str×Nat))(bl:Yk):Prop where
 h:∃h,e.K.In h/\h.Ns mainGlobals e.mg
 d:vW e.K T tbl
 m:sL e.mg bl
section
variable {e:Ev}{T:Nat->Stmt}{tbl:List (Str×Nat)}{bl:Yk}{x:Str}{k:Nat}{ps:Yk}{sp:Sp}
abbrev IP (x:Str)(st:Stmt)(ps:Yk):Prop:=∀(kV doc pm:Value) (an:Option Addr) (cdv ct:Value) (us:Yf),us.length=ps.length->bindArgs (W.fnOf x x (WD st) (QM st) (JV st) .none kV doc pm an cdv ct) ⟨us,[]⟩=pure (ps.zip us)
def qN (a:Al e T tbl bl)(j i:Nat)(ok:∀{f:Addr} {b:FuncData},Fun e.K x x (T i) f b->FnOk e.P e.w e.K e.mg e.base yp k f b ps sp)(h:tbl[j]? = some (x,i):=by rfl)
 (c:IP x (T i) ps:=by intro _ _ _ _ _ _;first|exact mj λ_ _=>rfl|exact rJ λ_ _ _=>rfl|exact rK λ_=>rfl|exact mi λ_ _ _ _=>rfl|exact p4 λ_ _ _ _ _=>rfl|exact g λ_ _ _ _ _ _=>rfl):Ca e x k ps sp:=by
 obtain⟨_,X,G⟩:=a.h;exact(DP a.d h).callee X G ok c
def xx (a:Al e T tbl bl)(j i:Nat)(ok:∀{f:Addr} {b:FuncData},Fun e.K x x (T i) f b->FnOk e.P e.w e.K e.mg e.base (xA e.P e.w) k f b ps sp)(h:tbl[j]? = some (x,i):=by rfl)
 (c:autoParam (IP x (T i) ps) qN._auto_2):yE e x k ps sp:=by
 obtain⟨_,X,G⟩:=a.h;exact(DP a.d h).calleeX X G ok c
end
def j5 {X:Cx}(h:X.N.Nodup:=by dsimp only[JJ,jV,Cx.nox];decide +kernel):X.N.Nodup:=h
def qv {X:Cx}{E:XK}(i:Nat){x:Str}{a:Pos}(c:X.N[i]? = some x:=by rfl)(e:autoParam (bT X.env.scope x) pv._auto_2)(f:(x == ("__debug__" : Str))=false:=by decide)(b:(x == ("__classdict__" : Str))=false:=by decide):QE X E (.Name x a) (jb i):=uY (pv i c e f b)
section
variable {K:W.Frag}{B B':Bs}{F H F' H':Hp}{sd:SD}{hp hp':HP}{Z: St}
def X7:Nat->D->Bool
 |n+1,.tup ds=>ds.all (X7 n)
 |_,d=>K2 d
theorem xC {g:D->Bool}(h:∀d v,g d=true->jf K F d v->jf K F' d v):∀{ds:YG} {a:YE},ds.all g=true->jd K F ds a->jd K F' ds a
 | [],_,_,i=>i
 |d::ds,a,s,i=>by
  obtain⟨x,r,b,c,e⟩:=jn.mp i;rw[U4,Ud] at s;exact jn.mpr ⟨x,r,b,h d x s.1 c,xC h s.2 e⟩
theorem yP (c:∀a b,F a=some (.tup b)->F' a=some (.tup b)):∀(n:Nat) (d:D) (v:V),X7 n d=true->jf K F d v->jf K F' d v
 | 0,d,v,s,h=>h.scal (by cases d<;>exact s)
 |n+1,d,v,s,h=>by
  cases d with
  |tup ds =>
   obtain⟨a,b,e,f,g⟩:=jv.mp h;exact jv.mpr ⟨a,b,e,.of (c a b f),xC (yP c n) s g⟩
  |_=>exact h.scal s
end
def Bp (is:Yj)(f:FE):FE:=λsd=>(f (jU is sd)).bare.bind λd=>if X7 8 d then .ok d else .no
@[simp]def bA (is:Yj)(f:FE)(sd:SD):Bp is f sd=(f (jU is sd)).bare.bind λd=>if X7 8 d then .ok d else .no:=rfl
section
variable {X:Cx}
def t7 {e:Expr}{i:FE}(is:Yj)(h:QE X E0 e i):QE X E0 e (Bp is i):=PE.weak h λZ H Q l=>by
 obtain⟨B,F,sd,r,n⟩:=l;obtain⟨j,m,p,s⟩:=r.frzC is;refine⟨B,j,_,s,(qW r.ext.fh (ja n)).mono (λd f v t w g x=>?_) λc fs q=>q⟩
 split at f
 .rename_i hs;refine f v (X6 F H t) w (Tt r.ext.fh m g) (yP (λa y b=>?_) 8 d v hs x);unfold X6;cases h:H a with
  |none=>rw[b]
  |some o =>
   show F a=some (.tup y);cases q:j a with
   |none=>rw[g.new a q (by rw[h];simp)] at b;exact J6 b
   |some u =>
    have:=g.ff _ _ q;rw[b] at this;obtain rfl:=Zqi this;exact p _ _ q
 .exact f.elim
end
end L2.DL
namespace L2
def EBh (X:Cx)(e:Expr)(t:XK->TE):Prop:=
 ∀(Y:Yb) (s:Shared) (Z: St) (H:Hp) (Q:VK) (E:XK),Inv X Y Z H s->t E Z H Q->YI X (eval e X.env) (EP X Y Z Q) (Z5 X Y Z E) s
def ABh (X:Cx)(es:Ym)(t:XK->TA):Prop:=
 ∀(a:Pos) (Y:Yb) (s:Shared) (Z: St) (H:Hp) (Q:YE->Hp->Prop) (E:XK),Inv X Y Z H s->t E Z H Q->YI X (spliced (backTo a (starEach es X.env))) (AP X Y Z Q) (Z5 X Y Z E) s
abbrev fX:=Ends->(St->XK)->St->Hp->Prop
def PCh (X:Cx)(a:List Stmt)(t:fX):Prop:=
 ∀(Y:Yb) (s:Shared) (Z: St) (H:Hp) (D:Ends) (E:St->XK),Inv X Y Z H s->t D E Z H->YI X (execs a X.env) (SP X Y D) (λe s'=>∃b,Z5 X Y b (E b) e s') s
section
variable {X:Cx}{name:Str}{k:Nat}{ps:Yk}{sp:Sp}{p pos:Pos}{e:Expr}{es:Ym}{te:XK->TE}{t:XK->TA}
def dw {t:TE}(h:PE X.nox e t):EBh X e λ_=>t:=λY s Z H Q E I q=>Zc (h Y s Z H Q (I.wish _) q) (λ_ _ ⟨v,a,b,r,q⟩=>⟨v,a,b.unwish,r,q⟩) λ_ _ z=>z.elim
def tM:ABh X [] λ_=>wG:=λ_ _ _ _ H Q _ I h=>Calls.spliced_nil ⟨[],H,I,.nil,h⟩
def dG (a:EBh X e te)(b:ABh X es t)(hs:starEach (e::es) X.env=(false,eval e X.env)::starEach es X.env:=by rfl):ABh X (e::es) λE=>Ar (te E) (t E):=by
 intro pos Y s Z H Q E I h;rw[hs];exact Calls.spliced_cons (jH (a Y s Z H _ E I h) λu c ⟨x,f,g,i,j⟩=>jH (b pos Y c Z f _ E g j) λr v ⟨l,m,n,o,q⟩=>⟨x::l,m,n,.cons i o,q⟩)
def sS (h:ABh X es t):EBh X (.List es pos) λE=>u5 (t E):=by
 intro Y s Z H Q E I f;refine wpAny_List_spliced (jH (h pos Y s Z H _ E I f) λg a ⟨i,j,c,r,z,q⟩=>⟨by rwa [<- r.length],?_⟩);exact⟨.ref a.heap.objs.size,upd j a.heap.objs.size (.lst i),c.laid (λb u e=>Zq _ e) (Zf _) ⟨z,g,0,r,Zr _ rfl⟩,rfl,q _ (c.hok.fresh (Zf _))⟩
def t6 (c:yr X.prog X.w X.K X.mg X.base name k ps sp)(m:Room k X.A)(n:Gl X name)(o:ABh X (e::es) t)
 (a:(name == ("__debug__" : Str))=false:=by decide) (u:starEach (e::es) X.env=(false,eval e X.env)::starEach es X.env:=by rfl) (g:(backTo pos (starEach es X.env)).any (·.1)=false:=by rfl):
 EBh X (.Call (.Name name p) (e::es) [] pos) λE Z H Q=>t E Z H λi j=>sp i j Q E:=by
 intro Y s Z H Q E I h;obtain⟨f,x,F,b,v,w⟩:=c;exact wpAny_Call_Name_kw (Xh I n w (W.callWith_K I.ok.mod.kin v (jH (o pos Y s Z H _ E I h) λy z ⟨i,j,l,r,q⟩=>⟨l.kIn,Tl F m b l r q⟩) u g) a)
def fF (c:zn X.prog X.w X.K X.mg X.base name k ps sp)(m:Room k X.A)(n:Gl X name)(o:ABh X (e::es) t)
 (a:(name == ("__debug__" : Str))=false:=by decide) (u:starEach (e::es) X.env=(false,eval e X.env)::starEach es X.env:=by rfl) (g:(backTo pos (starEach es X.env)).any (·.1)=false:=by rfl):
 EBh X (.Call (.Name name p) (e::es) [] pos) λE Z H Q=>t E Z H λi j=>sp (i++[]) j Q E0:=by
 intro Y s Z H Q E I h;obtain⟨f,G,F,b,w,x⟩:=c;exact wpAny_Call_Name_kw (Xh I n x (W.callWith_K I.ok.mod.kin w (jH (o pos Y s Z H _ E I h) λJ K ⟨i,j,l,r,q⟩=>⟨l.kIn,Zc (EK (X:=X.nox) F m b .nil Cy (l.wish _) r q) (λ_ _ ⟨v,y,A,B,C⟩=>⟨v,y,A.unwish,B,C⟩) λ_ _ z=>z.elim⟩) u g) a)
def di:PCh X [] λD _ Z H=>D.nx Z H:=λ_ _ _ H _ _ I h=>wpAny_execs_nil ⟨_,H,I,h⟩
def dB {i:Nat}{y:Str}{f a:Pos}{rest:List Stmt}{g:fX}(j:X.N.Nodup)(l:X.N[i]? = some y)(m:yT X.env.scope y)(n:EBh X e te)(o:PCh X rest g)
 (b:swapsWith e (some (.Name y f)) a.line X.env=pure false:=by rfl) (r:X.fn y=true\/X.env.scope.names.lookup y=some .local:=by trivial):
 PCh X (.Assign [.Name y f] e a::rest) λD E Z H=>te (E Z) Z H λv c=>g D E (Z.set i (some v)) c:=by
 intro Y s Z H D E I h;refine wpAny_execs_cons (wpAny_Assign_Name (Zc (n Y s Z H _ (E Z) I h) (λv u q=>?_) λe u w=>⟨Z,w⟩) b);obtain⟨z,c,x,A,B⟩:=q;exact Am x j l m A (λC F=>o Y C _ c D E F B) r
def d9 {c:Str}{C:Addr}{a:List Stmt}{m:fX}{n:TS}{b₀:Stmt}{suite:List Stmt}{r g pos:Pos}(i:X.stack=X.env::X.outer)(j:X.env.frame=some X.env.locals)(u:PCh X a m)(v:Exc X.K X.mg c C)(l:Gl X c)(hs:∀x,qI (X.inSuite x) (b₀::suite) n)
 (w:(c == ("__debug__" : Str))=false:=by decide):PS X (.Try a [.ExceptHandler (some (.Name c r)) none (b₀::suite) g] [] [] pos) (λD Z H=>m D (λo y _ z=>y=.ref C/\n D o z) Z H):=by
 intro Y s Z H D I h;refine Za (wpAny_standAt (wpAny_tryStmt_except (Zc (u Y s Z H D _ I h) (λf A q=>?_) λe A ⟨o,B⟩=>Tn i j v l hs B w)))
 grind[wpAny_execs_nil]
end
end L2
namespace L2.DL
abbrev vU (X:Cx)(e:Expr)(f:FE):Prop:=EBh X e λE=>tD X.K E f
abbrev vV (X:Cx)(es:Ym)(f:FA):Prop:=ABh X es λE=>rO X.K E f
def _root_.L2.EBh.weak {X:Cx}{e:Expr}{t t':XK->TE}(h:EBh X e t)(w:∀E Z H Q,t' E Z H Q->t E Z H Q):EBh X e t':=λY s Z H Q E I q=>h Y s Z H Q E I (w _ _ _ _ q)
def _root_.L2.ABh.weak {X:Cx}{e:Ym}{t t':XK->TA}(h:ABh X e t)(w:∀E Z H Q,t' E Z H Q->t E Z H Q):ABh X e t':=λa Y s Z H Q E I q=>h a Y s Z H Q E I (w _ _ _ _ q)
def _root_.L2.PCh.weak {X:Cx}{e:List Stmt}{t t':fX}(h:PCh X e t)(w:∀D E Z H,t' D E Z H->t D E Z H):PCh X e t':=λY s Z H Q E I q=>h Y s Z H Q E I (w _ _ _ _ q)
def x5 (f:FE):FE:=λsd=>(f sd).strict
@[simp]def nR (f:FE)(sd:SD):x5 f sd=(f sd).strict:=rfl
section
variable {X:Cx}{m:Option Bool}{name:Str}{k:Nat}{ps:Yk}{Fn:YG->Res D}{p pos:Pos}{e:Expr}{es:Ym}{fe:FE}{fr:FA}
def KH (h:QE X.nox E0 e fe):vU X e (x5 fe):=EBh.weak (dw h) λ_ _ _ _ ⟨B,F,sd,r,n⟩=>⟨B,F,sd,r,j9 n⟩
def X8:vV X [] jc:=ABh.weak tM λ_ _ H _ ⟨_,F,_,r,n⟩=>n [] F H (.refl r.ext.fh) .nil
def Kk (c:vU X e fe)(f:vV X es fr)(hs:starEach (e::es) X.env=(false,eval e X.env)::starEach es X.env:=by rfl):vV X (e::es) (J0 fe fr):=ABh.weak (dG c f hs) λE Z H Q ⟨B,F,sd,r,n⟩=>⟨B,F,sd,r,(ja n).mono (λx g v h u a i=>⟨B,h,sd,r.step a,(ja g).mono (λw j l o s b t=>(j (v::l) o s (a.trans b) (.mk (jf.same b.ff _ _ i) t))) λ_ _ q=>q.ext a⟩) λ_ _ q=>q⟩
def c0 (h:vV X es fr):vU X (.List es pos) (qc fr):=EBh.weak (sS h) λE Z H Q i=>by
 obtain⟨B,F,sd,r,n⟩:=i;refine⟨B,F,sd,r,(ja n).mono (λl a b o s c f=>?_) λ_ _ q=>q⟩
 split at a
 .have hz:=f.length;refine⟨QQ (),λq j=>?_⟩;have g:=qf c.fh j (.lst b);exact a _ _ _ (c.trans g) (jm.mpr ⟨q,b,rfl,.of JM,jd.same g.ff _ _ f⟩)
 .exact a.elim
def Bq (c:yr X.prog X.w X.K X.mg X.base name k ps (x8 X.K Fn))(g:Room k X.A)(h:Gl X name)(i:vV X (e::es) fr)
 (a:(name == ("__debug__" : Str))=false:=by decide) (j:starEach (e::es) X.env=(false,eval e X.env)::starEach es X.env:=by rfl) (b:(backTo pos (starEach es X.env)).any (·.1)=false:=by rfl):
 vU X (.Call (.Name name p) (e::es) [] pos) (J5 Fn fr):=EBh.weak (t6 c g h i a j b) λE Z H Q ⟨B,F,sd,r,n⟩ =>
 ⟨B,F,sd,r,(ja n).mono (λds l y o z f s=>⟨o,ds,f.fh,s,l.mono (λd q v t u w x=>q v t u (f.trans w) x) λ_ _ q=>q.ext f⟩) λ_ _ q=>q⟩
def tR (c:zn X.prog X.w X.K X.mg X.base name k ps (yM X.K Fn))(g:Room k X.A)(h:Gl X name)(i:vV X (e::es) fr)
 (a:(name == ("__debug__" : Str))=false:=by decide) (j:starEach (e::es) X.env=(false,eval e X.env)::starEach es X.env:=by rfl) (b:(backTo pos (starEach es X.env)).any (·.1)=false:=by rfl):
 vU X (.Call (.Name name p) (e::es) [] pos) (Qa Fn fr):=EBh.weak (fF c g h i a j b) λE Z H Q ⟨B,F,sd,r,n⟩ =>
 ⟨B,F,sd,r,(ja n).mono (λds l o s t f u=>by
  show yM X.K Fn (o++[]) t Q E0;rw[ZB];exact⟨s,ds,f.fh,u,(j9 l).mono (λd (q:yo X.K F H Q d)=>yo.new λv w x y z=>q v w x (f.trans y) z) λ_ _ q=>q⟩) λ_ _ q=>q⟩
def Br (c:Str)(a:FS)(sd:SD)(g:D->Res Out):Res D->Res Out
 | .ok d=>g d
 | .ex c' [] => @ite _ (c'=c) (Classical.propDecidable _) (a sd).strict .no
 |_=>.no
@[simp]def uy (c:Str)(a:FS)(sd:SD)(g:D->Res Out)(d:D):Br c a sd g (.ok d)=g d:=rfl
@[simp]def cw (c:Str)(a:FS)(sd:SD)(g:D->Res Out):Br c a sd g (.ex c [])=(a sd).strict:=@if_pos _ (Classical.propDecidable _) rfl _ _ _
def X9 (c:Str)(a:FS)(i:Nat)(f:FE)(g:FS):FS:=λsd=>Br c a sd (λd=>g (sd.set i (~~~d))) (f sd)
@[simp]def b8 (c:Str)(a:FS)(i:Nat)(f:FE)(g:FS)(sd:SD):X9 c a i f g sd=Br c a sd (λd=>g (sd.set i (~~~d))) (f sd):=rfl
def m6 (K:W.Frag)(a:XK)(m:Option Bool)(C:Addr)(b g:FS):fX:=λD E Z H=>(E=λc f _ h=>f=.ref C/\hZ K E0 m b D c h)/\∃B F sd,RS K B F H sd Z /\ (g sd).need (zC K m B F D) (XW K a B.F0 B.H0)
abbrev bU (X:Cx)(E':XK)(m:Option Bool)(C:Addr)(gs:FS)(body:List Stmt)(g:FS):Prop:=PCh X body (m6 X.K E' m C gs g)
variable {E':XK}{c:Str}{C:Addr}{g gs:FS}
def dU:bU X E' m C gs [] Qh:=PCh.weak di λD E Z H ⟨_,B,F,sd,r,n⟩=>n Z F H (.refl _) r
def DQ {i:Nat}{y:Str}{j b:Pos}{rest:List Stmt}(ex:Exc X.K X.mg c C)(x:X.N.Nodup)(z:X.N[i]? = some y)(A:yT X.env.scope y)(G:vU X e fe)(I:bU X E' m C gs rest g)
 (f:swapsWith e (some (.Name y j)) b.line X.env=pure false:=by rfl) (J:X.fn y=true\/X.env.scope.names.lookup y=some .local:=by trivial):
 bU X E' m C gs (.Assign [.Name y j] e b::rest) (X9 c gs i fe g):=PCh.weak (dB x z A G I f J) λD E Z H K=>by
 obtain⟨L,B,F,sd,r,n⟩:=K;subst L;refine⟨B,F,sd,r,?_⟩;unfold X9 at n;cases h:fe sd with
 |no=>rwa [h] at n
 |ok d =>
  rw[h] at n;exact λv M Q l N=>⟨rfl,B,M,_,(r.step l).setVal N,Res.need.mono n (λo (q:zC X.K m B F D o)=>q.mono l.ff) λ_ _ q=>q⟩
 |ex s fs =>
  rw[h] at n;cases fs with
  |cons d r=>exact n.elim
  |nil =>
   by_cases t:s=c
   .subst t;rw[cw] at n;intro R a O S u ⟨T,P,w,_⟩;rw[ex.ns] at w;cases w;exact⟨P,B,O,sd,r.step u,(j9 n).mono (λo (q:zC X.K m B F D o)=>q.mono u.ff) λ_ _ q=>q⟩
   .have n:(@ite _ (s=c) (Classical.propDecidable _) (gs sd).strict Res.no).need (zC X.K m B F D) (XW X.K E' B.F0 B.H0):=n;rw[@if_neg _ (Classical.propDecidable _) t] at n;exact n.elim
def df {a:List Stmt}{b₀:Stmt}{suite:List Stmt}{n f pos:Pos}(i:X.stack=X.env::X.outer)(j:X.env.frame=some X.env.locals)(o:Exc X.K X.mg c C)(q:bU X E' m C gs a g)(l:Gl X c)(hs:∀x,zm (X.inSuite x) E0 m (b₀::suite) gs)
 (r:(c == ("__debug__" : Str))=false:=by decide):QS X E' m (.Try a [.ExceptHandler (some (.Name c n)) none (b₀::suite) f] [] [] pos) g:=
 PS.weak (d9 i j q o l hs r) λ_ _ _ h=>⟨rfl,h⟩
def ZI (is:Yj)(a:FT):ze:=λsd hp=>(a (derI hp is sd)).strict.bind λb=>.ok (b,hp)
def d7 {E:XK}{a:FT}(is:Yj)(h:QT X E e a):vC X E e (ZI is a):=PT.weak h λZ H Q i=>by
 obtain⟨B,j,F,sd,hp,t,n⟩:=i;obtain⟨l,v,o,r⟩:=t.frz;refine⟨B,l,_,o.derI r is,(j9 (ja n)).mono (λd s w b u=>?_) λc fs q=>q⟩;have f:Ext F H F b:=.grow t.rs.ext.fh u.hh;exact s j F b (.refl _) (t.go f.ff (t.rs.step f))
abbrev zE:=SD->Res (Bool×SD)
def mz (K:W.Frag)(E:XK)(f:zE):TT:=λZ H Q=>∃B F sd,RS K B F H sd Z /\ (f sd).need (λp=>∀a b,jk F a->RS K B a b p.2 Z -> Q p.1 b) (XW K E B.F0 B.H0)
abbrev vT (X:Cx)(E:XK)(e:Expr)(f:zE):Prop:=PT X e (mz X.K E f)
variable {E:XK}{a b:Expr}{f:FX}{ft gt:zE}{fc:FT}
def Bt (f:FX):zE:=λsd=>(f sd).bind λp=>match p.1 with
 | .bl b=>.ok (b,p.2)
 |_=>.no
def tZ (h:QX X E e f)(l:∀i,isTrue e X.env i=(do let v <- i;standAt e.pos;holding [v] (truthy v)):=by intro _;rfl):vT X E e (Bt f):=PT.weak (E4 h l) λZ H Q o=>by
 obtain⟨B,F,sd,r,n⟩:=o;refine⟨B,F,sd,r,(ja n).mono (λp j v t u w x y=>?_) λ_ _ q=>q⟩;obtain⟨d,s⟩:=p;cases d with
 |bl b=>exact⟨b,jp.mp y,j t u w x⟩
 |_=>exact j.elim
def Bu (f:zE):zE:=λsd=>(f sd).bind λp=>.ok (!p.1,p.2)
def dt (h:vT X E a ft):vT X E (.UnaryOp .Not a pos) (Bu ft):=PT.weak (E7 h) λZ H Q ⟨B,F,sd,r,n⟩=>⟨B,F,sd,r,(ja n).mono (λ_ i=>i) λ_ _ q=>q⟩
def Bv (fc:FT)(ft:zE):zE:=λsd=>(fc sd).bind λb=>if b then ft sd else .ok (false,sd)
def de (l:QT X E a fc)(o:vT X E b ft):vT X E (.BoolOp .And [a,b] pos) (Bv fc ft):=PT.weak (vw (E6 l (E5 o))) λZ H Q s=>by
 obtain⟨B,F,sd,r,n⟩:=s;refine⟨B,F,sd,r,(ja n).mono (λc i j t h=>?_) λ_ _ q=>q.ext r.ext⟩;cases c with
 |true=>exact⟨B,j,sd,r.step h,i.mono (λp q u v w x=>q u v (h.ff.trans w) x) λ_ _ q=>q⟩
 |false=>exact i j t h.ff (r.step h)
def wL (fc:zE)(h i:FS):FS:=λsd=>(fc sd).bind λp=>if p.1 then h p.2 else i p.2
def tz {a b:List Stmt}{h i:FS}(u:vT X E e ft)(v:zm X E m a h)(w:zm X E m b i):QS X E m (.If e a b pos) (wL ft h i):=PS.weak (Ap u v w) λT Z H x=>by
 obtain⟨B,F,sd,r,n⟩:=x;refine⟨B,F,sd,r,(ja n).mono (λp j l y o t=>?_) λ_ _ q=>q⟩;obtain⟨c,s⟩:=p;cases c with
 |true=>exact⟨B,l,s,t,j.mono (λ_ q=>q.mono o) λ_ _ q=>q⟩
 |false=>exact⟨B,l,s,t,j.mono (λ_ q=>q.mono o) λ_ _ q=>q⟩
@[simp]def fu (f:FX)(sd:SD):Bt f sd=(f sd).bind λp=>match p.1 with
 | .bl b=>.ok (b,p.2)
 |_=>.no:=rfl
@[simp]def fy (f:zE)(sd:SD):Bu f sd=(f sd).bind λp=>.ok (!p.1,p.2):=rfl
@[simp]def fz (fc:FT)(ft:zE)(sd:SD):Bv fc ft sd=(fc sd).bind λb=>if b then ft sd else .ok (false,sd):=rfl
@[simp]def ra (fc:zE)(h i:FS)(sd:SD):wL fc h i sd=(fc sd).bind λp=>if p.1 then h p.2 else i p.2:=rfl
end
end L2.DL
set_option maxHeartbeats 4000000
namespace My
open PySem L2 L2.DL
@[simp high] def aw {α: Type}(b a:α)(l):(b::a::l)[1]? = some a:=rfl
@[simp high] def ai {α: Type}(a b v:α)(l):(a::b::l).set 1 v=a::v::l:=rfl
@[simp high] def av {α: Type}(b c a:α)(l):(b::c::a::l)[2]? = some a:=rfl
@[simp high] def ah {α: Type}(a b c v:α)(l):(a::b::c::l).set 2 v=a::b::v::l:=rfl
@[simp high] def au {α: Type}(b c e a:α)(l):(b::c::e::a::l)[3]? = some a:=rfl
@[simp high] def ag {α: Type}(a b c e v:α)(l):(a::b::c::e::l).set 3 v=a::b::c::v::l:=rfl
@[simp high] def aq {α: Type}(b c e f a:α)(l):(b::c::e::f::a::l)[4]? = some a:=rfl
@[simp high] def af {α: Type}(a b c e f v:α)(l):(a::b::c::e::f::l).set 4 v=a::b::c::e::v::l:=rfl
@[simp high] def ap {α: Type}(b c e f g a:α)(l):(b::c::e::f::g::a::l)[5]? = some a:=rfl
@[simp high] def ae {α: Type}(a b c e f g v:α)(l):(a::b::c::e::f::g::l).set 5 v=a::b::c::e::f::v::l:=rfl
@[simp high] def ao {α: Type}(b c e f g h a:α)(l):(b::c::e::f::g::h::a::l)[6]? = some a:=rfl
@[simp high] def ad {α: Type}(a b c e f g h v:α)(l):(a::b::c::e::f::g::h::l).set 6 v=a::b::c::e::f::g::v::l:=rfl
@[simp high] def al {α: Type}(b c e f g h i a:α)(l):(b::c::e::f::g::h::i::a::l)[7]? = some a:=rfl
@[simp high] def aa {α: Type}(a b c e f g h i v:α)(l):(a::b::c::e::f::g::h::i::l).set 7 v=a::b::c::e::f::g::h::v::l:=rfl
@[simp high] def ak {α: Type}(b c e f g h i j a:α)(l):(b::c::e::f::g::h::i::j::a::l)[8]? = some a:=rfl
@[simp high] def lZ {α: Type}(a b c e f g h i j v:α)(l):(a::b::c::e::f::g::h::i::j::l).set 8 v=a::b::c::e::f::g::h::i::v::l:=rfl
@[simp high] def aj {α: Type}(b c e f g h i j m a:α)(l):(b::c::e::f::g::h::i::j::m::a::l)[9]? = some a:=rfl
@[simp high] def lY {α: Type}(a b c e f g h i j m v:α)(l):(a::b::c::e::f::g::h::i::j::m::l).set 9 v=a::b::c::e::f::g::h::i::j::v::l:=rfl
@[simp high] def pP {α: Type}(b c e f g h i j m n a:α)(l):(b::c::e::f::g::h::i::j::m::n::a::l)[10]? = some a:=rfl
@[simp high] def pG {α: Type}(b c e f g h i j m n a v:α)(l):(b::c::e::f::g::h::i::j::m::n::a::l).set 10 v=b::c::e::f::g::h::i::j::m::n::v::l:=rfl
@[simp high] def pO {α: Type}(c e f g h i j m n o b a:α)(l):(c::e::f::g::h::i::j::m::n::o::b::a::l)[11]? = some a:=rfl
@[simp high] def pF {α: Type}(c e f g h i j m n o a b v:α)(l):(c::e::f::g::h::i::j::m::n::o::a::b::l).set 11 v=c::e::f::g::h::i::j::m::n::o::a::v::l:=rfl
def jB (hs:Yh)(t:Int):Int:=hs.getD t.toNat 0
def Q0 (r:Jy)(hs:Yh):Int:=qH (r.map λp=>jB hs p.1+p.2)
theorem XA {α: Type}{l:List α}{k:Nat}(h:k<l.length):qo l (k:Int)=l[k]?:= by
 simp_all [qo,zg]
def DR {hs:Yh}{t:Int}(a:0<=t)(b:t<(hs.length:Int)):qo (hs.map D.int) t=some (.int (jB hs t)):=by
 simp_all [zg,qo,jB]
def Kt {α: Type}{f:α -> D}{l:List α}{i:Nat}{x:D}(h:(l.map f)[i]? = some x):∃p,l[i]? = some p/\x=f p:=()
structure RowOk (n:Int)(r:Jy):Prop where
 ne:r ≠ []
 once:j7 r
 mem:∀p∈r,0<=p.1/\p.1<n
 len:r.length<=12
def DS {ls:Jz}(h:∀r∈ls,r ≠ [])(a:ls.length<1000):KP [.lst (ls.map j0)]=some (.lst ((JL j3 ls).map j0)):=by
 show(Qy K3 (ls.map j0)).bind _=_
 simp_all [Da]
def ji (f:Jz):D:=.lst (f.map j0)
def qg (all:Jz)(row:Jy):Bool:=(all.filter λone => !decide (one=row)&&JC one row).isEmpty
def XB (all a:Jz)(row:Jy):Jz:=if qg all row=true/\row∉a then a++[row] else a
def IQ (all rs:Jz):Jz:=rs.foldl (XB all) []
def JY (rs:Jz):Jz:=JL j3 (IQ rs rs)
theorem Bw (all:Jz):∀(rs a:Jz),(rs.foldl (XB all) a).length<=a.length+rs.length/\(∀r,r∈rs.foldl (XB all) a↔r∈a\/(r∈rs/\qg all r=true))/\(a.Nodup->(rs.foldl (XB all) a).Nodup)
 | [],a=>by simp
 |row::rs,a=>by
  have ⟨b,c,e⟩:=Bw all rs (XB all a row);unfold XB at b c e ⊢
  grind
theorem xE {rs:Jz}{r:Jy}:r∈JY rs↔r∈rs/\qg rs r=true:=by
 grind[JY,IQ,Qr,Bw]
def J7 (f:Jz)(hs:Yh):Int:=xh (f.map λr=>Q0 r hs)
@[simp]def gq (f):QU [ji f]=some (ji f):=rfl
@[simp]def ur (f):WU (ji f)=some (f.map j0):=rfl
@[simp]def uj (r):WU (j0 r)=some (r.map q9):=rfl
@[simp]def bp (f):jP [ji f]=some (.int f.length):=by show some (D.int (f.map j0).length)=_;rw[Zql]
@[simp]def lU (f):v7 [ji f,.ty "list"]=some (.bl true):=rfl
@[simp]def lW (f):v7 [j0 f,.ty "tuple"]=some (.bl true):=rfl
@[simp]def lX (p):v7 [q9 p,.ty "tuple"]=some (.bl true):=rfl
@[simp]def bo (p):jP [q9 p]=some (.int 2):=rfl
@[simp]def bu (p):jA (q9 p) (.int 0)=some (.int p.1):=rfl
@[simp]def bt (p):jA (q9 p) (.int 1)=some (.int p.2):=rfl
structure FormOk (n:Int)(f:Jz):Prop where
 ne:f ≠ []
 rows:∀r∈f,RowOk n r
 len:f.length<=100
def dX {l:Yh}(h:l ≠ [])(w:Int):xh (l.map (· + w))=xh l+w:=by
 obtain⟨a,b⟩:=Ay h;refine(C5 () λy c=>?_).symm
 grind
def cf {l:Yh}(h:l ≠ [])(w:Int):qH (l.map (· + w))=qH l+w:=by
 obtain⟨a,b⟩:=WF h;refine(Fq () λy c=>?_).symm
 grind
def qw (r:Jy):Prop:=(r.map (·.1)).Pairwise (· < ·)
def IR {r:Jy}(h:qw r):r.Pairwise λx y=>jT x y=true:=by
 unfold qw at h;rw[UW] at h;refine h.imp λ{a b} z=>?_
 simp_all [jT]
def xT {r o:Jy}:JC r o=true↔∀p∈r,∃w,J8 o p.1=some w/\p.2<=w:=by
 grind[JC,yd,List.all_eq_true]
theorem Ku {a b c:Jy}(e:JC a b=true)(f:JC b c=true):JC a c=true:=by
 rw[xT] at *;intro p hp;obtain⟨w,g,h⟩:=e p hp;obtain⟨v,i,j⟩:=f _ (Qj g);exact⟨v,i,VD h j⟩
def IS {a b:Jy}(c:j7 a)(e:JC a b=true)(f:JC b a=true):∀p∈a,p∈b:=by
 rw[xT] at *;intro p hp;obtain⟨w,g,j⟩:=e p hp;have h:=Qj g;obtain⟨v,i,l⟩:=f _ h;rw[c.look hp] at i
 grind
theorem IT {a b:Jy}(f:j7 a)(g:j7 b)(h:qw a)(i:qw b)(c:JC a b=true)(e:JC b a=true):a=b:=
 WK wC (IR h) (IR i) λp=>⟨IS f c e p,IS g e c p⟩
theorem DT:∀{rs:Jz},rs ≠ []->(∀r∈rs,j7 r/\qw r)->∃m∈rs,∀o∈rs,JC o m=true->o=m
 | [],h,_=>Zn rfl h
 |x::rs,_,ok=>by
  by_cases q:rs=[]
  .simp_all
  .have ⟨m,a,b⟩:=DT q ()
   grind[Zqm,Zqs,Ku,IT]
def wA {rs:Jz}{m:Jy}:qg rs m=true↔∀o∈rs,JC o m=true->o=m:=by
 grind[qg,List.isEmpty_iff,List.filter_eq_nil_iff]
structure Good (n:Int)(f:Jz):Prop where
 ne:f ≠ []
 rows:∀r∈f,RowOk n r
 rise:∀r∈f,qw r
 len:f.length<=40
 anti:∀r∈f,∀s∈f,JC r s=true->r=s
 srt:f.Pairwise λa b=>j3 a b=true
def cb (j n:Nat):min (j:Int) (n:Int)=((min j n:Nat):Int):=by
 lia
def IU {α: Type}(l:List α){k:Int}(a:0<=k):Qp l (some k) none none=l.drop k.toNat:=by
 have e:sliceBounds (some k) none none l.length=(((min k.toNat l.length:Nat):Int),(l.length:Int),1):=by
  obtain⟨j,rfl⟩:=Int.eq_ofNat_of_zero_le a;unfold sliceBounds;simp only;rw[Ze (Int.not_lt.mpr a),cb];exact rfl
 unfold Qp;rw[e,sliceRange_one];have ep:(λx:Nat=>l[x]?)=λx:Nat=>l.toArray[x]?:= by simp
 rw[ep,(pick_run l.toArray (min k.toNat l.length) (l.length-min k.toNat l.length))];by_cases c:k.toNat<=l.length
 .rw[Vi c,UY ()]
 .rw[Nat.min_eq_right (),Vg (Zf _),Vg ()];exact List.take_nil
def IV {α: Type}{f:α -> Bool}{l:List α}{i:Nat}{p:α}(h:∀q∈l.take i,f q=false)(hp:l[i]? = some p)(a:f p=true):l.find? f=some p:=by
 grind[List.take_append_drop,List.drop_eq_getElem_cons]
structure ThingsOk (ts:Yh):Prop where
 ne:ts ≠ []
 len:ts.length<=4
 rng:∀t∈ts,0<=t/\t<12
 up:ts.Pairwise (· < ·)
def jr (r:Jy):Jy:=r.map λp=>(p.1,-p.2)
def Bx {r:Jy}(h:qw r):j7 r:=by
 grind[qw,j7,List.Nodup]
def cE {r:Jy}(h:j7 r){p q:Int×Int}(hp:p∈r)(b:q∈r)(e:p.1=q.1):p=q:=by
 induction r with
 |nil=>cases hp
 |cons a r c =>
  grind[j7,List.map_cons,List.nodup_cons]
def IW {r:Jy}{hs:Yh}{p:Int×Int}(hp:p∈r):jB hs p.1+p.2<=Q0 r hs:=
 (WF (λz=>())).2 _ ()
def dE {r:Jy}{hs:Yh}(a:r ≠ []):∃p∈r,Q0 r hs=jB hs p.1+p.2:=have ⟨p,hp,e⟩:=Ja.mp (WF (λz=>a (Je.mp z))).1;⟨p,hp,e.symm⟩
def Bz {r:Jy}{hs:Yh}{x:Int}(a:r ≠ []):Q0 r hs<=x↔∀p∈r,jB hs p.1+p.2<=x:=by
 constructor
 .intro h p hp;exact VD (IW hp) h
 .intro h;obtain⟨p,hp,e⟩:=dE a;rw[e];exact h p hp
def V7 {f:Jz}{hs:Yh}{r:Jy}(a:r∈f):J7 f hs<=Q0 r hs:=
 (Ay (λz=>())).2 _ ()
def V8 {f:Jz}{hs:Yh}(a:f ≠ []):∃r∈f,J7 f hs=Q0 r hs:=have ⟨p,hp,e⟩:=Ja.mp (Ay (λz=>a (Je.mp z))).1;⟨p,hp,e.symm⟩
structure Over (f:Jz)(hs:Yh):Prop where
 ne:f ≠ []
 rne:∀r∈f,r ≠ []
 once:∀r∈f,j7 r
 bnd:∀r∈f,∀p∈r,0<=p.1/\p.1<(hs.length:Int)
theorem ci {r:Jy}{t:Int}(h:(J8 r t).isSome=true):∃w,J8 r t=some w/\(t,w)∈r:=by
 cases q:J8 r t with
 |none=>simp_all
 |some w=>exact⟨w,rfl,Qj q⟩
structure RoundOk (n:Int)(fs:List Jz):Prop where
 len:(fs.length:Int)=n
 low:1<=n
 most:n<=12
 forms:∀f∈fs,FormOk n f
def wX {n:Int}{fs:List Jz}(R:RoundOk n fs){hs:Yh}(h:hs.length=fs.length):∀f∈fs,Over f hs:=λf b=>⟨(R.forms f b).ne,λr a=>((R.forms f b).rows r a).ne,λr a=>((R.forms f b).rows r a).once,λr a p hp=>by
 have:=((R.forms f b).rows r a).mem p hp;have:=R.len;lia⟩
def pH (fs:List Jz):D:=.lst (fs.map ji)
@[simp]def uq (fs):WU (pH fs)=some (fs.map ji):=rfl
open L2.ST
theorem DU:∀{ys a:Yh},a.Pairwise (· < ·)->ys.Pairwise (· < ·)->(∀x∈a,x∈ys)->a.length<=ys.length/\(a.length=ys.length->a=ys)
 | [],a,_,_,h=>by
  cases a with
  |nil=>simp
  |cons x a=>cases h x Zqs
 |y::ys,[],_,_,_=>by simp
 |y::ys,x::a,hx,hy,h=>by
  rw[List.pairwise_cons] at hx hy;rcases Us.mp (h x Zqs) with q|q
  .have ⟨b,c⟩:=DU hx.2 hy.2 λz hz=>by
    grind
   simp_all
  .obtain⟨b,_⟩:=DU (Ji.mpr hx) hy.2 λz hz=>by
    grind
   grind
theorem IX:∀{a b:Jy},a.map (·.1)=b.map (·.1)->(∀(i:Nat) p q,a[i]? = some p->b[i]? = some q->p.2<=q.2)->a≠b->j3 a b=true
 | [],[],_,_,h=>Zn rfl h
 | [],_::_,e,_,_=>by simp at e
 |_::_,[],e,_,_=>by simp at e
 |p::a,q::b,e,hw,hn=>by
  have f:=hw 0 p q rfl rfl;rw[KW];by_cases z:p=q
  .rw[Zd z];refine IX ((List.cons.inj e).2) (λi p q hp c=>hw (i+1) p q hp c) ()
  grind[WH]
def cC {a b:Jy}(j:qw a)(e:qw b)(h:JC a b=true)(l:a≠b):zq a b=true:=by
 have u:=xT.mp h;obtain⟨f,g⟩:=DU j e λx m=>by
  obtain⟨p,hp,rfl⟩:=Ja.mp m;obtain⟨w,c,_⟩:=u p hp;exact Ja.mpr ⟨(p.1,w),Qj c,rfl⟩
 rw[Zql,Zql] at f g;rw[X4];rcases Nat.lt_or_eq_of_le f with q|q
 .exact .inl q
 .refine .inr ⟨q,IX (g q) (λi p r hp n=>?_) l⟩;obtain⟨w,c,o⟩:=u p ();have s:p.1=r.1:=by
   have t:(a.map (·.1))[i]? = some p.1:=by grind
   simp_all
  have:=cE (Bx e) (Ug n) (Qj c) s.symm
  rwa [this]
def ZJ {α: Type}{ltb:α -> α -> Bool}(T:Tot ltb){l:List α}(e:l.Nodup):(JL ltb l).Pairwise λa b=>ltb a b=true:=by
 have c:(JL ltb l).Nodup:=(Qr l).nodup_iff.mpr e;refine List.Pairwise.imp ?_ ((WI T l).and c);rintro a b ⟨f,g⟩;cases q:ltb a b with
 |true=>rfl
 |false=>exact Zn (T.tot _ _ q f) g
def qS (rs:Jz):Jz:=JL zq (JL j3 (qO rs))
theorem hW {rs:Jz}{r:Jy}:r∈qS rs↔r∈rs:=by
 grind[qS,mf,Qr]
def IY (rs:Jz):(qS rs).Pairwise λa b=>zq a b=true:=ZJ vL ((Qr _).nodup_iff.mpr (Ik rs))
def IZ (rs:Jz):(qS rs).length<=rs.length:=by
 unfold qS;rw[(Qr _).length_eq,(Qr _).length_eq];exact Il rs
def zp (kept:Jz)(r:Jy):Jz:=if kept.any (λo=>JC o r)=true then kept else kept++[r]
def xK (rs:Jz):Jz:=(qS rs).filter (qg rs)
theorem La {rs:Jz}(n:∀r∈rs,qw r):∀i,i<=(qS rs).length->((qS rs).take i).foldl zp []=((qS rs).take i).filter (qg rs)
 | 0,_=>by simp
 |i+1,hi=>by
  have E:=La n i ();have st:=IY rs;have p:∀r,r∈qS rs↔r∈rs:=λr=>hW;generalize qS rs=L at hi E st p;have a:i<L.length:=()
  rw[KM (Zqg a),Vp,List.filter_append,E];have s:∀o∈L.take i,zq o L[i]=true:=λo c=>by
   obtain⟨j,t,rfl⟩:=UB c;rw[Uv] at t;rw[List.getElem_take];exact Jj.mp st j i () a ()
  have u:=(p L[i]).mp (Uw a);show zp ((L.take i).filter (qg rs)) L[i]=_;unfold zp;cases q:qg rs L[i] with
  |true =>
   have low:=wA.mp q;rw[Ze,List.filter_cons_of_pos q,List.filter_nil];intro z;have ⟨o,c,v⟩:=U0.mp z;have c:=(Jf.mp c).1;have b:=s o c;rw[(low o ((p o).mp (List.mem_of_mem_take c)) v)] at b;have:=vL.asy _ _ b
   simp_all
  |false =>
   have H:¬ ∀o∈rs,JC o L[i]=true->o=L[i]:=λz=>by rw[wA.mpr z] at q;cases q
   obtain⟨o,c,v,hne⟩:∃o∈rs,JC o L[i]=true/\o≠L[i]:=by
    exact by grind
   obtain⟨f,y,A⟩:=DT (λz=>by
    have:o∈rs.filter λo=>JC o L[i]:=Jf.mpr ⟨c,v⟩;rw[z] at this;cases this) λr h=>⟨Bx (n r (Jf.mp h).1),()⟩
   obtain⟨F,B⟩:=Jf.mp y;have g:=wA.mpr λx G l=>A x (Jf.mpr ⟨G,Ku l B⟩) l;have m:f≠L[i]:=by grind
   have e:f∈L.take i:=by
    obtain⟨j,t,C⟩:=UB ((p f).mpr F);rcases Vb j i with w|w|w
    .rw[<- C,List.mem_take_iff_getElem];exact by grind
    .subst w;exact Zn C.symm m
    .have b:=Jj.mp st i j a t w;rw[C] at b;have:=vL.asy _ _ b;rw[(cC (n f F) (n _ u) B m)] at this;cases this
   rw[Zd (U0.mpr ⟨f,Jf.mpr ⟨e,g⟩,B⟩),List.filter_cons_of_neg (by rw[q];simp),List.filter_nil,ZB]
def Lb (rs:Jz):JL j3 (xK rs)=JY rs:=by
 have c:(xK rs).Nodup:=by
  have:(qS rs).Nodup:=by
   refine(IY rs).imp λ{a b} h e=>?_;have:=vL.asy _ _ h
   simp_all
  exact List.Pairwise.sublist (List.filter_sublist) this
 refine WK ya (ZJ ya c) (ZJ ya ((Bw rs rs []).2.2 VB)) λr=>?_
 grind[xK,xE,hW,Qr]
structure PairsOk (ts:Yh)(r:Jy):Prop where
 ne:r ≠ []
 len:r.length<=4
 mem:∀p∈r,p.1∈ts
 up:r.Pairwise λp q=>p.1<q.1
def dI {r:Jy}(h:r.Pairwise λp q=>p.1<q.1):j7 r:=by
 grind[j7,List.Nodup,List.pairwise_map]
def PairsOk.row {a:Yh}{r:Jy}(T:ThingsOk a)(P:PairsOk a r):RowOk 12 r:=⟨P.ne,dI P.up,λp hp=>T.rng _ (P.mem p hp),Zh P.len ()⟩
def xg (b a:Jy):Bool:=a.all λp=>decide (p.2<=(J8 b p.1).getD p.2)
def qk (p:Jy×Jy):D:=.tup [j0 p.1,j0 p.2]
def qi (ls es:Jz):List (Jy×Jy):=ls.flatMap λl=>(es.filter (xg l)).map λe=>(l,e)
def cR {s r:Jy}{hs:Yh}(a:s ≠ [])(e:j7 r)(h:JC s r=true):Q0 s hs<=Q0 r hs:=by
 rw[Bz a];intro p hp;obtain⟨w,b,c⟩:=xT.mp h p hp;have:=IW (hs:=hs) (Qj b)
 grind
def XC {rs:Jz}(ok:∀r∈rs,j7 r/\qw r){r:Jy}(e:r∈rs):∃s∈JY rs,JC s r=true:=by
 have i:=xT.mpr λp hp=>⟨p.2,(ok r e).1.look hp,UM _⟩;have ne:rs.filter (λo=>JC o r) ≠ []:=λz=>by
  simp_all
 obtain⟨m,f,h⟩:=DT ne ();obtain⟨b,a⟩:=Jf.mp f;exact⟨m,xE.mpr ⟨b,wA.mpr λo g c=>h o (Jf.mpr ⟨g,Ku c a⟩) c⟩,a⟩
def cY {rs:Jz}{hs:Yh}(j:rs ≠ [])(ok:∀r∈rs,r ≠ []/\j7 r/\qw r):J7 (JY rs) hs=J7 rs hs:=by
 obtain⟨r,i,e⟩:=V8 (hs:=hs) j;obtain⟨s,f,l⟩:=XC (λr h=>(ok r h).2) i;have a:=V7 (hs:=hs) f;have b:=cR (hs:=hs) (ok s (xE.mp f).1).1 (ok r i).2.1 l;have ne:JY rs ≠ []:=by grind
 obtain⟨m,g,n⟩:=V8 (hs:=hs) ne;have c:=V7 (hs:=hs) (xE.mp g).1;lia
def da {f g:Jz}(h:f.length+g.length<=1000):j1 (ji f) (ji g)=some (ji (f++g)):=by
 show(if(f.map j0).length+(g.map j0).length<=sizeLine then _ else _)=_;rw[Zql,Zql,Zd (QQ h)];unfold ji;simp
def W1 (rs):(JY rs).Pairwise λa b=>j3 a b=true:=ZJ ya ((Bw rs rs []).2.2 VB)
structure JRow (r:Jy):Prop where
 ne:r ≠ []
 rise:qw r
 bnd:∀p∈r,0<=p.1/\p.1<12
def JRow.once {r:Jy}(h:JRow r):j7 r:=Bx h.rise
def JRow.len {r:Jy}(h:JRow r):r.length<=12:=by
 have b:∀(l:Yh) (a:Int),l.Pairwise (· < ·)->(∀x∈l,a<=x/\x<12)->(l.length:Int)<=max 0 (12-a):=by
  intro l
  induction l with
  |nil=>simp;lia
  |cons x l c =>
   intro a hp e;rw[List.pairwise_cons] at hp;have g:=e x Zqs;have:=c (x+1) hp.2 ()
   grind
 have:=b _ 0 h.rise λx f=>by
  obtain⟨p,hp,rfl⟩:=Ja.mp f;exact h.bnd p hp
 grind
def asc (x:Str):Prop:=x.cps.all (· < 128)=true
def vM {x:Str}:asc x↔∀c∈x.cps.toList,c<128:=by
 unfold asc;rw[<- Array.all_toList,Vn];simp
def dy (a b:Str):(a++b).length=a.length+b.length:=Array.size_append
def B0 (a b:Str):(a++b).cps.toList=a.cps.toList++b.cps.toList:=Array.toList_append
def dr {a b:Str}(f:asc a)(g:asc b):asc (a++b):=vM.mpr λc e=>by
 rw[B0] at e;rcases Jb.mp e with h|h
 .exact vM.mp f c h
 .exact vM.mp g c h
structure TxtOk (n:Nat)(x:Str):Prop where
 len:x.length<=n
 asc:asc x
def TxtOk.app {m n:Nat}{a b:Str}(c:TxtOk m a)(e:TxtOk n b):TxtOk (m+n) (a++b):=⟨by rw[dy];have:=c.len;have:=e.len;lia,dr c.asc e.asc⟩
def TxtOk.mono {m n:Nat}{a:Str}(b:TxtOk m a)(h:m<=n):TxtOk n a:=⟨Zh b.len h,b.asc⟩
def tW {c:Nat}(h:c<128):TxtOk 1 ⟨#[c]⟩:=⟨Zf _,vM.mpr λd a=>()⟩
def Lc {n:Nat}{x:Str}(h:(decide (x.length<=n)&&x.cps.all (· < 128))=true):TxtOk n x:=by
 rw[Ud] at h;exact⟨of_decide_eq_true h.1,h.2⟩
def B2 {m n:Nat}{a b:Str}(c:TxtOk m a)(e:TxtOk n b)(h:m+n<=1000):j1 (.str a) (.str b)=some (.str (a++b)):=Zd (QQ (by have:=c.len;have:=e.len;lia))
def dQ {n:Nat}{a:Str}{k:Int}(b:TxtOk n a)(h:n<=1000)(k0:0<=k)(k1:k<(a.length:Int)):∃c,jA (.str a) (.int k)=some (.str ⟨#[c]⟩)/\a.cps.toList[k.toNat]? = some c/\c<128:=by
 have f:k.toNat<a.cps.toList.length:=by
  rw[Ui];have:a.length=a.cps.size:=rfl;lia
 refine⟨a.cps.toList[k.toNat],?_,(),vM.mp b.asc _ (Uw f)⟩;show(if a.length<=sizeLine then(qo a.cps.toList k).map λc=>D.str ⟨#[c]⟩ else none)=_;rw[Zd (QQ (by have:=b.len;lia))];have e:qo a.cps.toList k=some a.cps.toList[k.toNat]:=by
  unfold qo zg;rw[Zd k0,Zd (by rwa [Ui])];exact()
 rw[e];rfl
def cS:TxtOk 26 "abcdefghijklmnopqrstuvwxyz" := Lc (by decide +kernel)
def pb:(("abcdefghijklmnopqrstuvwxyz" : Str).length:Int)=26:=by rfl
def cx:∀k:Fin 64,(Nat.ble (k.val:Int).natAbs.log2 1900=true)/\(decide ((toString (k.val:Int):Str).length<=2)&&(toString (k.val:Int):Str).cps.all (· < 128))=true:=by decide +kernel
def xL (k:Nat):Str:=⟨#[97+k]⟩
def yK (k:Nat):Str:=(toString (k:Int):Str)
def cU:∀k:Fin 26,(("abcdefghijklmnopqrstuvwxyz" : Str).cps.toList)[k.val]? = some (97+k.val):=by decide +kernel
def Ld {k:Int}(k0:0<=k)(k1:k<26):jA (.str "abcdefghijklmnopqrstuvwxyz") (.int k)=some (.str (xL k.toNat)):=by
 obtain⟨c,b,e,_⟩:=dQ cS () k0 (by rwa [pb]);have a:=cU ⟨k.toNat,()⟩;rw[e] at a;rw[b,Zqi a];rfl
def dZ {k:Nat}(h:k<64):zt [.int (k:Int)]=some (.str (yK k))/\TxtOk 2 (yK k):=by
 obtain⟨a,b⟩:=cx ⟨k,h⟩;exact⟨Zd a,Lc b⟩
def Le {k:Nat}(h:k<26):TxtOk 1 (xL k):=tW ()
def low (x:Str):Prop:=∀c∈x.cps.toList,97<=c/\c<123
@[simp]def mH (n:Nat)(g:FS)(a b c d e:D):jE n 5 g [a,b,c,d,e]=(g (~~~a::~~~b::~~~c::~~~d::~~~e::List.replicate (n-5) none)).bind xI:=rfl
structure Pl where
 name:Str
 givens:Yk
 rows:List (Str×Str×Jy)
def jN (r:Str×Str×Jy):D:=.tup [.str r.1,.str r.2.1,j0 r.2.2]
def DV (p:Pl):D:=.tup [.str p.name,.lst (p.givens.map .str),.lst (p.rows.map jN)]
def Qw (p:Pl):D:=.ins "Plan" ["name", "givens", "rows"] [.str p.name,.lst (p.givens.map .str),.lst (p.rows.map jN)]
def JD (ps:List Pl):D:=.ins "Book" ["plans"] [.lst (ps.map Qw)]
def kf (p:Str×Int):D:=.tup [.str p.1,.int p.2]
@[simp]def gv (r):jA (jN r) (.int 0)=some (.str r.1):=rfl
@[simp]def gu (r):jA (jN r) (.int 1)=some (.str r.2.1):=rfl
@[simp]def gr (r):jA (jN r) (.int 2)=some (j0 r.2.2):=rfl
@[simp]def lh (p):jA (DV p) (.int 0)=some (.str p.name):=rfl
@[simp]def lj (p):jA (DV p) (.int 1)=some (.lst (p.givens.map .str)):=rfl
@[simp]def lC (p):jA (DV p) (.int 2)=some (.lst (p.rows.map jN)):=rfl
@[simp]def gy (p):jA (kf p) (.int 0)=some (.str p.1):=rfl
@[simp]def gw (p):jA (kf p) (.int 1)=some (.int p.2):=rfl
@[simp]def l9 (ps):qX "Book" "plans" (JD ps)=some (.lst (ps.map Qw)):=rfl
@[simp]def gH (p):qX "Plan" "name" (Qw p)=some (.str p.name):=rfl
@[simp]def lR (p):qX "Plan" "givens" (Qw p)=some (.lst (p.givens.map .str)):=rfl
@[simp]def gG (p):qX "Plan" "rows" (Qw p)=some (.lst (p.rows.map jN)):=rfl
def Lf {n:Nat}{x:Str}(h:asc x):qR (n+1) (.str x)=true:=by
 show PyData.strOk x=true;unfold PyData.strOk;rw[<- Array.all_toList,Vn];exact λc a=>Zp (Uf (vM.mp h c a) ())
def cK {α: Type}{f:Nat -> α}{n:Nat}(h:((List.range n).map f).Nodup){a b:Nat}(c:a<n)(g:b<n)(e:f a=f b):a=b:=by
 have h:=Jj.mp (UW.mp h)
 grind
def rT (l:Yj):Bool:=l[0]? == some 120||l[0]? == some 121||l[0]? == some 113||l[2]? == some 113
structure WB (ps:List Pl):Prop where
 l1:1<=ps.length
 l2:ps.length<=20
 nd:(ps.map (·.name)).Nodup
 ok:∀p∈ps,TxtOk 12 p.name/\1<=p.name.length/\p.name ≠ "all" /\ p.name ≠ "first"
 how:∀(i:Nat) (p:Pl),ps[i]? = some p->∀r∈p.rows,r.2.1 = "all" \/ r.2.1 = "first" \/ r.2.1∈(ps.take i).map (·.name)
 sz:∀p∈ps,p.rows.length<=40/\p.givens.length<=12
@[simp]def b9 (is)(f)(sd):fL is f sd=(f (jU is sd)).bare.bind λd=>if IA d then .ok d else .no:=rfl
@[simp]def bF (c)(names)(Fn)(fa)(sd):Z8 c names Fn fa sd=(fa sd).bind λds=>(Fn ds).bind λes=>.ok (.ins c names es):=rfl
@[simp]def cM (i j k)(r)(sd):JQ (.tup [i,j,k]) (jN r) sd=.ok (((sd.set i (~~~(.str r.1))).set j (~~~(.str r.2.1))).set k (~~~(j0 r.2.2))):=rfl
@[simp]def lJ (x):QB (.str x)=some (.inr x):=rfl
def dT (t:List (Str×Int)):D:=.dct (t.map λp=>.inr p.1) (t.map λp=>.int p.2)
def yC (t:List (Str×Int))(x:Str):Option Int:=(t.find? λp=>decide (p.1=x)).map (·.2)
def dL {a b:Str}:((UN a:jC)=.inr b)↔a=b:=()
theorem DW:∀(t:List (Str×Int)) (x:Str),jI (t.map λp=>.inr p.1) (t.map λp=>.int p.2) (.inr x)=(yC t x).map .int
 | [],_=>rfl
 |p::t,x=>by
  rw[Zl,Zl];unfold jI yC;rw[List.find?_cons];by_cases h:p.1=x
  .simp_all
  .rw[Ze (λz=>h (dL.mp z)),Zo h];exact DW t x
@[simp]def sv (t)(x):jA (dT t) (.str x)=(yC t x).map .int:=DW t x
@[simp]def sw (neg)(t)(x):wS neg (.str x) (dT t)=some (.bl (if neg then !(yC t x).isSome else(yC t x).isSome)):=by
 show some (D.bl (if neg then !(jI (t.map λp=>.inr p.1) (t.map λp=>.int p.2) (.inr x)).isSome else(jI (t.map λp=>.inr p.1) (t.map λp=>.int p.2) (.inr x)).isSome))=_;rw[DW,Option.isSome_map]
def me {t:List (Str×Int)}{x:Str}:yC t x=none↔x∉t.map (·.1):=by
 grind[yC,Option.map_eq_none_iff,List.find?_eq_none]
def sU {a b:List (Str×Int)}{x:Str}(h:x∉a.map (·.1)):yC (a++b) x=yC b x:=by
 unfold yC;rw[List.find?_append,Option.map_eq_none_iff.mp (me.mpr h)];rfl
def kT (x:Str)(v:Int)(b:List (Str×Int)):yC ((x,v)::b) x=some v:=by
 simp_all [yC]
def nu (how:Str):Bool:=!(decide (how = "all")||decide (how = "first"))
def uf (t:List (Str×Int))(p:Pl):Int:=p.rows.length+((p.rows.filter λr=>nu r.2.1).map λr=>(yC t r.2.1).getD 0).sum
def vy (t:List (Str×Int))(p:Pl):List (Str×Int):=t++[(p.name,uf t p)]
def yu (ps:List Pl):List (Str×Int):=ps.foldl vy []
def dS (ps)(p):yu (ps++[p])=yu ps++[(p.name,uf (yu ps) p)]:=by
 unfold yu;rw[Vp];rfl
theorem Lg:∀(l:List Pl) (t:List (Str×Int)),∃u,l.foldl vy t=t++u
 | [],t=>⟨[],()⟩
 |p::l,t=>by
  obtain⟨u,e⟩:=Lg l (vy t p)
  simp_all [vy]
theorem Lh:∀(l:List Pl) t,(l.foldl vy t).map (·.1)=t.map (·.1)++l.map (·.name)
 | [],t=>by simp
 |p::l,t=>by
  rw[Vh,Lh l];unfold vy;simp
theorem DX (l):(yu l).map (·.1)=l.map (·.name):=by
 grind[yu,Lh]
def WB.fresh {ps:List Pl}(W:WB ps){i:Nat}{p:Pl}(f:ps[i]? = some p):p.name∉(yu (ps.take i)).map (·.1):=by
 rw[DX];intro z;have a:i<ps.length:=();obtain⟨y,b,e⟩:=Ja.mp z;obtain⟨j,c,g⟩:=UB b;rw[Uv] at c;have h:=Jj.mp (UW.mp W.nd) j i () a ()
 simp_all
def WB.at {ps:List Pl}(W:WB ps){i:Nat}{p:Pl}(a:ps[i]? = some p):yC (yu ps) p.name=some (uf (yu (ps.take i)) p):=by
 have e:yu ps=(ps.drop (i+1)).foldl vy (yu (ps.take i)++[(p.name,uf (yu (ps.take i)) p)]):=by
  rw[<- dS];unfold yu;rw[<- Vp];have tk:ps.take (i+1)=ps.take i++[p]:=by rw[Vv,a];rfl
  rw[<- tk,UK]
 obtain⟨u,b⟩:=Lg (ps.drop (i+1)) (yu (ps.take i)++[(p.name,uf (yu (ps.take i)) p)]);rw[e,b,Uh,sU (W.fresh a)];exact kT _ _ _
def WB.part {ps:List Pl}(W:WB ps){i:Nat}{p:Pl}(c:ps[i]? = some p){r:Str×Str×Jy}(f:r∈p.rows):(yC (yu (ps.take i)) r.2.1).isSome=nu r.2.1:=by
 have a:∀w:Str,(∀y∈ps,y.name≠w)->yC (yu (ps.take i)) w=none:=λw g=>me.mpr (by
  grind[DX])
 rcases W.how i p c r f with z|z|z
 .rw[z,a "all" λy b=>(W.ok y b).2.2.1];rfl
 .rw[z,a "first" λy b=>(W.ok y b).2.2.2];rfl
 .have j:(yC (yu (ps.take i)) r.2.1).isSome=true:=by
   cases h:yC (yu (ps.take i)) r.2.1 with
   |some v=>rfl
   |none=>exact Zn (by rwa [DX]) (me.mp h)
  have ⟨y,b,e⟩:=Ja.mp z;have ok:=W.ok y ()
  simp_all [nu]
@[simp]def nN (fe)(sd)(hp):yt fe sd hp=(fe sd).bind λd=>.ok (d,hp):=rfl
@[simp]def b7 (g)(fa fb)(sd)(hp):zH g fa fb sd hp=(fa sd hp).bind λp=>(fb sd p.2).bind λq=>(Res.ofO (g p.1 q.1)).bind λz=>.ok (z,q.2):=rfl
@[simp]def lD (Fn)(fr)(sd)(hp):Kj Fn fr sd hp=(fr sd).bind λds=>Fn ds hp:=rfl
@[simp]def f6 (sd)(hp):Bl sd hp=.ok ([],hp):=rfl
@[simp]def c7 (f)(g)(sd)(hp):Wy f g sd hp=(f sd hp).bind λp=>(g sd p.2).bind λq=>.ok (p.1::q.1,q.2):=rfl
@[simp]def f5 (fr)(sd)(hp):vZ fr sd hp=(fr sd hp).bind λp=>if p.1.length<=1000 then .ok (.tup p.1,p.2) else .no:=rfl
@[simp]def l8 (i)(f)(sd)(hp):DJ i f sd hp=(f sd hp).bind λp=>.ok (.next (sd.set i (~~~(p.1))) p.2):=rfl
@[simp]def bH (i)(g)(sd)(hp):wV i g sd hp=g (jU [i] sd) hp:=rfl
@[simp]def d8 (is)(f)(sd)(hp):zG is f sd hp=(f (derI hp is sd)).strict.bind λd=>if K2 d then .ok (d,hp) else .no:=rfl
def eK (g:qp):Out2->Res (D×HP)
 | .next sd hp=>g sd hp
 |_=>.no
@[simp]def bP (g)(sd)(hp):eK g (.next sd hp)=g sd hp:=rfl
@[simp]def Li (a:qL)(g:qp)(sd:SD)(hp:HP):xi a g sd hp=(a sd hp).bind (eK g):=by
 rfl
@[simp]def V9 (fc)(ga g)(sd)(hp):vS fc ga g sd hp=(fc sd hp).bind λp=>if p.1 then ga sd p.2 else g sd p.2:=rfl
def tK (p:D×HP):Res (Bool×HP):=match p.1 with
 | .bl b=>.ok (b,p.2)
 |_=>.no
@[simp]def rN (b)(hp):tK (.bl b,hp)=.ok (b,hp):=rfl
@[simp]def lf (f)(sd)(hp):TC f sd hp=(f sd hp).bind tK:=rfl
def DY (a)(d):jz [(a,d)] a=some d:=Zd rfl
def dA (a)(d e):Ww [(a,d)] a e=[(a,e)]:=Zd rfl
def B3 {n ar:Nat}{g:qp}{ds:YG}{a:Addr}{d b v:D}(h:ds.length=ar)(c:g (Qm n ds) [(a,d)]=.ok (v,[(a,b)])):QK n ar g ds [(a,d)]=.ok (v,[(a,b)]):=by
 simp_all [QK]
def zf {a b:FS}{sd sd':SD}{r:Res Out}(h:a sd=.ok (.next sd'))(c:b sd'=r):jl a b sd=r:=()
def bg {a:qL}{b:qp}{sd sd':SD}{hp hp':HP}{r:Res (D×HP)}(h:a sd hp=.ok (.next sd' hp'))(c:b sd' hp'=r):xi a b sd hp=r:=()
def Lj {g:FS}{sd sd':SD}{hp:HP}(h:g sd=.ok (.next sd')):vn g sd hp=.ok (.next sd' hp):=()
def K4 {x y:Str}(a:asc x)(b:asc y):xO (.str x) (.str y)=some (.bl (decide (x=y))):=by
 rw[G1 (Lf a) (Lf b)]
 simp_all [Qz]
def Xa:asc "all" := by unfold asc;decide +kernel
def Xb:asc "first" := by unfold asc;decide +kernel
def Lk:xO (.str "all") (.str "all")=some (.bl true):=by rw[K4 Xa Xa];congr 2
def Ll:xO (.str "first") (.str "all")=some (.bl false):=by rw[K4 Xb Xa];congr 2
def Lm:xO (.str "first") (.str "first")=some (.bl true):=by rw[K4 Xb Xb];congr 2
def xt (found:Yh)(its:Jy):Yh:=its.map λp=>jB found p.1+p.2
def uv (found:Yh)(r:Str×Str×Jy):Int:=if r.2.1 = "all" then qH (xt found r.2.2) else xh (xt found r.2.2)
def zN (a:List (Str×Str×Jy))(hs:Yh):Yh:=a.foldl (λf r=>f++[uv f r]) hs
structure RowsOk (n:Nat)(rows:List (Str×Str×Jy)):Prop where
 len:rows.length<=60
 pos:1<=rows.length
 how:∀r∈rows,r.2.1 = "all" \/ r.2.1 = "first"
 ne:∀r∈rows,r.2.2 ≠ []
 sh:∀r∈rows,r.2.2.length<=60
 rng:∀(k:Nat) r,rows[k]? = some r->∀p∈r.2.2,0<=p.1/\p.1<(n:Int)+k
theorem AZ:∀a hs,(zN a hs).length=hs.length+a.length
 | [],hs=>rfl
 |r::a,hs=>by
  show(zN a (hs++[uv hs r])).length=_;rw[AZ a,Ub,Uj,Zu];lia
def tV {found:Yh}{its:Jy}(h:its ≠ []):xt found its ≠ []:=λz=>h (Je.mp z)
def dO (found)(its):(xt found its).length=its.length:=by unfold xt;simp
def dP {found:Yh}{its:Jy}(h:∀p∈its,0<=p.1/\p.1<(found.length:Int)):jO (.tup [0,1]) (jg j1 (jg jA (jb 2) (jb 0)) (jb 1)) [none,none,~~~(.lst (found.map .int))] (its.map q9)=.ok ((xt found its).map .int):=by
 unfold xt;rw[Zw];exact QJ λp hp=>by
  have:=DR (h p hp).1 (h p hp).2;simp[this]
def RowsOk.at {n:Nat}{a:List (Str×Str×Jy)}(ok:RowsOk n a){hs:Yh}(c:hs.length=n){i:Nat}{r:Str×Str×Jy}(h:a[i]? = some r):(∀p∈r.2.2,0<=p.1/\p.1<((zN (a.take i) hs).length:Int))/\(zN (a.take i) hs).length=n+i/\i<a.length/\r∈a:=by
 have b:=(Jc.mp h).1;have e:(zN (a.take i) hs).length=n+i:=by rw[AZ,Uv];lia
 refine⟨λp hp=>?_,e,b,Ug h⟩;have:=ok.rng i r h p hp;lia
def DZ {α: Type}{f:α -> D}(ys:List α)(x:α):jA (.lst ((ys++[x]).map f)) (.int (-1))=some (f x):=by
 show qo ((ys++[x]).map f) (-1)=_;unfold qo zg;rw[Ze (),Zd (by rw[Zql,Ub,Uj];lia)];have e:((-1:Int)+(((ys++[x]).map f).length:Int)).toNat=ys.length:=by
  rw[Zql,Ub,Uj];lia
 simp_all
def Ea {α: Type}{l:List α}(h:l ≠ []):∃ys x,l=ys++[x]:=⟨l.dropLast,l.getLast h,(List.dropLast_concat_getLast h).symm⟩
def kX {c:vK}{a b:qL}{sd:SD}{hp:HP}{r:Res Out2}(h:c sd hp=.ok true)(e:a sd hp=r):zL c a b sd hp=r:=by
 rwa [ID,h]
def kY {c:vK}{b a:qL}{sd:SD}{hp:HP}{r:Res Out2}(h:c sd hp=.ok false)(e:a sd hp=r):zL c b a sd hp=r:=by
 rwa [ID,h]
@[simp]def f7 (fo fi)(sd)(hp):ub fo fi sd hp=(fo sd hp).bind λp=>(fi sd p.2).bind (sj p.1):=rfl
@[simp]def lP (Fn)(fr)(sd)(hp):TQ Fn fr sd hp=(fr sd hp).bind λp=>Fn p.1 p.2:=rfl
def rW:Pl:=⟨"",[],[]⟩
abbrev Rw:=Str×Str×Jy
structure RwP (ps:List Pl)(n:Int)(r:Rw):Prop where
 nm:asc r.1
 how:r.2.1 = "all" \/ r.2.1 = "first" \/ ∃q∈ps,r.2.1=q.name/\r.2.2.length=q.givens.length
 ne:r.2.2 ≠ []
 sh:r.2.2.length<=10
 rng:∀p∈r.2.2,0<=p.1/\p.1<n
 wt:∀p∈r.2.2,-1000000000000000000000000000000<=p.2/\p.2<=1000000000000000000000000000000
structure PlP (ps:List Pl)(p:Pl):Prop where
 g1:1<=p.givens.length
 g2:p.givens.length<=4
 r1:1<=p.rows.length
 r2:p.rows.length<=8
 row:∀(k:Nat) r,p.rows[k]? = some r->RwP ps ((p.givens.length:Int)+k) r
structure BkP (ps:List Pl):Prop where
 len:ps.length<=4
 nm:∀(i:Nat) p,ps[i]? = some p->asc p.name/\p.name ≠ "all" /\ p.name ≠ "first"
 inj:∀(i j:Nat) p q,ps[i]? = some p->ps[j]? = some q->p.name=q.name->i=j
 ok:∀(i:Nat) p,ps[i]? = some p->PlP (ps.take i) p
def BkP.at {ps:List Pl}(B:BkP ps){i:Nat}{p:Pl}(h:ps[i]? = some p):i<ps.length/\i<4/\asc p.name/\p.name ≠ "all" /\ p.name ≠ "first" := have a:=(Jc.mp h).1;have l:=B.len;⟨a,(),B.nm i p h⟩
theorem BkP.find {ps:List Pl}(B:BkP ps){i:Nat}{p:Pl}(h:ps[i]? = some p):ps.find? (λq=>decide (q.name=p.name))=some p:=by
 refine IV (λq c=>?_) h (Zp rfl);obtain⟨j,a⟩:=Jm.mp c;have b:=(Jc.mp a).1;rw[Uv] at b;rw[VQ ()] at a;refine Zo λe=>?_;have:=B.inj j i q p a h e;lia
def xF (rc:Str->List Int->Int)(found:Yh)(r:Rw):Int:=if r.2.1 = "all" then qH (xt found r.2.2) else if r.2.1 = "first" then xh (xt found r.2.2) else rc r.2.1 (xt found r.2.2)
def qb (rc:Str->List Int->Int)(a:List Rw)(hs:Yh):Yh:=a.foldl (λf r=>f++[xF rc f r]) hs
def qQ (ps:List Pl):Nat->Pl->List Int->List Int
 | 0,_,_=>[]
 |n+1,p,hs=>qb (λx a=>(qQ ps n ((ps.find? λq=>decide (q.name=x)).getD rW) a).getLastD 0) p.rows hs
def Ln {rc:Str->List Int->Int}{a:List Rw}{hs:Yh}{i:Nat}{r:Rw}(h:a[i]? = some r):qb rc (a.take (i+1)) hs=qb rc (a.take i) hs++[xF rc (qb rc (a.take i) hs) r]:=by
 simp_all [qb,Vv]
theorem Eb (rc):∀a hs,(qb rc a hs).length=hs.length+a.length
 | [],hs=>rfl
 |r::a,hs=>by
  show(qb rc a (hs++[xF rc hs r])).length=_;rw[Eb rc a,Ub,Uj,Zu];lia
def dY {ps:List Pl}{n:Nat}{p:Pl}{hs:Yh}:(qQ ps (n+1) p hs).length=hs.length+p.rows.length:=Eb _ _ _
def cI {ps a:List Pl}{n:Nat}{p:Pl}{hs:Yh}(P:PlP a p):∃ys,qQ ps (n+1) p hs=ys++[(qQ ps (n+1) p hs).getLastD 0]:=by
 have ne:qQ ps (n+1) p hs ≠ []:=λz=>by
  have b:=dY (ps:=ps) (n:=n) (p:=p) (hs:=hs);have c:=P.r1
  grind
 obtain⟨ys,x,e⟩:=Ea ne
 simp_all
def PlP.at {a:List Pl}{p:Pl}(P:PlP a p){rc:Str->List Int->Int}{hs:Yh}(f:hs.length=p.givens.length){i:Nat}{r:Rw}(h:p.rows[i]? = some r):(∀y∈r.2.2,0<=y.1/\y.1<((qb rc (p.rows.take i) hs).length:Int))/\(qb rc (p.rows.take i) hs).length=p.givens.length+i/\i<p.rows.length:=by
 have b:=(Jc.mp h).1;have e:(qb rc (p.rows.take i) hs).length=p.givens.length+i:=by rw[Eb,Uv];lia
 refine⟨λy c=>?_,e,b⟩;have:=(P.row i r h).rng y c;lia
def BkP.snoc {ps:List Pl}{p:Pl}(B:BkP ps)(l:ps.length<4)(P:PlP ps p)(b:asc p.name/\p.name ≠ "all" /\ p.name ≠ "first")(a:∀q∈ps,q.name≠p.name):BkP (ps++[p]):=by
 have at_:∀(i:Nat) q,(ps++[p])[i]? = some q->(i<ps.length/\ps[i]? = some q)\/(i=ps.length/\q=p):=λi q h=>by
  rcases Vc i ps.length with z|z
  .rw[UR z] at h;exact .inl ⟨z,h⟩
  .rw[US z] at h;rcases Vm (i-ps.length) with y|y
   .rw[y] at h;cases h;exact .inr ⟨(),rfl⟩
   .rw[VC (by rw[Uj];lia)] at h;cases h
 refine⟨(),λi q h=>?_,λi j q r h h' e=>?_,λi q h=>?_⟩
 .rcases at_ i q h with ⟨_,z⟩|⟨rfl,rfl⟩
  .exact B.nm i q z
  .exact b
 .rcases at_ i q h with ⟨_,z⟩|⟨rfl,rfl⟩<;>rcases at_ j r h' with ⟨_,y⟩|⟨rfl,rfl⟩
  .exact B.inj i j q r z y e
  .exact Zn e (a q (Ug z))
  .exact Zn e.symm (a r (Ug y))
  .rfl
 .rcases at_ i q h with ⟨y,z⟩|⟨rfl,rfl⟩
  .rw[List.take_append_of_le_length ()];exact B.ok i q z
  simp_all
def dq:BkP []:=⟨Ua _,(by intro i p h;cases h),(by intro i j p q h;cases h),(by intro i p h;cases h)⟩
def BkP.giv {ps:List Pl}(B:BkP ps):∀q∈ps,1<=q.givens.length/\q.givens.length<=4:=λq b=>by
 obtain⟨i,a⟩:=Jm.mp b;exact⟨(B.ok i q a).g1,(B.ok i q a).g2⟩
def BkP.ascs {ps:List Pl}(B:BkP ps):∀q∈ps,asc q.name:=λq a=>have ⟨i,b⟩:=Jm.mp a;(B.at b).2.2.1
def xH (ps:List Pl)(n:Nat)(x:Str)(a:Yh):Int:=(qQ ps n ((ps.find? λq=>decide (q.name=x)).getD rW) a).getLastD 0
def Ec (ps)(n)(p)(hs):qQ ps (n+1) p hs=qb (xH ps n) p.rows hs:=rfl
theorem BkP.how {ps:List Pl}(B:BkP ps){i:Nat}{p:Pl}(hp:ps[i]? = some p){k:Nat}{r:Rw}(c:p.rows[k]? = some r):r.2.1 = "all" \/ r.2.1 = "first" \/ (asc r.2.1/\r.2.1 ≠ "all" /\ r.2.1 ≠ "first" /\ ∃j q,j<i/\ps[j]? = some q/\r.2.1=q.name/\r.2.2.length=q.givens.length):=by
 rcases((B.ok i p hp).row k r c).how with z|z|⟨q,z1,z2,z3⟩
 .exact .inl z
 .exact .inr (.inl z)
 .obtain⟨j,a⟩:=Jm.mp z1;have b:=(Jc.mp a).1;rw[Uv] at b;rw[VQ ()] at a;obtain⟨_,_,e,f,g⟩:=B.at a;exact .inr (.inr ⟨by rwa [z2],by rwa [z2],by rwa [z2],j,q,(),a,z2,z3⟩)
def BkP.part {ps:List Pl}(B:BkP ps){j n:Nat}{q:Pl}(a:ps[j]? = some q)(b:Yh):∃ys,qQ ps (n+1) q b=ys++[xH ps (n+1) q.name b]:=by
 obtain⟨ys,e⟩:=cI (B.ok j q a);refine⟨ys,?_⟩;unfold xH
 rwa [B.find a]
theorem Lo {α: Type}:∀{l m:List α},l.Nodup->(∀x∈l,x∈m)->l.length<=m.length
 | [],m,_,_=>Ua _
 |x::l,m,h,s=>by
  obtain⟨a,b,rfl⟩:=List.append_of_mem (s x Zqs);have ⟨e,c⟩:=Jl.mp h;have f:=Lo (m:=a++b) c λy g=>by
   grind
  grind
def xr (t g:Jz):Jz:=JY (t++g)
structure Fm (n:Int)(U:Jz)(f:Jz):Prop where
 good:Good n f
 sub:∀r∈f,r∈U
def cQ {n:Int}{f:Jz}(G:Good n f):f.Nodup:=G.srt.imp λ{a b} h e=>by
 have:=ya.asy _ _ h
 simp_all
def Fm.len {n:Int}{U f:Jz}(F:Fm n U f)(h:U.length<=28):f.length<=28:=Zh (Lo (cQ F.good) F.sub) h
def md:Jz->List Jz->List Jz
 |t,[]=>[t]
 |t,g::gs=>t::md (xr t g) gs
def cH {a b:Jz}{hs:Yh}(g:a ≠ [])(h:b ≠ []):J7 (a++b) hs<=J7 a hs/\J7 (a++b) hs<=J7 b hs/\(J7 (a++b) hs=J7 a hs\/J7 (a++b) hs=J7 b hs):=by
 obtain⟨r,i,e⟩:=V8 (hs:=hs) g;obtain⟨s,c,l⟩:=V8 (hs:=hs) h;have m:=V7 (hs:=hs) (List.mem_append_left b i);have n:=V7 (hs:=hs) (Ut a c);obtain⟨q,j,o⟩:=V8 (f:=a++b) (hs:=hs) (λz=>g (Jx.mp z).1);refine⟨(),(),?_⟩;rcases Jb.mp j with z|z
 .have:=V7 (hs:=hs) z;exact .inl ()
 .have:=V7 (hs:=hs) z;lia
def jo (p:Pl):D:=.tup [.str p.name,.int (p.givens.length:Nat),.lst (p.rows.map jN)]
def wE (p:Pl):jA (jo p) (.int 0)=some (.str p.name):=rfl
def vz (p:Pl):jA (jo p) (.int 1)=some (.int (p.givens.length:Nat)):=rfl
def mn (p:Pl):jA (jo p) (.int 2)=some (.lst (p.rows.map jN)):=rfl
def Lp {ps:List Pl}{i:Nat}{p:Pl}(h:ps[i]? = some p):qo (ps.map jo) (i:Int)=some (jo p):=by
 rw[XA (by rw[Zql];exact()),Zv,h];rfl
def Ed:YG->Res YG:=zM 2 2 (J0 (j8 QU (J0 (jb 1) jc)) jc)
def B4:YG->Res YG:=zM 4 4 (J0 (jb 1) (J0 (j8 QU (J0 (jb 2) jc)) (J0 (j8 QU (J0 (jb 3) jc)) jc)))
def ZK (a:YG->Res D):FS:=(j6 (jg jA (J5 a (J0 (jb 0) (J0 (jb 1) (J0 (jb 2) jc)))) (qV xz (dC (.int 1)))))
def Xc (a:YG->Res D):FS:=(jl (xX (JG (jg xO (jb 1) (dC (.str "all")))) (j6 (j8 YP (J0 (jb 2) jc))) Qh) (jl (xX (JG (jg xO (jb 1) (dC (.str "first")))) (j6 (j8 YQ (J0 (jb 2) jc))) Qh) (j6 (J5 a (J0 (jb 0) (J0 (jb 1) (J0 (jb 2) jc)))))))
def B5:FS:=(jl (jZ (iS (qV (qX "Book" "plans") (jb 0))) (.one 2) (xX (JG (jg xO (qV (qX "Plan" "name") (jb 2)) (jb 1))) (j6 (jb 2)) Qh)) rV)
def ZL:YG->Res D:=jE 3 2 B5
def Lq {ps:List Pl}{x:Str}{p:Pl}(j:asc x)(hp:∀p∈ps,asc p.name)(g:ps.find? (λp=>decide (p.name=x))=some p):ZL [JD ps,.str x]=.ok (Qw p):=by
 have l:qY (.one 2) (xX (JG (jg xO (qV (qX "Plan" "name") (jb 2)) (jb 1))) (j6 (jb 2)) Qh) (ps.map Qw) [~~~(JD ps),~~~(.str x),none]=.ok (.ret (Qw p)):=by
  refine YU (R:=λr=>r=.ok (.ret (Qw p))) (P:=λi sd=>(∀q∈ps.take i,decide (q.name=x)=false)/\∃u,sd=[~~~(JD ps),~~~(.str x),u]) () (λsd ⟨e,f⟩=>?_) λi d sd m ⟨e,u,f⟩=>?_
  .grind
  .obtain⟨q,a,rfl⟩:=Kt m;have n:q∈ps:=by grind
   have b:=(λp o=>K4 (hp p o) j) q n;have tk:ps.take (i+1)=ps.take i++[q]:=by rw[Vv,a];rfl
   cases c:decide (q.name=x) with
   |true =>
    rw[c] at b;refine .inr (.inr ⟨Qw q,?_,?_⟩)
    .subst f;simp[b]
    .rw[IV e a c] at g;cases g;rfl
   |false =>
    rw[c] at b;refine .inl ⟨[~~~(JD ps),~~~(.str x),~~~(Qw q)],.inl ?_,λy h=>?_,_,rfl⟩
    .subst f;simp[b]
    .rw[tk] at h;rcases Jb.mp h with z|z
     .exact e y z
     .rwa [Jd.mp z]
 simp[ZL,B5,l]
def ZM (a:YG->Res D):FS:=(jl (qj 3 (j8 QU (J0 (jb 2) jc))) (jl (jZ (iS (qV (qX "Plan" "rows") (J5 ZL (J0 (jb 0) (J0 (jb 1) jc))))) (.tup [4,5,6]) (Q4 3 (y8 [3] (J5 a (J0 (jb 0) (J0 (jb 5) (J0 (Qk [none,none,some 3] (iS (jb 6)) (.tup [0,1]) (jg j1 (jg jA (jb 2) (jb 0)) (jb 1))) jc))))))) (λsd=>(j6 (jb 3)) (jU [3] sd))))
def VZ:Nat->YG->Res D
 | 0=>λ_=>.no
 |n+1=>jE 7 3 (ZM (jE 3 3 (Xc (jE 3 3 (ZK (VZ n))))))
def Kv (n:Nat):YG->Res D:=jE 3 3 (ZK (VZ n))
def Kw (n:Nat):YG->Res D:=jE 3 3 (Xc (Kv n))
def Lr {n:Nat}{bk nm hs:D}{ys:Yh}{x:Int}(h:VZ n [bk,nm,hs]=.ok (.lst ((ys++[x]).map .int))):Kv n [bk,nm,hs]=.ok (.int x):=by
 have l:=DZ (f:=D.int) ys x
 simp_all [Kv,ZK]
def cW (n:Nat)(b:D){hs:Yh}(a:hs ≠ []):Kw n [b,.str "all",.lst (hs.map .int)]=.ok (.int (qH hs)):=by
 simp[Kw,Xc,Lk,(Rf a)]
def pr (n:Nat)(b:D){hs:Yh}(a:hs ≠ []):Kw n [b,.str "first",.lst (hs.map .int)]=.ok (.int (xh hs)):=by
 simp[Kw,Xc,Ll,Lm,(Rg a)]
def pp {n:Nat}{b d:D}{how:Str}{z:D}(a:asc how)(c:how ≠ "all")(e:how ≠ "first")(h:Kv n [b,.str how,d]=.ok z):Kw n [b,.str how,d]=.ok z:=by
 have f:=K4 a Xa;have g:=K4 a Xb
 simp_all [Kw,Xc]
theorem Ls {ps:List Pl}(B:BkP ps):∀(n i:Nat) (p:Pl) (hs:Yh),ps[i]? = some p->i<n->hs.length=p.givens.length->VZ n [JD ps,.str p.name,.lst (hs.map .int)]=.ok (.lst ((qQ ps n p hs).map .int))
 | 0,i,p,hs,_,h,_=>()
 |n+1,i,p,hs,hp,hi,hl=>by
  have P:=B.ok i p hp;have G:=P.g2;have H:=P.r2;have I:=Lq (B.at hp).2.2.1 B.ascs (B.find hp);show jE 7 3 (ZM (Kw n)) _=_;rw[Ec];obtain⟨sd',e,u,v,w,o⟩:=KB (tg:=.tup [4,5,6]) (b:=Q4 3 (y8 [3] (J5 (Kw n) (J0 (jb 0) (J0 (jb 5) (J0 (Qk [none,none,some 3] (iS (jb 6)) (.tup [0,1]) (jg j1 (jg jA (jb 2) (jb 0)) (jb 1))) jc)))))) (ds:=p.rows.map jN) (sd:=[~~~(JD ps),~~~(.str p.name),~~~(.lst (hs.map .int)),some (.own false (.lst (hs.map .int))),none,none,none])
   (P:=λi sd=>∃u v w,sd=[~~~(JD ps),~~~(.str p.name),~~~(.lst (hs.map .int)),some (.own false (.lst ((qb (xH ps n) (p.rows.take i) hs).map .int))),u,v,w]) ⟨none,none,none,rfl⟩ (by
    rintro k x sd s ⟨u,v,w,rfl⟩;obtain⟨r,a,rfl⟩:=Kt s;obtain⟨t,J,K⟩:=P.at (rc:=xH ps n) hl a;have R:=P.row k r a;have y:=dP t;have A:=R.sh;have c:=tV (found:=qb (xH ps n) (p.rows.take k) hs) R.ne;have C:=dO (qb (xH ps n) (p.rows.take k) hs) r.2.2;have E:Kw n [JD ps,.str r.2.1,.lst ((xt (qb (xH ps n) (p.rows.take k) hs) r.2.2).map .int)]=.ok (.int (xF (xH ps n) (qb (xH ps n) (p.rows.take k) hs) r)):=by
     unfold xF;rcases B.how hp a with z|z|⟨z0,g,l,j,q,z3,z4,z5,z6⟩
     .rw[z,Zd rfl];exact cW n _ c
     .rw[z,Ze (by decide +kernel),Zd rfl];exact pr n _ c
     .rw[Ze g,Ze l];refine pp z0 g l ?_;obtain⟨f,rfl⟩:∃f,n=f+1:=⟨n-1,()⟩;obtain⟨ys,F⟩:=B.part (n:=f) z4 (xt (qb (xH ps (f+1)) (p.rows.take k) hs) r.2.2);have m:=Ls B (f+1) j q _ z4 () (C.trans z6);rw[F,<- z5] at m;exact Lr m
    have g:=JU (show r.2.2.length<=1000 from ());have l:=JU (show(qb (xH ps n) (p.rows.take k) hs).length<=1000 by lia);rw[Ln a,cM,jt];simp[y,E,g,l])
  simp_all [ZM]
def B6:FS:=(jl (j4 4 (J5 (Kv 4) (J0 (jb 0) (J0 (jg jA (jb 1) (dC (.int 0))) (J0 (j8 QU (J0 (jb 3) jc)) jc))))) (j6 (Xs (jg zR (jg jA (jb 2) (dC (.int 0))) (jb 4)) (jg zR (jb 4) (jg jA (jb 2) (dC (.int 1)))))))
def Wa:YG->Res D:=jE 5 4 B6
def B7:qp:=(xi (Wx (iS (jg jA (jb 1) (dC (.int 1)))) (.one 2) (ZE (jb 0) (jg jA (jb 2) (dC (.int 0))) (yt (jg jA (jb 2) (dC (.int 1)))))) (xi (Wx (iS (jg jA (jb 1) (dC (.int 0)))) (.one 2) (ZE (jb 0) (jg jA (jb 2) (dC (.int 0))) (yt (jg jA (jb 2) (dC (.int 1)))))) (yt (jb 0))))
def Ee:YG->HP->Res (D×HP):=QK 3 2 B7
def B8:FS:=(j6 (j8 zu (J0 (Qk [none,none,some 1] (iS (jb 0)) (.tup [0,1]) (jg vR (jg jA (jb 2) (jb 0)) (jb 1))) jc)))
def B9:YG->Res D:=jE 2 2 B8
def xa (box:Jy)(hs:Yh):Bool:=box.all λp=>decide (p.2<=jB hs p.1)
def gZ {box:Jy}{hs:Yh}(e:box.length<=1000)(c:∀p∈box,0<=p.1/\p.1<(hs.length:Int)):B9 [j0 box,.lst (hs.map .int)]=.ok (.bl (xa box hs)):=by
 have a:jO (.tup [0,1]) (jg vR (jg jA (jb 2) (jb 0)) (jb 1)) [none,none,~~~(.lst (hs.map .int))] (box.map q9)=.ok (box.map λp=>.bl (decide (p.2<=jB hs p.1))):=QJ λp hp=>by
  simp[DR (c p hp).1 (c p hp).2]
 have f:box.map (λp=>D.bl (decide (p.2<=jB hs p.1)))=(box.map λp=>decide (p.2<=jB hs p.1)).map .bl:=by simp
 have b:=Dt (box.map λp=>decide (p.2<=jB hs p.1));rw[<- f] at b;have g:(box.map λp=>decide (p.2<=jB hs p.1)).all id=xa box hs:=by rw[List.all_map];rfl
 rw[g] at b;simp[B9,B8,a,JU e,b]
def BA:FS:=(j6 (j8 zu (J0 (Qk [none,none,some 1] (iS (jb 0)) (.tup [0,1]) (jg zR (jg jA (jb 2) (jb 0)) (jb 1))) jc)))
def BB:YG->Res D:=jE 2 2 BA
def xM (box:Jy)(hs:Yh):Bool:=box.all λp=>decide (jB hs p.1<=p.2)
def fg {box:Jy}{hs:Yh}(e:box.length<=1000)(c:∀p∈box,0<=p.1/\p.1<(hs.length:Int)):BB [j0 box,.lst (hs.map .int)]=.ok (.bl (xM box hs)):=by
 have a:jO (.tup [0,1]) (jg zR (jg jA (jb 2) (jb 0)) (jb 1)) [none,none,~~~(.lst (hs.map .int))] (box.map q9)=.ok (box.map λp=>.bl (decide (jB hs p.1<=p.2))):=QJ λp hp=>by
  simp[DR (c p hp).1 (c p hp).2]
 have f:box.map (λp=>D.bl (decide (jB hs p.1<=p.2)))=(box.map λp=>decide (jB hs p.1<=p.2)).map .bl:=by simp
 have b:=Dt (box.map λp=>decide (jB hs p.1<=p.2));rw[<- f] at b;have g:(box.map λp=>decide (jB hs p.1<=p.2)).all id=xM box hs:=by rw[List.all_map];rfl
 rw[g] at b;simp[BB,BA,a,JU e,b]
def BC:FS:=(jl (jZ (iS (jb 0)) (.one 2) (xX (Wn (JG (J5 BB (J0 (jg jA (jb 2) (dC (.int 0))) (J0 (jb 1) jc)))) (JG (J5 B9 (J0 (jg jA (jb 2) (dC (.int 1))) (J0 (jb 1) jc))))) (j6 (dC (.bl true))) Qh)) (j6 (dC (.bl false))))
def Wb:YG->Res D:=jE 3 2 BC
def ZN:qp:=(xi (vn (zK (jb 3) (.tup [4,5,6]))) (vS (ZI [0] (JG (jg zQ (J5 Wa (J0 (jb 2) (J0 (jb 4) (J0 (jb 5) (J0 (jb 0) jc))))) (J5 Wb (J0 (jb 6) (J0 (jb 0) jc)))))) (yt (dC (.bl false))) (vS (yW (JG (jg xO (j8 jP (J0 (jb 6) jc)) (dC (.int 0))))) (yt (dC (.bl true))) (xi (DJ 7 (Kj Ee (J0 (jb 0) (J0 (jg jA (jb 6) (jg jJ (jb 1) (j8 jP (J0 (jb 6) jc)))) jc)))) (zG [7] (Xs (J5 Wa (J0 (jb 2) (J0 (jb 4) (J0 (jb 5) (J0 (jb 7) jc))))) (J5 Wb (J0 (jb 6) (J0 (jb 7) jc)))))))))
def ZO:YG->HP->Res (D×HP):=QK 8 4 ZN
def ZP:FS:=(jl (xX (JG (jg xO (j8 jP (J0 (jb 0) jc)) (dC (.int 0)))) (j6 (jb 1)) Qh) (jl (j4 2 (jg Qn (jb 1) (j8 jP (J0 (jb 0) jc)))) (j6 (jg j1 (jg Qn (jg jJ (jg jA (jb 0) (jg jJ (jb 1) (j8 jP (J0 (jb 0) jc)))) (jg qT (dC (.int 10)) (dC (.int 62)))) (jg j1 (dC (.int 1)) (jb 2))) (jg qu (jb 2) (jb 1))))))
def Q6:YG->Res D:=jE 3 2 ZP
def db {ns:Yh}{t:Int}(a:0<=t)(b:t<(ns.length:Int)):qo ns t=some (jB ns t):=by
 simp_all [zg,qo,jB]
def JR (ns:Yh)(k:Int):Int:=if ns=[] then k else jB ns (k % ns.length) % (10:Int) ^ (62:Nat) / (1+k / ns.length)+k / ns.length*k
def Lu (ns:Yh){k:Int}(a:0<=k)(c:k<=100000):0<=JR ns k/\JR ns k<(10:Int) ^ (63:Nat):=by
 unfold JR;by_cases h:ns=[]
 .rw[Zd h];exact⟨a,Int.lt_of_le_of_lt c (by decide +kernel)⟩
 .rw[Ze h];have e:=VE a (show(0:Int)<=ns.length by lia);have f:k / (ns.length:Int)<=k:=VF _ a;generalize k / (ns.length:Int)=t at e f;have b:=Vq (jB ns (k % ns.length)) (show(10:Int) ^ (62:Nat)≠0 by decide +kernel);have g:=Vd (jB ns (k % ns.length)) (show(0:Int)<(10:Int) ^ (62:Nat) by decide +kernel);generalize jB ns (k % ns.length) % (10:Int) ^ (62:Nat)=x at b g;have d0:=VE b (show(0:Int)<=1+t by lia);have i:x / (1+t)<=x:=VF _ b;have j:=Int.mul_nonneg e a;have l:t*k<=100000*100000:=Int.mul_le_mul () c a ();lia
def p0 {a:D}{ns:Yh}(b:jP [a]=some (.int ns.length))(c:∀t:Int,0<=t->t<(ns.length:Int)->jA a (.int t)=some (.int (jB ns t))){k:Int}(e:0<=k)(n:k<=100000)(o:ns.length<=1000):Q6 [a,.int k]=.ok (.int (JR ns k)):=by
 unfold JR;by_cases h:ns=[]
 .simp_all [Q6,ZP]
 .have hp:0<ns.length:=by grind
  have hp':(0:Int)<(ns.length:Int):=()
  have q:=VE e (show(0:Int)<=ns.length by lia);have r:k / (ns.length:Int)<=k:=VF _ e;have f:=AS (i:=k) hp' ();have g:=X1 (i:=k) hp';have l:=c _ (Vq k ()) (Vd k hp');have p:qT (.int 10) (.int 62)=some (.int (10 ^ 62)):=rfl;have m:=λi=>AS (i:=i) (j:=1+k / (ns.length:Int)) () ();simp[Q6,ZP,b,h,f,g,l,p,m,(AR (Dp (i:=k / (ns.length:Int)) (j:=k) () ()))]
def W2 (ns:Yh){k:Int}(a:0<=k)(b:k<=100000)(c:ns.length<=1000):Q6 [.scr ns,.int k]=.ok (.int (JR ns k)):=
 p0 rfl (λt e f=>by rw[Re,db e f];rfl) a b c
def XD:FS:=(jl (j4 2 (J5 Q6 (J0 (jb 0) (J0 (dC (.int 60)) jc)))) (jl (j4 3 (dC (.str "abcdefghijklmnopqrstuvwxyz"))) (jl (j4 4 (jg jA (jb 3) (jg jJ (jg Qn (jb 2) (dC (.int 3))) (dC (.int 26))))) (jl (j4 5 (jg jA (jb 3) (jg jJ (jg Qn (jb 2) (dC (.int 78))) (dC (.int 26))))) (j6 (jg jA (qc (J0 (jg j1 (jb 4) (j8 zt (J0 (jb 1) jc))) (J0 (jg j1 (jg j1 (jb 4) (j8 zt (J0 (jb 1) jc))) (jb 5)) (J0 (jg j1 (jg j1 (jb 4) (jb 5)) (j8 zt (J0 (jb 1) jc))) jc)))) (jg jJ (jb 2) (dC (.int 3)))))))))
def Kx:YG->Res D:=jE 6 2 XD
def Qq (c:Int)(k:Nat):Str:=if c % 3=0 then xL (c / 3 % 26).toNat++yK k else if c % 3=1 then xL (c / 3 % 26).toNat++yK k++xL (c / 78 % 26).toNat else xL (c / 3 % 26).toNat++xL (c / 78 % 26).toNat++yK k
def Ef (x y z:D):qo [x,y,z] 0=some x/\qo [x,y,z] 1=some y/\qo [x,y,z] 2=some z:=⟨rfl,rfl,rfl⟩
def BD {ns:Yh}(r:ns.length<=1000){k:Nat}{x:Int}(s:x=(k:Int))(h:k<64):Kx [.scr ns,.int x]=.ok (.str (Qq (JR ns 60) k))/\asc (Qq (JR ns 60) k):=by
 subst s;have i:=W2 ns (k:=60) () () r;obtain⟨j,f⟩:=dZ h;generalize JR ns 60=c at *;have l:=Ld (k:=c / 3 % 26) () ();have m:=Ld (k:=c / 78 % 26) () ();have a:=Le (k:=(c / 3 % 26).toNat) ();have g:=Le (k:=(c / 78 % 26).toNat) ();have n:=B2 a f ();have o:=B2 (a.app f) g ();have p:=B2 a g ();have q:=B2 (a.app g) f ();have t:=(a.app f).asc;have u:=((a.app f).app g).asc;have v:=((a.app g).app f).asc;unfold Qq;have b:c % 3=0\/c % 3=1\/c % 3=2:=()
 rcases b with e|e|e
 .rw[Zd e];refine⟨?_,t⟩;simp[Kx,XD,i,l,m,j,n,o,p,q,e,Ef]
 .rw[Ze (),Zd e];refine⟨?_,u⟩;simp[Kx,XD,i,l,m,j,n,o,p,q,e,Ef]
 simp_all [Kx,XD,Ef]
def rj:((List.range 4).map λk=>(yK k).cps.toList).Nodup:=by decide +kernel
def tw:∀k:Fin 4,(yK k.1).cps.toList.any (λc=>decide (c<97))=true:=by decide +kernel
def Lv (c:Int)(k:Nat):∃a b:Yj,∀i,(Qq c i).cps.toList=a++(yK i).cps.toList++b:=by
 unfold Qq;by_cases h:c % 3=0
 .exact⟨(xL (c / 3 % 26).toNat).cps.toList,[],λi=>by rw[Zd h,B0,ZB]⟩
 .by_cases e:c % 3=1
  .exact⟨(xL (c / 3 % 26).toNat).cps.toList,(xL (c / 78 % 26).toNat).cps.toList,λi=>by simp_all [B0]⟩
  .exact⟨(xL (c / 3 % 26).toNat++xL (c / 78 % 26).toNat).cps.toList,[],λi=>by simp_all [B0]⟩
def cA {c:Int}{i j:Nat}(f:i<4)(g:j<4)(e:Qq c i=Qq c j):i=j:=by
 obtain⟨a,b,h⟩:=Lv c 0;refine cK rj f g ?_
 grind[List.append_cancel_left,List.append_cancel_right]
def Lw {c:Int}{i:Nat}(f:i<4){w:Str}(g:w.cps.toList.all (λc=>decide (97<=c))=true):Qq c i≠w:=λe=>by
 obtain⟨a,b,h⟩:=Lv c 0;obtain⟨d,j,l⟩:=U0.mp (tw ⟨i,f⟩)
 grind
def r0 (c:Int)(ps:List Pl):Prop:=∀(k:Nat) q,ps[k]? = some q->q.name=Qq c k/\q.givens=(List.range q.givens.length).map λk=>Qq c (10+k)
def BE:FS:=(jl (qj 2 (qc jc)) (jl (jZ (iS (jb 1)) (.one 3) (jl (j4 4 (Qk [none,some 0] (zr (J0 (jg jA (jb 3) (dC (.int 1))) jc)) (.one 0) (J5 Kx (J0 (jb 1) (J0 (jg j1 (dC (.int 10)) (jb 0)) jc))))) (Q4 2 (Z8 "Plan" ["name", "givens", "rows"] B4 (J0 (jg jA (jb 3) (dC (.int 0))) (J0 (jb 4) (J0 (j8 QU (J0 (jg jA (jb 3) (dC (.int 2))) jc)) jc))))))) (λsd=>(j6 (Z8 "Book" ["plans"] Ed (J0 (jb 2) jc))) (jU [2] sd))))
def BF:YG->Res D:=jQ 5 2 BE
def gS {ns:Yh}(o:ns.length<=1000){ps:List Pl}(B:BkP ps)(N:r0 (JR ns 60) ps):BF [.scr ns,.lst (ps.map jo)]=.ok (JD ps):=by
 obtain⟨sd',e,a,h,q⟩:=KB (tg:=.one 3) (b:=jl (j4 4 (Qk [none,some 0] (zr (J0 (jg jA (jb 3) (dC (.int 1))) jc)) (.one 0) (J5 Kx (J0 (jb 1) (J0 (jg j1 (dC (.int 10)) (jb 0)) jc))))) (Q4 2 (Z8 "Plan" ["name", "givens", "rows"] B4 (J0 (jg jA (jb 3) (dC (.int 0))) (J0 (jb 4) (J0 (j8 QU (J0 (jg jA (jb 3) (dC (.int 2))) jc)) jc))))))
  (ds:=ps.map jo)
  (P:=λi sd=>∃(a h:Option SV),sd=[~~~(.scr ns),~~~(.lst (ps.map jo)),some (.own false (.lst ((ps.take i).map Qw))),a,h]) ⟨none,none,rfl⟩ (by
   rintro i x sd r ⟨a,h,rfl⟩;obtain⟨p,hp,rfl⟩:=Kt r;have P:=B.ok i p hp;have E:=P.g2;have F:=B.len;obtain⟨_,s⟩:=N i p hp;have t:V3 [.int (p.givens.length:Nat)]=.ok (Qd 0 p.givens.length):=by rw[WW () ()];rfl
   have j:jO (.one 0) (J5 Kx (J0 (jb 1) (J0 (jg j1 (dC (.int 10)) (jb 0)) jc))) [none,~~~(.scr ns)] (Qd 0 p.givens.length)=.ok (p.givens.map .str):=by
    have m:=GY (tg:=.one 0) (f:=J5 Kx (J0 (jb 1) (J0 (jg j1 (dC (.int 10)) (jb 0)) jc))) (c:=[none,~~~(.scr ns)]) (lo:=0) (n:=p.givens.length) (g:=λk=>.str (Qq (JR ns 60) (10+k))) λk G=>by
     simp[((BD o (k:=10+k) (x:=10+(k:Int)) () ()).1)]
    rw[m]
    conv=>rhs;rw[s]
    rw[Zw];rfl
   have tk:ps.take (i+1)=ps.take i++[p]:=by rw[List.take_add_one,hp];rfl
   have u:=wE p;have v:=vz p;have w:=mn p;have y:=JU (show p.givens.length<=1000 from ());have z:min i ps.length<sizeLine:=JU ();have A:Qw p=.ins "Plan" ["name", "givens", "rows"] [.str p.name,.lst (p.givens.map .str),.lst (p.rows.map jN)]:=rfl;have C:B4 [.str p.name,.lst (p.givens.map .str),.lst (p.rows.map jN)]=.ok [.str p.name,.lst (p.givens.map .str),.lst (p.rows.map jN)]:=rfl;rw[tk,Uc,List.map_singleton,A];simp[u,v,w,t,j,WX,y,z,C])
 have H:JD ps=.ins "Book" ["plans"] [.lst (ps.map Qw)]:=rfl;have I:∀l:YG,Ed [.lst l]=.ok [.lst l]:=λ_=>rfl
 simp_all [BF,BE]
def XE:FS:=(jl (xX (JG (jg xO (jg jJ (jb 0) (dC (.int 3))) (dC (.int 1)))) (jl (j4 1 (jg jJ (jg qu (jg Qn (jb 0) (dC (.int 6))) (jg j1 (jg qT (dC (.int 10)) (dC (.int 29))) (dC (.int 57)))) (jg qT (dC (.int 10)) (dC (.int 59))))) (j6 (jg jA (qc (J0 (jb 1) (J0 (qV xz (jb 1)) jc))) (jg jJ (jg Qn (jb 0) (dC (.int 3))) (dC (.int 2)))))) Qh) (j6 (jg y0 (jg jJ (jg Qn (jb 0) (dC (.int 3))) (dC (.int 9))) (dC (.int 4)))))
def Wc:YG->Res D:=jE 2 1 XE
def za (c:Int):Int:=if c % 3=1 then(if c / 3 % 2=0 then c / 6*((10:Int) ^ (29:Nat)+57) % (10:Int) ^ (59:Nat) else -(c / 6*((10:Int) ^ (29:Nat)+57) % (10:Int) ^ (59:Nat))) else c / 3 % 9-4
def dJ {c:Int}(a:0<=c)(b:c<(10:Int) ^ (63:Nat)):c.natAbs<yL:=by
 have e:(10:Nat) ^ 63<=yL:=by decide +kernel
 lia
def du (x y:D):qo [x,y] 0=some x:=rfl
def dM (x y:D):qo [x,y] 1=some y:=rfl
def Eg {c:Int}(a:0<=c)(h:c<(10:Int) ^ (63:Nat)):Wc [.int c]=.ok (.int (za c)):=by
 have i:K8 (c / 6) 100000000000000000000000000057=true:=Rc (dJ (VE a ()) (Int.lt_of_le_of_lt (VF _ a) h)) (by decide +kernel);have b:=AR i;have e:qT (.int 10) (.int 29)=some (.int (10 ^ 29)):=rfl;have f:qT (.int 10) (.int 59)=some (.int (10 ^ 59)):=rfl;unfold za;by_cases g:c % 3=1
 .have c2:c / 3 % 2=0\/c / 3 % 2=1:=()
  rcases c2 with c2|c2
  .simp[Wc,XE,g,c2,b,e,f,du]
  .simp[Wc,XE,g,c2,b,e,f,dM]
 simp_all [Wc,XE]
def ZQ:FS:=(jl (j4 2 (J5 Wc (J0 (J5 Q6 (J0 (jb 0) (J0 (jg j1 (dC (.int 55)) (jg qu (dC (.int 2)) (jb 1))) jc))) jc))) (jl (j4 3 (J5 Q6 (J0 (jb 0) (J0 (jg j1 (dC (.int 56)) (jg qu (dC (.int 2)) (jb 1))) jc)))) (jl (xX (JG (jg xO (jg jJ (jb 3) (dC (.int 2))) (dC (.int 0)))) (j6 (qm (J0 (jb 2) (J0 (jg y0 (jg j1 (jb 2) (jg jJ (jg Qn (jb 3) (dC (.int 2))) (dC (.int 7)))) (dC (.int 2))) jc)))) Qh) (j6 (qm (J0 (jb 2) (J0 (J5 Wc (J0 (jg Qn (jb 3) (dC (.int 2))) jc)) jc)))))))
def XF:YG->Res D:=jE 4 2 ZQ
def BG:FS:=(jl (qj 4 (qc jc)) (jl (jZ (zr (J0 (jb 3) jc)) (.one 5) (jl (j4 6 (J5 Q6 (J0 (jb 0) (J0 (jg j1 (jg j1 (jb 2) (dC (.int 12))) (jb 5)) jc)))) (Q4 4 (J5 Wc (J0 (jg jJ (jg j1 (jg qu (jg j1 (jb 1) (jb 6)) (dC (.int 48271))) (jg qu (dC (.int 104729)) (jb 5))) (jg j1 (jg qT (dC (.int 10)) (dC (.int 61))) (dC (.int 7)))) jc))))) (Kg 4)))
def ZR:YG->Res D:=jQ 7 4 BG
def gR {ns:Yh}(l:ns.length<=1000)(a:Int){at_ many:Nat}(t:at_<=1000)(u:many<=12):∃hs:Yh,hs.length=many/\ZR [.scr ns,.int a,.int at_,.int many]=.ok (.lst (hs.map .int)):=by
 have m:V3 [.int (many:Nat)]=.ok (Qd 0 many):=by rw[WW () ()];rfl
 have n:qT (.int 10) (.int 61)=some (.int 10000000000000000000000000000000000000000000000000000000000000):=rfl;obtain⟨sd',e,hs,g,u6,h,f⟩:=KB (tg:=.one 5) (b:=jl (j4 6 (J5 Q6 (J0 (jb 0) (J0 (jg j1 (jg j1 (jb 2) (dC (.int 12))) (jb 5)) jc)))) (Q4 4 (J5 Wc (J0 (jg jJ (jg j1 (jg qu (jg j1 (jb 1) (jb 6)) (dC (.int 48271))) (jg qu (dC (.int 104729)) (jb 5))) (jg j1 (jg qT (dC (.int 10)) (dC (.int 61))) (dC (.int 7)))) jc))))
  (ds:=Qd 0 many) (sd:=[~~~(.scr ns),~~~(.int a),~~~(.int at_),~~~(.int many),some (.own false (.lst [])),none,none])
  (P:=λi sd=>∃(hs:Yh) (g u6:Option SV),sd=[~~~(.scr ns),~~~(.int a),~~~(.int at_),~~~(.int many),some (.own false (.lst (hs.map .int))),g,u6]/\hs.length=i) ⟨[],none,none,rfl,rfl⟩ (by
   rintro i x sd o ⟨hs,g,u6,rfl,f⟩;obtain⟨rfl,v⟩:=YT o;have j:=W2 ns (k:=(at_:Int)+12+i) () () l;generalize JR ns ((at_:Int)+12+i)=c at j;have p:qu (.int (a+c)) (.int 48271)=some (.int ((a+c)*48271)):=AR (Dp () ());have m2:qu (.int 104729) (.int (i:Int))=some (.int (104729*(i:Int))):=rfl;obtain⟨y,ey⟩:∃y,y=(a+c)*48271+104729*(i:Int):=⟨_,rfl⟩;have q:=Vq y (show(10000000000000000000000000000000000000000000000000000000000007:Int)≠0 by lia);have r:=Eg q (Int.lt_trans (Vd y (show(0:Int)<10000000000000000000000000000000000000000000000000000000000007 by lia)) (by decide +kernel));have md:jJ (.int y) (.int 10000000000000000000000000000000000000000000000000000000000007)=some (.int (y % 10000000000000000000000000000000000000000000000000000000000007)):=X1 ();generalize y % 10000000000000000000000000000000000000000000000000000000000007=z at *;have s:=JU (show hs.length<=1000 from ());refine⟨[~~~(.scr ns),~~~(.int a),~~~(.int at_),~~~(.int many),some (.own false (.lst ((hs++[za z]).map .int))),~~~(.int i),~~~(.int c)],?_,_,_,_,rfl,by rw[Ub,f];rfl⟩;simp[j,p,m2,n,<- ey,md,r,s])
 subst h;rw[WX] at f;refine⟨hs,f,?_⟩;simp[ZR,BG,m,e]
def vI:FS:=(jl (jZ (iS (jb 0)) (.tup [2,3]) (xX (v8 (JG (jg (wS true) (jb 2) (jb 1))) (JG (jg wx (jb 3) (jg jA (jb 1) (jb 2))))) (j6 (dC (.bl false))) Qh)) (j6 (dC (.bl true))))
def vJ:YG->Res D:=jE 4 2 vI
def nM {r o:Jy}(b:j7 o):vJ [j0 r,ym o]=.ok (.bl (JC r o)):=by
 refine YU (R:=λz=>(z.bind (xG (j6 (dC (.bl true))))).bind xI=.ok (.bl (JC r o))) (P:=λi sd=>(∃u v,sd=[~~~(j0 r),~~~(ym o),u,v])/\JC (r.take i) o=true) ⟨⟨none,none,rfl⟩,rfl⟩ ?_ ?_
 .simp
 .rintro i x sd e ⟨⟨u,v,rfl⟩,hu⟩;obtain⟨p,hp,rfl⟩:=Kt e;have a:=AU b p.1;cases q:J8 o p.1 with
  |none =>
   rw[q] at a;have z:yd o p=false:=by unfold yd;rw[q]
   rw[Fx hp z];exact .inr (.inr ⟨.bl false,by simp[ym,a],()⟩)
  |some w =>
   rw[q] at a;by_cases c:w<p.2
   .have z:yd o p=false:=by unfold yd;exact by grind
    rw[Fx hp z];exact .inr (.inr ⟨.bl false,by simp[ym,a,c],()⟩)
   .have z:yd o p=true:=by unfold yd;exact by grind
    exact .inl ⟨[~~~(j0 r),~~~(ym o),~~~(.int p.1),~~~(.int p.2)],.inl (by simp[ym,a,c]),⟨_,_,rfl⟩,O3 hp hu z⟩
def vc:FS:=(jl (j4 2 (j8 WT (J0 (jb 0) jc))) (jl (jZ (iS (jb 1)) (.one 3) (xX (JG (J5 vJ (J0 (jb 3) (J0 (jb 2) jc)))) (j6 (dC (.bl true))) Qh)) (j6 (dC (.bl false)))))
def xp:YG->Res D:=jE 4 2 vc
def gQ {r:Jy}{ks:Jz}(a:j7 r)(c:r.length<=100):xp [j0 r,ji ks]=.ok (.bl (ks.any λo=>JC o r)):=by
 simp[xp,vc,(Dq c a)];refine YU (R:=λz=>(z.bind (xG (j6 (dC (.bl false))))).bind xI=.ok (.bl (ks.any λo=>JC o r))) (P:=λi sd=>(∃u,sd=[~~~(j0 r),~~~(ji ks),~~~(ym r),u])/\∀o∈ks.take i,JC o r=false) () ?_ ?_
 .simp
 .rintro i x sd f ⟨⟨u,rfl⟩,hu⟩;obtain⟨o,hp,rfl⟩:=Kt f;have b:=nM (r:=o) a;cases q:JC o r with
  |true =>
   have e:ks.any (λo=>JC o r)=true:=by grind
   simp_all
  |false =>
   rw[q] at b;refine .inl ⟨[~~~(j0 r),~~~(ji ks),~~~(ym r),~~~(j0 o)],.inl (by simp[b]),⟨_,rfl⟩,λy g=>?_⟩;rw[KM hp] at g
   grind
def vf:FS:=(jl (qj 2 (j8 WT (J0 (jb 0) jc))) (jl (jZ (iS (jb 1)) (.tup [3,4]) (YR 2 (jb 3) (j8 AM (J0 (jb 4) (J0 (y8 [2] (Xz (jb 2) (jb 3) (jb 4))) jc))))) (λsd=>(j6 (j8 Ws (J0 (Dm (jb 2)) jc))) (jU [2] sd))))
def z9:YG->Res D:=jE 5 2 vf
def Q1 (r o:Jy):Jy:=JL jT (Qo r o)
def nL {r o:Jy}(c:r ≠ [])(or:j7 r)(f:j7 o)(q:r.length<=20)(lo:o.length<=20):z9 [j0 r,j0 o]=.ok (j0 (Q1 r o)):=by
 have g:WT [.tup (r.map q9)]=some (ym r):=Dq () or;simp[z9,vf,g,j0];generalize h:YR 2 _ _=b;obtain⟨sd',e,u,v,a⟩:=KB (tg:=.tup [3,4]) (b:=b) (ds:=o.map q9) (sd:=[~~~(.tup (r.map q9)),~~~(.tup (o.map q9)),some (.own false (ym r)),none,none])
  (P:=λi sd=>∃u v,sd=[~~~(.tup (r.map q9)),~~~(.tup (o.map q9)),some (.own false (ym (Qo r (o.take i)))),u,v]) ⟨none,none,rfl⟩ (by
   rintro i x sd j ⟨u,v,rfl⟩;obtain⟨p,hp,rfl⟩:=Kt j;have l:Qo r (o.take (i+1))=KY (Qo r (o.take i)) p:=by
    rw[KM hp];unfold Qo;rw[Vp];rfl
   have m:=CO (o.take i) r;have s:(o.take i).length<=o.length:=by rw[Uv];lia
   have hz:=JU (show(Qo r (o.take i)).length<=1000 by lia);have n:=AU (AD (o.take i) r or) p.1;subst h;have es:KY (Qo r (o.take i)) p=qF (Qo r (o.take i)) p.1 (if(J8 (Qo r (o.take i)) p.1).getD p.2 > p.2 then(J8 (Qo r (o.take i)) p.1).getD p.2 else p.2):=rfl;rw[l,es,<- (Ri (Qo r (o.take i)) p.1 (if(J8 (Qo r (o.take i)) p.1).getD p.2 > p.2 then(J8 (Qo r (o.take i)) p.1).getD p.2 else p.2))];simp[ym,n,hz])
 rw[e];subst a;have m:=CO o r;simp[(Rj (Gm c f) ()),Q1]
def BH:FS:=(jl (qj 2 (jg DB (Wt [none,some 1] (iS (jb 0)) (.one 0) (JG (J5 xp (J0 (jb 0) (J0 (jb 1) jc)))) (jb 0)) (Wt [none,some 0] (iS (jb 1)) (.one 0) (JG (J5 xp (J0 (jb 0) (J0 (jb 1) jc)))) (jb 0)))) (jl (j4 3 (Wt [none,some 0] (iS (jb 1)) (.one 0) (WN (JG (J5 xp (J0 (jb 0) (J0 (jb 1) jc))))) (jb 0))) (jl (jZ (iS (jb 0)) (.one 4) (xX (WN (JG (J5 xp (J0 (jb 4) (J0 (jb 1) jc))))) (Wp 2 (Qk [none,some 4] (iS (jb 3)) (.one 0) (J5 z9 (J0 (jb 1) (J0 (jb 0) jc))))) Qh)) (Kg 2))))
def ZS:YG->Res D:=jQ 5 2 BH
def Wd (f g:Jz):Jz:=f.flatMap λr=>g.map (Q1 r)
def wD {f g:Jz}{q:Jy}:q∈Wd f g↔∃r∈f,∃o∈g,Q1 r o=q:=by
 simp_all [Wd]
def cN (f g:Jz):(Wd f g).length=f.length*g.length:=by
 unfold Wd
 induction f with
 |nil=>simp
 |cons r f a=>grind
def cD {a b:Jy}(c:j7 a)(p:b.Perm a)(t:Int):J8 b t=J8 a t:=by
 cases h:J8 a t with
 |some w=>exact(Gn (((p.map λz:Int×Int=>z.1).nodup_iff).mpr c)).mp (p.mem_iff.mpr (Qj h))
 |none =>
  cases e:J8 b t with
  |none=>rfl
  |some w =>
   have:=(Gn c).mp (p.mem_iff.mp (Qj e))
   simp_all
def BI {r o:Jy}(or:j7 r)(a:j7 o)(t:Int):J8 (Q1 r o) t=jw (J8 r t) (J8 o t):=by
 rw[<- AC t o r a];exact cD (AD o r or) (Qr _) t
theorem XG {r o:Jy}(a:JRow r)(b:JRow o):JRow (Q1 r o):=by
 have e:=AD o r a.once;refine⟨λz=>(Gm a.ne b.once) ?_,?_,λp hp=>?_⟩
 .have:=(Qr (ltb:=jT) (Qo r o)).length_eq
  grind[Q1,List.length_nil]
 .unfold qw Q1;have i:(JL jT (Qo r o)).Pairwise λx y=>x.1≠y.1:=by
   grind[j7,List.Nodup,List.pairwise_map,Qr]
  rw[UW];refine(List.Pairwise.and (Pj e) i).imp λ{x y} h=>?_
  grind[WH]
 .have c:=e.look ((Qr (Qo r o)).mem_iff.mp hp);rw[AC p.1 o r b.once] at c;cases f:J8 r p.1 with
  |some w=>exact a.bnd (p.1,w) (Qj f)
  |none =>
   cases g:J8 o p.1 with
   |some w=>exact b.bnd (p.1,w) (Qj g)
   |none=>rw[f,g] at c;cases c
def Lx {r o:Jy}(a:JRow r)(b:JRow o):JC r (Q1 r o)=true:=by
 rw[xT];intro p hp;rw[BI a.once b.once,(a.once.look hp)];cases J8 o p.1 with
 |none=>exact⟨p.2,rfl,UM _⟩
 |some y=>exact⟨_,rfl,by split<;>lia⟩
def Ly {r o:Jy}(b:JRow r)(a:JRow o):JC o (Q1 r o)=true:=by
 rw[xT];intro p hp;rw[BI b.once a.once,(a.once.look hp)];cases J8 r p.1 with
 |none=>exact⟨p.2,rfl,UM _⟩
 |some y=>exact⟨_,rfl,by split<;>lia⟩
def Eh {r o q:Jy}(j:JRow r)(l:JRow o)(g:JC r q=true)(h:JC o q=true):JC (Q1 r o) q=true:=by
 rw[xT] at g h ⊢;intro p hp;have c:=(XG j l).once.look hp;rw[BI j.once l.once] at c;cases f:J8 r p.1 with
 |none =>
  rw[f] at c;exact h p (Qj c)
 |some x =>
  cases i:J8 o p.1 with
  |none =>
   rw[f,i] at c;cases c;exact g (p.1,p.2) (Qj f)
  |some y =>
   rw[f,i] at c;obtain⟨w,n,a⟩:=g (p.1,x) (Qj f);obtain⟨s,m,b⟩:=h (p.1,y) (Qj i);have e:=Zqi c
   grind
def jM (g:Jz)(r:Jy):Bool:=g.any λo=>JC o r
def rF {g:Jz}{r:Jy}:jM g r=true↔∃o∈g,JC o r=true:=U0
def Ke (f g:Jz)(l:Jz):Jz:=(l.filter λr => !jM g r).flatMap λr=>(g.filter λo => !jM f o).map (Q1 r)
def Ky (f g:Jz):Jz:=(f.filter (jM g)++g.filter (jM f))++Ke f g f
def Lz (f g l:Jz):(Ke f g l).length=(l.filter λr => !jM g r).length*(g.filter λo => !jM f o).length:=by
 unfold Ke;generalize l.filter (λr => !jM g r)=a
 induction a with
 |nil=>simp
 |cons r a b=>grind
theorem BJ {α: Type}(p:α -> Bool):∀l:List α,(l.filter p).length+(l.filter λx => !p x).length=l.length
 | []=>rfl
 |x::l=>by
  have:=BJ p l
  grind
def L0 {f g:Jz}(a:∀r∈f,JRow r)(b:∀r∈g,JRow r):∀q∈Ky f g,JRow q:=λq hq=>by
 rcases Jb.mp hq with hq|hq
 .grind
 .obtain⟨r,c,hq⟩:=Jq.mp hq
  grind[XG]
def c3 {f g:Jz}(e:∀r∈f,JRow r)(h:∀r∈g,JRow r)(q:Jy):(∃x∈Ky f g,JC x q=true)↔(∃x∈Wd f g,JC x q=true):=by
 constructor
 .rintro⟨x,hx,a⟩;rcases Jb.mp hx with hx|hx
  .rcases Jb.mp hx with hx|hx
   .obtain⟨hx,i⟩:=Jf.mp hx;obtain⟨o,b,c⟩:=rF.mp i;exact⟨Q1 x o,wD.mpr (),Eh (e x hx) (h o b) a (Ku c a)⟩
   .obtain⟨hx,i⟩:=Jf.mp hx;obtain⟨o,b,c⟩:=rF.mp i;exact⟨Q1 o x,wD.mpr ⟨o,b,x,hx,rfl⟩,Eh (e o b) (h x hx) (Ku c a) a⟩
  .obtain⟨r,j,hx⟩:=Jq.mp hx;exact⟨_,wD.mpr (),a⟩
 .rintro⟨x,hx,a⟩;obtain⟨r,j,o,b,rfl⟩:=wD.mp hx;have l:=Ku (Lx (e r j) (h o b)) a;have m:=Ku (Ly (e r j) (h o b)) a
  grind[Ky,Ke]
def fq {f g:Jz}(l:∀r∈f,JRow r)(t:∀r∈g,JRow r)(F:f.length+g.length+f.length*g.length<=1000):ZS [ji f,ji g]=.ok (ji (Ky f g)):=by
 have m:∀(ks:Jz) (r:Jy),JRow r->xp [j0 r,ji ks]=.ok (.bl (jM ks r)):=λks r h=>gQ h.once (by have:=h.len;lia);have z:K9 (.one 0) (JG (J5 xp (J0 (jb 0) (J0 (jb 1) jc)))) (jb 0) [none,~~~(ji g)] (f.map j0)=.ok ((f.filter (jM g)).map j0):=
  AV (s:=λr=>[~~~(j0 r),~~~(ji g)]) (λr _=>rfl) (λr j=>by simp[m g r (l r j)]) ()
 have m2:K9 (.one 0) (JG (J5 xp (J0 (jb 0) (J0 (jb 1) jc)))) (jb 0) [none,~~~(ji f)] (g.map j0)=.ok ((g.filter (jM f)).map j0):=
  AV (s:=λr=>[~~~(j0 r),~~~(ji f)]) (λr _=>rfl) (λr j=>by simp[m f r (t r j)]) ()
 have u:K9 (.one 0) (WN (JG (J5 xp (J0 (jb 0) (J0 (jb 1) jc))))) (jb 0) [none,~~~(ji f)] (g.map j0)=.ok ((g.filter λo => !jM f o).map j0):=
  AV (s:=λr=>[~~~(j0 r),~~~(ji f)]) (λr _=>rfl) (λr j=>by simp[m f r (t r j)]) ()
 have Q:=BJ (jM g) f;have G:=BJ (jM f) g;have a:∀o∈g.filter (λo => !jM f o),JRow o:=λo n=>t o (Jf.mp n).1;have B:Ky f g=(f.filter (jM g)++g.filter (jM f))++Ke f g f:=rfl;have bl:∀i,(Ke f g (f.take i)).length<=min i f.length*g.length:=λi=>by
  rw[Lz];refine Ve ?_ (U5 _ _);have:=U5 (λr => !jM g r) (f.take i);rw[Uv] at this;exact this
 have C:∀(i:Nat) (r:Jy),f[i]? = some r->Ke f g (f.take (i+1))=Ke f g (f.take i)++(if jM g r=true then[] else(g.filter λo => !jM f o).map (Q1 r)):=λi r j=>by
  unfold Ke;rw[KM j,List.filter_append,List.flatMap_append];cases c:jM g r with
  |true=>rw[List.filter_cons_of_neg (by rw[c];simp),Zd rfl];rfl
  |false=>rw[List.filter_cons_of_pos (by rw[c];rfl),Ze Zj];simp
 generalize R:(g.filter λo => !jM f o)=rest at u a C G;have S:rest.length<=g.length:=()
 generalize E:f.filter (jM g)++g.filter (jM f)=A at B;have T:A.length<=f.length+g.length:=by rw[<- E,Ub];lia
 have H:(f.filter (jM g)).length+(g.filter (jM f)).length<=sizeLine:=QQ ();have I:(f.filter (jM g)).map j0++(g.filter (jM f)).map j0=A.map j0:=by rw[<- E,Uc]
 obtain⟨sd',e,v,w⟩:=KB (tg:=.one 4) (b:=(xX (WN (JG (J5 xp (J0 (jb 4) (J0 (jb 1) jc))))) (Wp 2 (Qk [none,some 4] (iS (jb 3)) (.one 0) (J5 z9 (J0 (jb 1) (J0 (jb 0) jc))))) Qh)) (ds:=f.map j0) (sd:=[~~~(ji f),~~~(ji g),some (.own false (.lst (A.map j0))),~~~(.lst (rest.map j0)),none])
  (P:=λi sd=>∃(v:Option SV),sd=[~~~(ji f),~~~(ji g),some (.own false (.lst ((A++Ke f g (f.take i)).map j0))),~~~(.lst (rest.map j0)),v]) ⟨none,by rw[List.take_zero];simp[Ke]⟩ (by
   rintro i x sd J ⟨v,rfl⟩;obtain⟨r,j,rfl⟩:=Kt J;have U:=(Jc.mp j).1;have p:=Ug j;have q:=m g r (l r p);have X:=bl i;have K:(min i f.length+1)*g.length<=f.length*g.length:=Ve () (Zf _);rw[Nat.succ_mul] at K;rw[C i r j];cases c:jM g r with
   |true =>
    rw[c] at q;rw[Zd rfl,ZB];exact⟨[~~~(ji f),~~~(ji g),some (.own false (.lst ((A++Ke f g (f.take i)).map j0))),~~~(.lst (rest.map j0)),~~~(j0 r)],by simp[q],_,rfl⟩
   |false =>
    rw[c] at q;rw[Ze Zj];have y:jO (.one 0) (J5 z9 (J0 (jb 1) (J0 (jb 0) jc))) [none,~~~(j0 r)] (rest.map j0)=.ok (rest.map λo=>j0 (Q1 r o)):=QJ λo n=>by
     have F:=(l r p).len;have Y:=(a o n).len;simp[nL (l r p).ne (l r p).once (a o n).once () ()]
    have L:(rest.map (Q1 r)).map j0=rest.map λo=>j0 (Q1 r o):=by rw[Zw];rfl
    have sz:(A++Ke f g (f.take i)).length+rest.length<=sizeLine:=QQ (by rw[Ub];lia);have M:=JU (show rest.length<=1000 from ());refine⟨[~~~(ji f),~~~(ji g),some (.own false (.lst ((A++(Ke f g (f.take i)++rest.map (Q1 r))).map j0))),~~~(.lst (rest.map j0)),~~~(j0 r)],?_,_,rfl⟩;rw[<- Uh];generalize A++Ke f g (f.take i)=acc at sz ⊢;rw[Uc,L];simp[q,y,M,sz])
 subst w;rw[Zql,VO] at e;have N:=JU (show f.length<=1000 from ());have O:=JU (show g.length<=1000 from ());rw[B];simp[ji] at z m2 u e ⊢;simp[ZS,BH,z,m2,u,N,O,H,I,e]
def vd:FS:=(jl (qj 2 (qc jc)) (jl (jZ (iS (j8 YY (J0 (j8 YX (J0 (jb 0) jc)) jc))) (.one 3) (jl (xX (JG (jg xO (y8 [2] (j8 jP (J0 (jb 2) jc))) (jb 1))) v3 Qh) (xX (WN (JG (y8 [2] (J5 xp (J0 (jb 3) (J0 (jb 2) jc)))))) (Q4 2 (jb 3)) Qh))) (Kg 2)))
def vh:YG->Res D:=jQ 4 2 vd
def p3 (rs):(JL j3 (qO rs)).Pairwise λa b=>j3 a b=true:=ZJ ya (Ik rs)
def pk {rs:Jz}{en:Int}(ne:∀r∈rs,r ≠ [])(l:∀r∈rs,qw r)(m:∀r∈rs,r.length<=100)(s:rs.length<1000)(G:0<=en):vh [ji rs,.int en]=.ok (ji ((xK rs).take en.toNat)):=by
 have dl:=Il rs;have t:YX [ji rs]=some (.lst ((JL j3 (qO rs)).map j0)):=SO ne () ();have H:(JL j3 (qO rs)).length=(qO rs).length:=(Qr (ltb:=j3) _).length_eq;have v:YY [.lst ((JL j3 (qO rs)).map j0)]=some (.lst ((qS rs).map j0)):=Ta (p3 rs) () λr w=>by
  have:=m r (mf.mp ((Qr (ltb:=j3) _).mem_iff.mp w));lia
 have c:=La l;have n:∀r,r∈qS rs->r∈rs:=λr h=>hW.mp h;have y:=IZ rs;have A:xK rs=(qS rs).filter (qg rs):=rfl;rw[A];simp[vh,vd,t,v];generalize qS rs=L at c n y;refine YU (R:=λz=>(z.bind (xG (Kg 2))).bind yw=.ok (ji ((L.filter (qg rs)).take en.toNat))) (P:=λi sd=>i<=L.length/\(((L.take i).filter (qg rs)).length:Int)<=en/\∃u,sd=[~~~(ji rs),~~~(.int en),some (.own false (.lst (((L.take i).filter (qg rs)).map j0))),u]) ⟨Ua _,(),none,rfl⟩ ?_ ?_
 .rintro sd ⟨_,le,u,rfl⟩;rw[Zql,VO] at le ⊢;rw[UY ()];rfl
 .rintro i x sd B ⟨_,le,u,rfl⟩;obtain⟨r,hp,rfl⟩:=Kt B;have I:=(Jc.mp hp).1;have j:=c (i+1) ();rw[KM hp,Vp,c i (),<- KM hp] at j;have j:zp ((L.take i).filter (qg rs)) r=(L.take (i+1)).filter (qg rs):=j;have C:((L.take i).filter (qg rs)).length<=i:=by
   have a:=U5 (qg rs) (L.take i);rw[Uv] at a;lia
  rw[<- j];have p:=n r (Ug hp);have f:=gQ (r:=r) (ks:=(L.take i).filter (qg rs)) (Bx (l r p)) (m r p);have e:L.filter (qg rs)=(L.take i).filter (qg rs)++(L.drop i).filter (qg rs):=by rw[<- List.filter_append,UK]
  generalize (L.take i).filter (qg rs)=ks at C f le e;have f:xp [j0 r,.lst (ks.map j0)]=.ok (.bl (ks.any λo=>JC o r)):=f;have hz:=JU (show ks.length<=1000 from ());by_cases g:(ks.length:Int)=en
  .have E:(L.filter (qg rs)).take en.toNat=ks:=by
    rw[e,List.take_left' ()]
   refine .inr (.inl ⟨[~~~(ji rs),~~~(.int en),some (.own false (.lst (ks.map j0))),~~~(j0 r)],by simp[g],?_⟩);rw[E];simp[ji]
  .have ls:∀b,(ks.any λo=>JC o r)=b->zp ks r=if b=true then ks else ks++[r]:=λb F=>by unfold zp;rw[F]
   cases q:ks.any λo=>JC o r with
   |true =>
    rw[q] at f;rw[ls true q,Zd rfl];exact .inl ⟨[~~~(ji rs),~~~(.int en),some (.own false (.lst (ks.map j0))),~~~(j0 r)],.inl (by simp[g,f]),(),le,_,rfl⟩
   |false =>
    rw[q] at f;rw[ls false q,Ze Zj];exact .inl ⟨[~~~(ji rs),~~~(.int en),some (.own false (.lst ((ks++[r]).map j0))),~~~(j0 r)],.inl (by simp[g,f,hz]),(),(by rw[Ub,Uj];lia),_,rfl⟩
def ZT:FS:=(jl (j4 2 (Qa vh (J0 (jb 0) (J0 (jg j1 (jb 1) (dC (.int 1))) jc)))) (jl (xX (JG (jg wx (j8 jP (J0 (jb 2) jc)) (jb 1))) (Bf "TooMany" (qV (wT "more than ") (jb 1))) Qh) (j6 (j8 KP (J0 (jb 2) jc)))))
def Q7:YG->Res D:=jQ 3 2 ZT
def cv (rs:Jz):(xK rs).length=(JY rs).length:=by
 rw[<- Lb,(Qr _).length_eq]
def jR (most:Int)(t:Jz):Option Jz:=if(t.length:Int)<=most then some t else none
def xu:Option Jz->Res D
 |some t=>.ok (ji t)
 |none=>.ex "TooMany" []
def Ei {rs:Jz}{most:Int}(ne:∀r∈rs,r ≠ [])(h:∀r∈rs,qw r)(i:∀r∈rs,r.length<=100)(e:rs.length<1000)(m:0<=most)(j:most<=1000):Q7 [ji rs,.int most]=xu (jR most (JY rs)):=by
 have f:=pk (en:=most+1) ne h i e ();have n:(xK rs).length<=rs.length:=Zh (U5 _ _) (IZ rs);have o:=cv rs;unfold jR;by_cases c:((JY rs).length:Int)<=most
 .rw[Zd c];rw[UY ()] at f;have b:KP [ji (xK rs)]=some (.lst ((JL j3 (xK rs)).map j0)):=DS (λr l=>ne r (hW.mp (Jf.mp l).1)) ();rw[Lb] at b;have b:KP [ji (xK rs)]=some (ji (JY rs)):=b;have g:¬most<((xK rs).length:Int):=()
  show _=Res.ok (ji (JY rs));simp[Q7,ZT,f,g,b]
 .rw[Ze c];have g:most<(((xK rs).take (most+1).toNat).length:Int):=by
   grind
  have ⟨z,hz⟩:=Tj (x:= "more than ") (a:=most) () ();show _=Res.ex "TooMany" []
  simp_all [Q7,ZT]
def wm:FS:=(jl (j4 2 (J5 Q7 (J0 (jg jA (jb 0) (dC (.int 0))) (J0 (jb 1) jc)))) (jl (jZ (iS (bQ (jb 0) (AW (dC (.int 1))) X2 X2)) (.one 3) (j4 2 (J5 Q7 (J0 (Qa ZS (J0 (jb 2) (J0 (jb 3) jc))) (J0 (jb 1) jc))))) (j6 (jb 2))))
def qB:YG->Res D:=jE 4 2 wm
def K5 (t f:Jz):Jz:=JY (Wd t f)
structure AllOk (fs:List Jz)(t:Jz):Prop where
 row:∀r∈t,JRow r
 abv:∀r∈t,∀f∈fs,∃s∈f,JC s r=true
 least:∀q:Jy,(∀f∈fs,∃s∈f,JC s q=true)->∃r∈t,JC r q=true
 anti:∀r∈t,∀s∈t,JC r s=true->r=s
 strict:t.Pairwise λa b=>j3 a b=true
def BK {r:Jy}(o:j7 r):JC r r=true:=xT.mpr λp hp=>⟨p.2,o.look hp,UM _⟩
def Ej {rs:Jz}:∀r∈JY rs,∀s∈JY rs,JC r s=true->r=s:=λr a s hs b=>wA.mp (xE.mp hs).2 r (xE.mp a).1 b
def L1 {f:Jz}(h:∀r∈f,JRow r):AllOk [f] (JY f):=by
 refine⟨λr a=>h r (xE.mp a).1,λr a g c=>?_,λq e=>?_,Ej,W1 f⟩
 .rw[Jd.mp c];exact⟨r,(xE.mp a).1,BK (h r (xE.mp a).1).once⟩
 .obtain⟨s,hs,i⟩:=e f ();obtain⟨r,a,b⟩:=XC (λr a=>⟨(h r a).once,(h r a).rise⟩) hs;exact⟨r,a,Ku b i⟩
def L4 {fs:List Jz}{t f:Jz}(A:AllOk fs t)(h:∀r∈f,JRow r):AllOk (fs++[f]) (K5 t f):=by
 have b:∀q∈Wd t f,JRow q:=λq e=>by
  obtain⟨r,a,o,c,rfl⟩:=wD.mp e;exact XG (A.row r a) (h o c)
 refine⟨λr a=>b r (xE.mp a).1,λq e g m=>?_,λq e=>?_,Ej,W1 _⟩
 .obtain⟨r,a,o,c,rfl⟩:=wD.mp (xE.mp e).1;rcases Jb.mp m with z|z
  .obtain⟨s,hs,i⟩:=A.abv r a g z;exact⟨s,hs,Ku i (Lx (A.row r a) (h o c))⟩
  .rw[Jd.mp z];exact⟨o,c,Ly (A.row r a) (h o c)⟩
 .obtain⟨r,a,i⟩:=A.least q λg m=>e g ();obtain⟨o,c,j⟩:=e f ();obtain⟨s,hs,l⟩:=XC (λr a=>⟨(b r a).once,(b r a).rise⟩) (wD.mpr ⟨r,a,o,c,rfl⟩);exact⟨s,hs,Ku l (Eh (A.row r a) (h o c) i j)⟩
def Ek {rs:Jz}(h:∀r∈rs,JRow r)(b:rs ≠ []):JY rs ≠ []:=λz=>by
 cases rs with
 |nil=>exact b rfl
 |cons r rs =>
  obtain⟨s,hs,_⟩:=XC (λr a=>⟨(h r a).once,(h r a).rise⟩) (Zqs)
  simp_all
def c8 {f g:Jz}(a:f ≠ [])(b:g ≠ []):Wd f g ≠ []:=λz=>by
 have:=cN f g;rw[z,ZD] at this;have:=Nat.mul_pos (List.length_pos_iff.mpr a) (List.length_pos_iff.mpr b);lia
def L5 {a b:Jz}(i:∀r∈a,JRow r)(e:∀r∈b,JRow r)(h:∀q,(∃x∈a,JC x q=true)↔∃x∈b,JC x q=true):JY a=JY b:=by
 have f:∀{a b:Jz},(∀r∈a,JRow r)->(∀r∈b,JRow r)->(∀q,(∃x∈a,JC x q=true)↔∃x∈b,JC x q=true)->∀r,r∈JY a->r∈JY b:=by
  intro a b i e h r l;obtain⟨m,s⟩:=xE.mp l;obtain⟨y,t,u⟩:=(h r).mp ⟨r,m,BK (i r m).once⟩;obtain⟨j,n,o⟩:=XC (λr l=>⟨(e r l).once,(e r l).rise⟩) t;have c:=(xE.mp n).1;have p:=Ku o u;obtain⟨x,v,g⟩:=(h j).mpr ⟨j,c,BK (e j c).once⟩;rw[(wA.mp s x v (Ku g p))] at g
  rwa [IT (i r m).once (e j c).once (i r m).rise (e j c).rise g p]
 exact WK ya (W1 a) (W1 b) λr=>⟨f i e h r,f e i (λq=>(h q).symm) r⟩
def L6 {f g:Jz}(a:∀r∈f,JRow r)(b:∀r∈g,JRow r):∀q∈Wd f g,JRow q:=λq c=>by
 obtain⟨r,e,o,h,rfl⟩:=wD.mp c;exact XG (a r e) (b o h)
def cq {t g:Jz}(a:∀r∈t,JRow r)(b:∀r∈g,JRow r):JY (Ky t g)=K5 t g:=L5 (L0 a b) (L6 a b) (c3 a b)
def x6 (most:Int):Jz->List Jz->Option Jz
 |t,[]=>some t
 |t,g::gs=>(jR most (K5 t g)).bind λt'=>x6 most t' gs
def L8 (most)(t g)(gs):x6 most t (g::gs)=(jR most (K5 t g)).bind λt'=>x6 most t' gs:=rfl
def xj (most:Int)(f:Jz)(fs:List Jz):Option Jz:=(jR most (JY f)).bind λt=>x6 most t fs
def Xd {most:Int}{t t':Jz}(h:jR most t=some t'):t'=t/\(t.length:Int)<=most:=by
 grind[jR]
def ca {t g:Jz}(a:∀r∈t,JRow r)(b:∀r∈g,JRow r)(c:t ≠ [])(e:g ≠ []):K5 t g ≠ []:=Ek (L6 a b) (c8 c e)
theorem L9 {most:Int}:∀{a fs:List Jz} {t t':Jz},AllOk fs t->(t.length:Int)<=most->t ≠ []->(∀g∈a,g ≠ []/\∀r∈g,JRow r)->x6 most t a=some t'->AllOk (fs++a) t'/\(t'.length:Int)<=most/\t' ≠ []
 | [],fs,t,t',A,hl,hn,_,h=>by
  cases h
  simp_all
 |g::a,fs,t,t',A,hl,hn,hg,h=>by
  unfold x6 at h;cases q:jR most (K5 t g) with
  |none=>simp_all
  |some i =>
   rw[q] at h;obtain⟨e,c⟩:=Xd q;have b:=hg g Zqs;have:=L9 (L4 A b.2) c (ca A.row b.2 hn b.1) (λx f=>hg x (Zqm _ f)) (by rwa [<- e])
   simp_all
def ZG (a:f ≠ []/\∀r∈f,JRow r)(b:∀g∈fs,g ≠ []/\∀r∈g,JRow r)(h:xj most f fs=some t):AllOk (f::fs) t/\(t.length:Int)<=most/\t ≠ []:=by
 unfold xj at h;cases q:jR most (JY f) with
 |none=>simp_all
 |some i =>
  rw[q] at h;obtain⟨e,c⟩:=Xd q;exact L9 (L1 a.2) c (Ek a.2 a.1) b (by rwa [<- e])
def El {f:Jz}{fs:List Jz}{most:Int}(n:f ≠ []/\∀r∈f,JRow r)(c:∀g∈fs,g ≠ []/\∀r∈g,JRow r)(s:f.length<1000)(w:0<=most)(m2:most<=1000)(L:fs.length<=900)
 (sz:∀(i:Nat) (t g:Jz),AllOk (f::fs.take i) t->(t.length:Int)<=most->fs[i]? = some g->(Ky t g).length<1000/\t.length+g.length+t.length*g.length<=1000):
 qB [.lst ((f::fs).map ji),.int most]=xu (xj most f fs):=by
 have w1:=Ei (rs:=f) (most:=most) (λr a=>(n.2 r a).ne) (λr a=>(n.2 r a).rise) (λr a=>by have:=(n.2 r a).len;lia) s w m2;have o:qo ((f::fs).map ji) 0=some (ji f):=by
  rw[show((0:Int))=((0:Nat):Int) from rfl,XA ()];rfl
 have F:Qp (ji f::fs.map ji) (some 1) none none=fs.map ji:=by
  rw[IU _ ()];rfl
 unfold xj;cases q:jR most (JY f) with
 |none =>
  rw[q] at w1;have w1:Q7 [ji f,.int most]=.ex "TooMany" []:=w1;show _=Res.ex "TooMany" [];simp[qB,wm] at o ⊢;simp[o,w1]
 |some j =>
  rw[q] at w1;obtain⟨G,M⟩:=Xd q;have w1:Q7 [ji f,.int most]=.ok (ji j):=w1;show _=xu (x6 most j fs);have N:AllOk [f] j:=by rw[G];exact L1 n.2
  have m:((qY (.one 3) (j4 2 (J5 Q7 (J0 (Qa ZS (J0 (jb 2) (J0 (jb 3) jc))) (J0 (jb 1) jc)))) (fs.map ji) [~~~(.lst ((f::fs).map ji)),~~~(.int most),~~~(ji j),none]).bind (xG (j6 (jb 2)))).bind xI=xu (x6 most j fs):=by
   refine Iv (R:=λz=>(z.bind (xG (j6 (jb 2)))).bind xI=xu (x6 most j fs)) (P:=λi sd=>∃(t:Jz) (u:Option SV),sd=[~~~(.lst ((f::fs).map ji)),~~~(.int most),~~~(ji t),u]/\AllOk (f::fs.take i) t/\(t.length:Int)<=most/\x6 most t (fs.drop i)=x6 most j fs) () ?_ ?_
   .rintro sd ⟨t,u,rfl,A,lt,h⟩;rw[Zql,U9] at h;rw[<- h];simp[xu,x6]
   .rintro i x sd H ⟨t,u,rfl,A,lt,h⟩;obtain⟨g,l,rfl⟩:=Kt H;have B:=(Jc.mp l).1;have p:=Ug l;obtain⟨I,J⟩:=sz i t g A lt l;have C:=fq (f:=t) (g:=g) A.row (c g p).2 J;have b:=L0 A.row (c g p).2;have e:=Ei (rs:=Ky t g) (most:=most) (λr a=>(b r a).ne) (λr a=>(b r a).rise) (λr a=>by have:=(b r a).len;lia) I w m2;rw[cq A.row (c g p).2] at e;have K:fs.drop i=g::fs.drop (i+1):=by
     rw[Uu B];rw[Zqg B] at l;rw[Zqi l]
    rw[K,L8] at h;cases y:jR most (K5 t g) with
    |none =>
     rw[y] at e h;have e:Q7 [ji (Ky t g),.int most]=.ex "TooMany" []:=e;refine .inr ⟨"TooMany",[],by simp[C,e],?_⟩;rw[<- h];rfl
    |some v =>
     rw[y] at e h;obtain⟨E,s⟩:=Xd y;have e:Q7 [ji (Ky t g),.int most]=.ok (ji v):=e;refine .inl ⟨[~~~(.lst ((f::fs).map ji)),~~~(.int most),~~~(ji v),~~~(ji g)],by simp[C,e],v,_,rfl,?_,by rw[E];exact s,h⟩;rw[KM l,E];exact L4 A (c g p).2
  simp[qB,wm] at o m ⊢;simp[o,w1,F,m]
def LA {f g:Jz}(b:g ≠ []):(Ky f g).length<=f.length*g.length+g.length:=by
 unfold Ky;rw[Ub,Ub,Lz];have a:=BJ (jM g) f;have p:0<g.length:=by grind
 have d:=Ve (Zf (f.filter λr => !jM g r).length) (U5 (λo => !jM f o) g);have e:=Nat.le_mul_of_pos_right (f.filter (jM g)).length p
 grind[Nat.add_mul]
def BL:FS:=(j6 (j8 Ws (J0 (Qk [none,none] (iS (jb 0)) (.tup [0,1]) (qm (J0 (jb 0) (J0 (qV xz (jb 1)) jc)))) jc)))
def Xe:YG->Res D:=jE 1 1 BL
def LB {r:Jy}(a:r.length<=1000):Xe [j0 r]=.ok (j0 (jr r)):=by
 have k2:jO (.tup [0,1]) (qm (J0 (jb 0) (J0 (qV xz (jb 1)) jc))) [none,none] (r.map q9)=.ok (r.map λp=>q9 (p.1,-p.2)):=QJ λp _=>by
  rfl
 have e:j0 (jr r)=.tup (r.map λp=>q9 (p.1,-p.2)):=by unfold j0 jr;simp
 rw[e];simp[Xe,BL,k2,JU a]
def BM:FS:=(j6 (Qk [none] (iS (jb 0)) (.one 0) (J5 Xe (J0 (jb 0) jc))))
def W3:YG->Res D:=jQ 1 1 BM
def Em {rs:Jz}(b:∀r∈rs,r.length<=1000)(c:rs.length<=1000):W3 [ji rs]=.ok (ji (rs.map jr)):=by
 have a:jO (.one 0) (J5 Xe (J0 (jb 0) jc)) [none] (rs.map j0)=.ok (rs.map λr=>j0 (jr r)):=QJ λr f=>by simp[LB (b r f)]
 have e:ji (rs.map jr)=.lst (rs.map λr=>j0 (jr r)):=by unfold ji;simp
 rw[e];simp[W3,BM,a,JU c]
def ve:FS:=(j6 (j8 Ws (J0 (Qk [none,none,some 1] (iS (jb 0)) (.tup [0,1]) (qm (J0 (jb 0) (J0 (jg j1 (jb 1) (jb 2)) jc)))) jc)))
def wp:YG->Res D:=jE 2 2 ve
def Qe (r:Jy)(w:Int):Jy:=r.map λp=>(p.1,p.2+w)
def nK {r:Jy}{w:Int}(b:r.length<=1000):wp [j0 r,.int w]=.ok (j0 (Qe r w)):=by
 have a:jO (.tup [0,1]) (qm (J0 (jb 0) (J0 (jg j1 (jb 1) (jb 2)) jc))) [none,none,~~~(.int w)] (r.map q9)=.ok (r.map λp=>q9 (p.1,p.2+w)):=QJ λp hp=>by
  rfl
 simp[wp,ve,j0,a,JU b,Qe]
def vb:FS:=(j6 (Qk [none,some 1] (iS (jb 0)) (.one 0) (J5 wp (J0 (jb 0) (J0 (jb 1) jc)))))
def xo:YG->Res D:=jQ 2 2 vb
def JO (f:Jz)(w:Int):Jz:=f.map λr=>Qe r w
def wU {f:Jz}{w:Int}(b:f.length<=1000)(c:∀r∈f,r.length<=1000):xo [ji f,.int w]=.ok (ji (JO f w)):=by
 have a:jO (.one 0) (J5 wp (J0 (jb 0) (J0 (jb 1) jc))) [none,~~~(.int w)] (f.map j0)=.ok (f.map λr=>j0 (Qe r w)):=QJ λr h=>by
  simp[nK (c r h)]
 have e:(JO f w).map j0=f.map λr=>j0 (Qe r w):=by unfold JO;simp
 simp[xo,vb,ji,a,JU b,e]
def BN (fs:List Jz)(ds:Yh):xS (fs.map ji) (ds.map .int)=(fs.zip ds).map λp=>D.tup [ji p.1,.int p.2]:=by
 unfold xS
 induction fs generalizing ds with
 |nil=>rfl
 |cons x a b =>
  cases ds with
  |nil=>rfl
  |cons y ys=>simp_all
def LC {r:Jy}{w:Int}(h:JRow r):JRow (Qe r w):=by
 refine⟨λz=>h.ne (Je.mp z),?_,λp hp=>?_⟩
 .unfold qw Qe;rw[Zw];exact h.rise
 .obtain⟨q,a,rfl⟩:=Ja.mp hp;exact h.bnd q a
def ZU {r:Jy}(h:JRow r):JRow (jr r):=by
 refine⟨λz=>h.ne (Je.mp z),?_,λp hp=>?_⟩
 .unfold qw jr;rw[Zw];exact h.rise
 .obtain⟨q,a,rfl⟩:=Ja.mp hp;exact h.bnd q a
def ZV:FS:=(j6 (J5 qB (J0 (Qk [none,none] (iZ (J0 (jb 0) (J0 (jb 1) jc))) (.tup [0,1]) (Qa xo (J0 (Qa W3 (J0 (jb 0) jc)) (J0 (jb 1) jc)))) (J0 (jb 2) jc))))
def W4:YG->Res D:=jE 3 3 ZV
def ZW (fs:List Jz)(ds:Yh):List Jz:=(fs.zip ds).map λp=>JO (p.1.map jr) p.2
def LD {fs:List Jz}{ds:Yh}(l:ds.length=fs.length)(m:fs.length<=1000)(c:∀f∈fs,∀r∈f,JRow r)(g:∀f∈fs,f.length<=1000):
 jO (.tup [0,1]) (Qa xo (J0 (Qa W3 (J0 (jb 0) jc)) (J0 (jb 1) jc))) [none,none] (xS (fs.map ji) (ds.map .int))=.ok ((ZW fs ds).map ji)/\(xS (fs.map ji) (ds.map .int)).length<sizeLine:=by
 have a:jO (.tup [0,1]) (Qa xo (J0 (Qa W3 (J0 (jb 0) jc)) (J0 (jb 1) jc))) [none,none] ((fs.zip ds).map λp=>D.tup [ji p.1,.int p.2])=.ok ((fs.zip ds).map λp=>ji (JO (p.1.map jr) p.2)):=QJ λp hp=>by
  have b:=(Vs hp).1;have:=g p.1 b;have i:=wU (f:=p.1.map jr) (w:=p.2) () λr h=>by
   obtain⟨x,j,rfl⟩:=Ja.mp h;have:=(ZU (c p.1 b x j)).len;lia
  simp[(Em (λr h=>by have:=(c p.1 b r h).len;lia) ()),i]
 have e:((fs.zip ds).map λp=>ji (JO (p.1.map jr) p.2))=(ZW fs ds).map ji:=by unfold ZW;simp
 rw[e,<- BN] at a;refine⟨a,?_⟩;rw[BN,Zql,List.length_zip];exact JU ()
def pz {fs:List Jz}{ds:Yh}{most:Int}{t:Jz}(a:ds.length=fs.length)(b:fs.length<=1000)(c:∀f∈fs,∀r∈f,JRow r)(e:∀f∈fs,f.length<=1000)
 (h:qB [.lst ((ZW fs ds).map ji),.int most]=.ok (ji t)):W4 [.lst (fs.map ji),.lst (ds.map .int),.int most]=.ok (ji t):=by
 obtain⟨g,i⟩:=LD a b c e
 simp_all [W4,ZV]
def ZX:FS:=(jl (j4 3 (Qk [none,none] (iZ (J0 (jb 0) (J0 (jb 1) jc))) (.tup [0,1]) (Qa xo (J0 (jb 0) (J0 (qV xz (jb 1)) jc))))) (j6 (j8 KP (J0 (Qa W3 (J0 (J5 qB (J0 (jb 3) (J0 (jb 2) jc))) jc)) jc))))
def W5:YG->Res D:=jQ 4 3 ZX
def ZY (fs:List Jz)(ds:Yh):List Jz:=(fs.zip ds).map λp=>JO p.1 (-p.2)
def LF {fs:List Jz}{ds:Yh}(i:ds.length=fs.length)(j:fs.length<=1000)(c:∀f∈fs,∀r∈f,JRow r)(g:∀f∈fs,f.length<=1000):
 jO (.tup [0,1]) (Qa xo (J0 (jb 0) (J0 (qV xz (jb 1)) jc))) [none,none] (xS (fs.map ji) (ds.map .int))=.ok ((ZY fs ds).map ji)/\(xS (fs.map ji) (ds.map .int)).length<sizeLine:=by
 have a:jO (.tup [0,1]) (Qa xo (J0 (jb 0) (J0 (qV xz (jb 1)) jc))) [none,none] ((fs.zip ds).map λp=>D.tup [ji p.1,.int p.2])=.ok ((fs.zip ds).map λp=>ji (JO p.1 (-p.2))):=QJ λp hp=>by
  have b:=(Vs hp).1;have:=g p.1 b;simp[(wU () λr h=>by have:=(c p.1 b r h).len;lia)]
 have e:((fs.zip ds).map λp=>ji (JO p.1 (-p.2)))=(ZY fs ds).map ji:=by unfold ZY;simp
 rw[e,<- BN] at a;refine⟨a,?_⟩;rw[BN,Zql,List.length_zip];exact JU ()
def pe {fs:List Jz}{ds:Yh}{most:Int}{t:Jz}(b:ds.length=fs.length)(c:fs.length<=1000)(e:∀f∈fs,∀r∈f,JRow r)(g:∀f∈fs,f.length<=1000)
 (l:qB [.lst ((ZY fs ds).map ji),.int most]=.ok (ji t)) (a:∀r∈t,JRow r) (lt:t.length<1000):W5 [.lst (fs.map ji),.lst (ds.map .int),.int most]=.ok (ji (JL j3 (t.map jr))):=by
 obtain⟨i,m⟩:=LF b c e g;have n:=Em (λr h=>by have:=(a r h).len;lia) ();have o:KP [ji (t.map jr)]=some (ji (JL j3 (t.map jr))):=DS (λr h=>by
  obtain⟨q,j,rfl⟩:=Ja.mp h;exact λz=>(a q j).ne (Je.mp z)) (by rw[Zql];lia)
 simp_all [W5,ZX]
def wo:FS:=(jl (qj 2 (J5 Q7 (J0 (jg jA (jb 0) (dC (.int 0))) (J0 (jb 1) jc)))) (jl (jZ (iS (bQ (jb 0) (AW (dC (.int 1))) X2 X2)) (.one 3) (λsd=>(qj 2 (J5 Q7 (J0 (jg j1 (jb 2) (jb 3)) (J0 (jb 1) jc)))) (jU [2] sd))) (Kg 2)))
def yk:YG->Res D:=jQ 4 2 wo
def zj (most:Int):Jz->List Jz->Option Jz
 |t,[]=>jR most t
 |t,g::gs=>(jR most t).bind λ_=>zj most (xr t g) gs
def LG {most:Int}{t:Jz}(h:jR most t=none)(a):zj most t a=none:=by
 cases a with
 |nil=>exact h
 |cons g a=>show(jR most t).bind _=none;rw[h];rfl
def BO {most:Int}{t:Jz}(h:(t.length:Int)<=most):jR most t=some t:=Zd h
def LH {most:Int}{t:Jz}(h:most<(t.length:Int)):jR most t=none:=Ze ()
def BP:FS:=(j6 (J5 qB (J0 (Qk [none,none,some 1] (iS (jb 0)) (.tup [0,1]) (Qa xo (J0 (jg jA (jb 2) (jb 0)) (J0 (jb 1) jc)))) (J0 (jb 2) jc))))
def Kl:YG->Res D:=jE 3 3 BP
def qA (fs:List Jz)(t:Int):Jz:=fs.getD t.toNat []
def BQ {fs:List Jz}{t:Int}(a:0<=t)(b:t<(fs.length:Int)):qA fs t∈fs:=by
 simp_all [qA]
def LJ {fs:List Jz}{t:Int}(a:0<=t)(b:t<(fs.length:Int)):qo (fs.map ji) t=some (ji (qA fs t)):=by
 grind[Zql,List.getElem?_map,qA,XA]
def pc {r:Jy}{fs:List Jz}(c:∀p∈r,0<=p.1/\p.1<(fs.length:Int))(e:∀f∈fs,f.length<=1000/\∀r∈f,r.length<=1000):
 jO (.tup [0,1]) (Qa xo (J0 (jg jA (jb 2) (jb 0)) (J0 (jb 1) jc))) [none,none,~~~(.lst (fs.map ji))] (r.map q9)=.ok ((r.map λp=>JO (qA fs p.1) p.2).map ji):=by
 rw[Zw];exact QJ λp hp=>by
  obtain⟨a,b⟩:=c p hp;obtain⟨g,h⟩:=e _ (BQ a b);simp[(LJ a b),(wU g h)]
def z8:FS:=(j6 (J5 yk (J0 (Qk [none,some 1,some 2] (iS (jb 0)) (.one 0) (J5 Kl (J0 (jb 0) (J0 (jb 1) (J0 (jb 2) jc))))) (J0 (jb 2) jc))))
def xQ:YG->Res D:=jQ 3 3 z8
def nJ {a:Jz}{fs:List Jz}{most:Int}{g:Jy->Jz}{d:D}(c:a.length<=100)
 (e:∀r∈a,Kl [j0 r,.lst (fs.map ji),.int most]=.ok (ji (g r))) (h:yk [.lst ((a.map g).map ji),.int most]=.ok d):xQ [ji a,.lst (fs.map ji),.int most]=.ok d:=by
 have b:jO (.one 0) (J5 Kl (J0 (jb 0) (J0 (jb 1) (J0 (jb 2) jc)))) [none,~~~(.lst (fs.map ji)),~~~(.int most)] (a.map j0)=.ok ((a.map g).map ji):=by
  rw[Zw];exact QJ λr h=>by
   simp_all
 have hz:=JU (show a.length<=1000 from ())
 simp_all [xQ,z8]
def We (a:YG->HP->Res (D×HP)):qp:=(vS (yW (JG (jg xO (jb 1) (dC (.str "all"))))) (yt (J5 qB (J0 (jb 2) (J0 (jb 3) jc)))) (vS (yW (JG (jg xO (jb 1) (dC (.str "first"))))) (yt (J5 yk (J0 (jb 2) (J0 (jb 3) jc)))) (xi (zL (wJ [4] (JG (jg (wS true) (jb 1) (jb 4)))) (Bo (jb 4) (jb 1) (zH wR (Kj a (J0 (jb 0) (J0 (jb 1) (J0 (jb 3) (J0 (jb 4) jc))))) (yt (qV xz (dC (.int 1)))))) DG) (Bn xQ (Wy (zI (jb 4) (jb 1)) (Wy (yt (jb 2)) (Wy (yt (jb 3)) Bl)))))))
def vH:FS:=(j6 (qc (J0 (qm (J0 (qm (J0 (jb 0) (J0 (dC (.int 0)) jc))) jc)) jc)))
def vg:YG->Res D:=jQ 1 1 vH
@[simp]def pT (t:Int):vg [.int t]=.ok (ji [[(t,0)]]):=by
 rfl
def ZZ (a:YG->HP->Res (D×HP)):qp:=(xi (vn (j4 4 (Qa ZL (J0 (jb 0) (J0 (jb 1) jc))))) (xi (vn (qj 5 (Qk [none] (zr (J0 (j8 jP (J0 (qV (qX "Plan" "givens") (jb 4)) jc)) jc)) (.one 0) (Qa vg (J0 (jb 0) jc))))) (xi (Wx (iS (qV (qX "Plan" "rows") (jb 4))) (.tup [6,7,8]) (Bj (vn (j4 9 (ZH [none,none,some 5] 2 (iS (jb 8)) (.tup [0,1]) (Qa xo (J0 (V2 2 (jb 0)) (J0 (jb 1) jc)))))) (V6 5 (Kj a (J0 (jb 0) (J0 (jb 7) (J0 (jb 9) (J0 (jb 2) (J0 (jb 3) jc))))))))) (wV 5 (yt (jb 5))))))
def QL:Nat->YG->HP->Res (D×HP)
 | 0=>λ_ _=>.no
 |n+1=>QK 10 4 (ZZ (QK 5 5 (We (QL n))))
def Qs (n:Nat):YG->HP->Res (D×HP):=QK 5 5 (We (QL n))
def rL (f:Jz)(q:Jy):Prop:=∃x∈f,JC x q=true
structure Cn (f:Jz):Prop where
 ne:f ≠ []
 rows:∀r∈f,JRow r
 thin:JY f=f
def Cn.anti {f:Jz}(C:Cn f):∀r∈f,∀s∈f,JC r s=true->r=s:=by
 have h:=Ej (rs:=f)
 rwa [C.thin] at h
def Cn.strict {f:Jz}(C:Cn f):f.Pairwise λa b=>j3 a b=true:=by
 have h:=W1 f
 rwa [C.thin] at h
def dH {l:Jz}(h:∀r∈l,JRow r)(q):rL (JY l) q↔rL l q:=by
 constructor
 .rintro⟨x,a,b⟩;exact⟨x,(xE.mp a).1,b⟩
 .rintro⟨x,a,b⟩;obtain⟨s,hs,c⟩:=XC (λr e=>⟨(h r e).once,(h r e).rise⟩) a;exact⟨s,hs,Ku c b⟩
def dg {l:Jz}(h:∀r∈l,JRow r)(b:l ≠ []):Cn (JY l):=⟨Ek h b,λr a=>h r (xE.mp a).1,L5 (λr a=>h r (xE.mp a).1) h (dH h)⟩
theorem En (w:Int):∀(r:Jy) (t:Int),J8 (Qe r w) t=(J8 r t).map (· + w)
 | [],_=>rfl
 |p::r,t=>by
  have a:=En w r t;show(match J8 (Qe r w) t with|some v=>some v|none=>if p.1=t then some (p.2+w) else none)=Option.map _ (match J8 r t with|some v=>some v|none=>if p.1=t then some p.2 else none)
  grind
def cZ (r:Jy)(w:Int):Qe (Qe r w) (-w)=r:=by
 unfold Qe;rw[Zw];refine(UT λp _=>?_).trans (List.map_id r)
 grind
def pq {r q:Jy}{w:Int}:JC (Qe r w) q=true↔JC r (Qe q (-w))=true:=by
 rw[xT,xT];constructor
 .intro h p hp;obtain⟨u,a,l⟩:=h (p.1,p.2+w) (Ja.mpr ⟨p,hp,rfl⟩)
  grind[En]
 .intro h p hp;obtain⟨b,hp',rfl⟩:=Ja.mp hp;obtain⟨u,a,l⟩:=h b hp';rw[En] at a;cases e:J8 q b.1 with
  |none=>simp_all
  |some v =>
   grind
def cO {r:Jy}(h:JRow r)(w):JRow (Qe r w):=by
 refine⟨λz=>h.ne (Je.mp z),?_,λp hp=>?_⟩
 .have e:(Qe r w).map (·.1)=r.map (·.1):=by
   unfold Qe;simp
  unfold qw;rw[e];exact h.rise
 .obtain⟨a,hp',rfl⟩:=Ja.mp hp;exact h.bnd a hp'
theorem LK (w:Int):∀a b:Jy,j3 (Qe a w) (Qe b w)=j3 a b
 | [],[]=>rfl
 | [],_::_=>rfl
 |_::_,[]=>rfl
 |p::a,q::b=>by
  show j3 ((p.1,p.2+w)::Qe a w) ((q.1,q.2+w)::Qe b w)=_;rw[KW,KW,LK w a b];by_cases h:p=q
  .rw[Zd h,h,Zd rfl]
  .rw[Ze h,Ze λz=>h ?_]
   .simp_all [jT]
   grind
def fR {f:Jz}(C:Cn f)(w:Int):Cn (JO f w):=by
 refine⟨λz=>C.ne (Je.mp z),λr j=>?_,WK ya (W1 _) ?_ λr=>⟨λh=>(xE.mp h).1,λh=>xE.mpr ⟨h,wA.mpr λo l e=>?_⟩⟩⟩
 .obtain⟨g,c,rfl⟩:=Ja.mp j;exact cO (C.rows g c) w
 .unfold JO;rw[UW];exact C.strict.imp λ{a b} h=>by rwa [LK]
 .obtain⟨m,i,rfl⟩:=Ja.mp l;obtain⟨g,c,rfl⟩:=Ja.mp h;have e:=pq.mp e;rw[cZ] at e;rw[C.anti m i g c e]
def cX {r:Jy}(h:r ≠ [])(w:Int)(hs:Yh):Q0 (Qe r w) hs=Q0 r hs+w:=by
 unfold Q0 Qe;rw[<- cf (λz=>h (Je.mp z)),Zw,Zw]
 congr 1
 refine UT λp _=>?_
 grind
def pi {f:Jz}(b:f ≠ [])(a:∀r∈f,r ≠ [])(w)(hs):J7 (JO f w) hs=J7 f hs+w:=by
 unfold J7 JO;rw[<- dX (λz=>b (Je.mp z)),Zw,Zw]
 congr 1
 exact UT λr c=>cX (a r c) w hs
def cG {n:Int}{fs:List Jz}{t:Jz}{hs:Yh}(A:AllOk fs t)(E:t ≠ [])(F:fs ≠ [])(u:∀f∈fs,f ≠ []/\∀r∈f,r ≠ []/\j7 r/\∀p∈r,0<=p.1/\p.1<12):J7 t hs=qH (fs.map λf=>J7 f hs):=by
 have g:∀{r:Jy},r ≠ []->∀p∈r,jB hs p.1+p.2<=Q0 r hs:=λ{r} i p hp=>(WF (l:=r.map λp=>jB hs p.1+p.2) (λz=>i (Je.mp z))).2 _ (Ja.mpr ⟨p,hp,rfl⟩);have j:∀{r:Jy} {M:Int},r ≠ []->(∀p∈r,jB hs p.1+p.2<=M)->Q0 r hs<=M:=λ{r M} i h=>by
  obtain⟨m,_⟩:=WF (l:=r.map λp=>jB hs p.1+p.2) (λz=>i (Je.mp z));obtain⟨p,hp,e⟩:=Ja.mp m;have:=h p hp;have e:jB hs p.1+p.2=Q0 r hs:=e;lia
 obtain⟨G,m2⟩:=WF (l:=fs.map λf=>J7 f hs) (λz=>F (Je.mp z));have m2:∀f∈fs,J7 f hs<=qH (fs.map λf=>J7 f hs):=λf h=>m2 _ (Ja.mpr ⟨f,h,rfl⟩);obtain⟨v,o,x⟩:=Ja.mp G;have x:J7 v hs=qH (fs.map λf=>J7 f hs):=x;generalize qH (fs.map λf=>J7 f hs)=M at m2 x;obtain⟨r,i,O⟩:=V8 (hs:=hs) E;have lo:M<=J7 t hs:=by
  obtain⟨s,c,y⟩:=A.abv r i v o;have H:=V7 (hs:=hs) c;have I:Q0 s hs<=Q0 r hs:=j ((u v o).2 s c).1 λp hp=>by
   obtain⟨w,B,J⟩:=xT.mp y p hp;have:=g (A.row r i).ne (p.1,w) (Qj B);have this:jB hs p.1+w<=Q0 r hs:=this;lia
  lia
 obtain⟨q,C,y⟩:=A.least ((List.range 12).map λk:Nat=>((k:Int),M-jB hs (k:Int))) λf h=>by
  obtain⟨s,c,es⟩:=V8 (hs:=hs) (u f h).1;obtain⟨K,P,L⟩:=(u f h).2 s c;refine⟨s,c,xT.mpr λp hp=>⟨M-jB hs p.1,?_,?_⟩⟩
  .have N:j7 ((List.range 12).map λk:Nat=>((k:Int),M-jB hs (k:Int))):=by
    unfold j7;rw[Zw];unfold List.Nodup;rw[UW];exact(List.nodup_range (n:=12)).imp λ{a b} h e=>h (by have e:(a:Int)=(b:Int):=e;lia)
   have b:=L p hp;exact N.look (Ja.mpr ⟨p.1.toNat,Jg.mpr (),by rw[show((p.1.toNat:Nat):Int)=p.1 by lia]⟩)
  .have a:=g K p hp;have b:=m2 f h;lia
 have H:=V7 (hs:=hs) C;have I:Q0 q hs<=M:=j (A.row q C).ne λp hp=>by
  obtain⟨w,B,J⟩:=xT.mp y p hp;obtain⟨k,Q,R⟩:=Ja.mp (Qj B)
  grind
 lia
theorem LL {α: Type}{tg:Tg}{f:FE}{c:SD}{k:α -> D}{n:Str}{b:YG}:∀{a:List α},(∀x∈a,(∃v,(JQ tg (k x) c).bind f=.ok v)\/(JQ tg (k x) c).bind f=.ex n b)->(∃x∈a,(JQ tg (k x) c).bind f=.ex n b)->jO tg f c (a.map k)=.ex n b
 | [],_,⟨_,h,_⟩=>nomatch h
 |x::a,h,⟨y,hy,e⟩=>by
  have nx:jO tg f c ((x::a).map k)=((JQ tg (k x) c).bind f).bind λv=>(jO tg f c (a.map k)).bind λg=>.ok (v::g):=rfl;rw[nx];rcases h x Zqs with ⟨v,q⟩|q
  .rw[q,LL (λz hz=>h z (Zqm _ hz)) ?_]
   .rfl
   grind
  simp_all
def ph {f:Jz}{fs:List Jz}{most:Int}(o:Cn f/\f.length<=64)(p:∀g∈fs,Cn g/\g.length<=64)(y:0<=most)(m2:most<=60)(E:fs.length<=900):
 yk [.lst ((f::fs).map ji),.int most]=xu (zj most f fs):=by
 have s:∀{rs:Jz},(∀r∈rs,JRow r)->rs.length<=200->Q7 [ji rs,.int most]=xu (jR most (JY rs)):=λ{rs} h l=>Ei (λr e=>(h r e).ne) (λr e=>(h r e).rise) (λr e=>by have:=(h r e).len;lia) () y ();have w1:=s (rs:=f) o.1.rows ();rw[o.1.thin] at w1;have m:qo ((f::fs).map ji) 0=some (ji f):=by
  rw[show((0:Int))=((0:Nat):Int) from rfl,XA ()];rfl
 have A:Qp (ji f::fs.map ji) (some 1) none none=fs.map ji:=by
  rw[IU _ ()];rfl
 by_cases u:(f.length:Int)<=most
 .rw[BO u] at w1;have w1:Q7 [ji f,.int most]=.ok (ji f):=w1;have j:((qY (.one 3) (λsd=>(qj 2 (J5 Q7 (J0 (jg j1 (jb 2) (jb 3)) (J0 (jb 1) jc)))) (jU [2] sd)) (fs.map ji) [~~~(.lst ((f::fs).map ji)),~~~(.int most),some (.own false (ji f)),none]).bind (xG (Kg 2))).bind yw=xu (zj most f fs):=by
   refine Iv (R:=λz=>(z.bind (xG (Kg 2))).bind yw=xu (zj most f fs)) (P:=λi sd=>∃(t:Jz) (q:Option SV),sd=[~~~(.lst ((f::fs).map ji)),~~~(.int most),some (.own false (ji t)),q]/\(∀r∈t,JRow r)/\(t.length:Int)<=most/\zj most t (fs.drop i)=zj most f fs) ⟨f,none,rfl,o.1.rows,u,rfl⟩ ?_ ?_
   .rintro sd ⟨t,q,rfl,T,lt,b⟩;rw[Zql,U9] at b;rw[<- b];show _=xu (jR most t);rw[BO lt];rfl
   .rintro i x sd B ⟨t,q,rfl,T,lt,b⟩;obtain⟨g,n,rfl⟩:=Kt B;have v:=(Jc.mp n).1;obtain⟨G,F⟩:=p g (Ug n);have w:=da (f:=t) (g:=g) ();have tg:∀r∈t++g,JRow r:=λr e=>(Jb.mp e).elim (λz=>T r z) λz=>G.rows r z;have a:=s (rs:=t++g) tg (by rw[Ub];lia);have C:fs.drop i=g::fs.drop (i+1):=by
     rw[Uu v];rw[Zqg v] at n;rw[Zqi n]
    rw[C] at b;have b:(jR most t).bind (λ_=>zj most (xr t g) (fs.drop (i+1)))=zj most f fs:=b;rw[BO lt] at b;have b:zj most (xr t g) (fs.drop (i+1))=zj most f fs:=b;by_cases c:((xr t g).length:Int)<=most
    .have a:Q7 [ji (t++g),.int most]=.ok (ji (xr t g)):=by
      rw[a];show xu (jR most (xr t g))=_;rw[BO c];rfl
     exact .inl ⟨[~~~(.lst ((f::fs).map ji)),~~~(.int most),some (.own false (ji (xr t g))),~~~(ji g)],by simp[w,a],xr t g,_,rfl,λr e=>tg r (xE.mp e).1,c,b⟩
    .have no:jR most (xr t g)=none:=Ze c;have a:Q7 [ji (t++g),.int most]=.ex "TooMany" []:=by
      rw[a];show xu (jR most (xr t g))=_;rw[no];rfl
     refine .inr ⟨"TooMany",[],by simp[w,a],?_⟩;rw[<- b,LG no];rfl
  simp[yk,wo] at m j ⊢;simp[m,w1,A,j]
 .rw[LH ()] at w1;have w1:Q7 [ji f,.int most]=.ex "TooMany" []:=w1;rw[LG (LH ())];show _=Res.ex "TooMany" [];simp[yk,wo] at m ⊢;simp[m,w1]
def dV {a b:Jz}(A:Cn a)(B:Cn b)(hs:Yh):Cn (xr a b)/\J7 (xr a b) hs<=J7 a hs/\J7 (xr a b) hs<=J7 b hs/\(J7 (xr a b) hs=J7 a hs\/J7 (xr a b) hs=J7 b hs):=by
 have c:=λr e=>(Jb.mp e).elim (A.rows r) (B.rows r);have ne:a++b ≠ []:=λz=>A.ne (Jx.mp z).1;refine⟨dg c ne,?_⟩;unfold xr;rw[cY ne λr e=>⟨(c r e).ne,(c r e).once,(c r e).rise⟩];exact cH A.ne B.ne
theorem LM (hs:Yh):∀(a:List Jz) (t:Jz),Cn t->(∀g∈a,Cn g)->Cn (a.foldl xr t)/\(J7 (a.foldl xr t) hs=J7 t hs\/∃g∈a,J7 (a.foldl xr t) hs=J7 g hs)/\J7 (a.foldl xr t) hs<=J7 t hs/\∀g∈a,J7 (a.foldl xr t) hs<=J7 g hs
 | [],t,T,_=>⟨T,.inl rfl,UM _,λ_ h=>nomatch h⟩
 |g::a,t,T,G=>by
  obtain⟨b,e,f,i⟩:=dV T (G g Zqs) hs;obtain⟨c,j,l,m⟩:=LM hs a (xr t g) b ()
  grind
theorem LN {P:Jy->Prop}:∀(a:List Jz) (t:Jz),(∀r∈t,P r)->(∀g∈a,∀r∈g,P r)->∀r∈a.foldl xr t,P r
 | [],_,h,_=>h
 |g::a,t,h,k=>LN a (xr t g) (λr b=>(Jb.mp (xE.mp b).1).elim (h r) ()) ()
theorem LO {most:Int}:∀(a:List Jz) (t t':Jz),x6 most t a=some t'->t'=a.foldl K5 t
 | [],_,_,h=>(Zqi h).symm
 |g::a,t,t',h=>by
  rw[L8] at h;cases q:jR most (K5 t g) with
  |none=>simp_all
  |some b =>
   rw[q] at h;rw[Vh,<- ((Xd q).1)];exact LO a b t' h
def dh {most:Int}{f:Jz}{fs:List Jz}{t:Jz}(h:xj most f fs=some t):t=fs.foldl K5 (JY f):=by
 unfold xj at h;cases q:jR most (JY f) with
 |none=>simp_all
 |some a =>
  rw[q] at h;rw[<- (Xd q).1];exact LO fs a t h
theorem LQ {most:Int}:∀(a:List Jz) (t t':Jz),zj most t a=some t'->t'=a.foldl xr t/\(t'.length:Int)<=most
 | [],t,t',h=>by
  obtain⟨e,l⟩:=Xd (h)
  simp_all
 |g::a,t,t',h=>by
  have h:(jR most t).bind (λ_=>zj most (xr t g) a)=some t':=h;cases q:jR most t with
  |none=>simp_all
  |some b =>
   rw[q] at h;exact LQ a (xr t g) t' h
def c9 {a b:Jy}(g:JRow a)(h:JRow b):∀p∈Q1 a b,p∈a\/p∈b:=λp hp=>by
 have c:=(XG g h).once.look hp;rw[BI g.once h.once] at c;cases f:J8 a p.1 with
 |some w =>
  cases e:J8 b p.1 with
  |some v =>
   rw[f,e] at c;have i:=Qj f;have m2:=Qj e;have c:some (if w > v then w else v)=some p.2:=c
   grind
  |none =>
   rw[f,e] at c;have i:=Qj f;rw[Zqi c] at i
   simp_all
 |none =>
  cases e:J8 b p.1 with
  |some v =>
   rw[f,e] at c;have m2:=Qj e;rw[Zqi c] at m2
   simp_all
  |none=>rw[f,e] at c;cases c
theorem LR {Q:Int×Int->Prop}:∀(c:List Jz) t,(∀r∈t,JRow r/\∀p∈r,Q p)->(∀g∈c,∀r∈g,JRow r/\∀p∈r,Q p)->∀r∈c.foldl K5 t,∀p∈r,Q p
 | [],t,ht,_=>λr e=>(ht r e).2
 |g::c,t,ht,hg=>LR c (K5 t g) (λr e=>by
  obtain⟨a,i,b,j,rfl⟩:=wD.mp (xE.mp e).1;obtain⟨f,l⟩:=ht a i;obtain⟨h,m⟩:=hg g Zqs b j;exact⟨XG f h,λp hp=>(c9 f h p hp).elim (l p) (m p)⟩) λx n=>hg x (Zqm _ n)
structure Tf (n:Nat)(W:Int)(t:Jz):Prop where
 cn:Cn t
 len:t.length<=12
 th:∀r∈t,∀p∈r,p.1<(n:Int) /\ -W<=p.2/\p.2<=W
def Tf.row {n:Nat}{W:Int}{t:Jz}(T:Tf n W t):∀r∈t,JRow r/\∀p∈r,p.1<(n:Int) /\ -W<=p.2/\p.2<=W:=λr a=>⟨T.cn.rows r a,T.th r a⟩
def Tf.mono {n:Nat}{W V:Int}{t:Jz}(T:Tf n W t)(h:W<=V):Tf n V t:=⟨T.cn,T.len,λr a p hp=>by have:=T.th r a p hp;lia⟩
def Tf.wait {n:Nat}{W V:Int}{t:Jz}(T:Tf n W t){w:Int}(f: -V<=w/\w<=V):Tf n (W+V) (JO t w):=by
 refine⟨fR T.cn w,?_,λr b p hp=>?_⟩
 .unfold JO;rw[Zql];exact T.len
 .obtain⟨c,a,rfl⟩:=Ja.mp b;obtain⟨e,hp',rfl⟩:=Ja.mp hp;have:=T.th c a e hp';lia
def Tf.comes {n:Nat}{W:Int}{t:Jz}(T:Tf n W t)(w)(hs):J7 (JO t w) hs=J7 t hs+w:=pi T.cn.ne (λr a=>(T.cn.rows r a).ne) w hs
def Qt:Res D:=.ex "TooMany" []
def Eo {n:Nat}{W:Int}{fs:List Jz}(ne:fs ≠ [])(h:∀g∈fs,Tf n W g)(l:fs.length<=100):qB [.lst (fs.map ji),.int 8]=Qt\/∃t,qB [.lst (fs.map ji),.int 8]=.ok (ji t)/\Tf n W t/\∀hs,J7 t hs=qH (fs.map λg=>J7 g hs):=by
 cases fs with
 |nil=>simp_all
 |cons f fs =>
  have c:=h f Zqs;have b:=λg a=>h g (Zqm _ a);have l:fs.length+1<=100:=l;have w:=c.len;have A:=El (most:=8) ⟨c.cn.ne,c.cn.rows⟩ (λg a=>⟨(b g a).cn.ne,(b g a).cn.rows⟩) () () () () λi t g _ lt a=>by
   have G:=b g (Ug a);have s:=G.len;have e:=LA (f:=t) G.cn.ne;have lt:t.length<=12:=()
   have m:=Ve lt s;lia
  rw[A];cases q:xj 8 f fs with
  |none=>exact .inl rfl
  |some t =>
   refine .inr ⟨t,rfl,?_⟩;have ⟨A,lt,p⟩:=ZG ⟨c.cn.ne,c.cn.rows⟩ (λg a=>⟨(b g a).cn.ne,(b g a).cn.rows⟩) q;have e:=dh q;rw[c.cn.thin] at e;refine⟨⟨⟨p,A.row,WK ya (W1 _) A.strict λr=>⟨λh=>(xE.mp h).1,λh=>xE.mpr ⟨h,wA.mpr λo u v=>A.anti o u r h v⟩⟩⟩,(),?_⟩,λhs=>cG (n:=0) A p () λg a=>⟨(h g a).cn.ne,λr j=>⟨((h g a).cn.rows r j).ne,((h g a).cn.rows r j).once,((h g a).cn.rows r j).bnd⟩⟩⟩;rw[e];exact LR fs f c.row λg a=>(b g a).row
def LS {n:Nat}{W:Int}{fs:List Jz}(ne:fs ≠ [])(h:∀g∈fs,Tf n W g)(l:fs.length<=100):yk [.lst (fs.map ji),.int 8]=Qt\/∃t,yk [.lst (fs.map ji),.int 8]=.ok (ji t)/\Tf n W t/\∀hs,J7 t hs=xh (fs.map λg=>J7 g hs):=by
 cases fs with
 |nil=>simp_all
 |cons f fs =>
  have c:=h f Zqs;have b:=λg a=>h g (Zqm _ a);have l:fs.length+1<=100:=l;have o:=c.len;rw[ph ⟨c.cn,()⟩ (λg a=>⟨(b g a).cn,by have:=(b g a).len;lia⟩) () () ()];cases q:zj 8 f fs with
  |none=>exact .inl rfl
  |some t =>
   refine .inr ⟨t,rfl,?_⟩;have ⟨e,lt⟩:=LQ fs f t q;have C:=λhs=>LM hs fs f c.cn λg a=>(b g a).cn;rw[<- e] at C;refine⟨⟨(C []).1,(),?_⟩,λhs=>?_⟩
   .rw[e];exact LN fs f c.th λg a=>(b g a).th
   .have ⟨_,i,p,j⟩:=C hs;refine C5 ?_ λy m=>?_
    .rcases i with z|⟨g,a,z⟩
     .exact Ja.mpr ⟨f,Zqs,z.symm⟩
     .exact Ja.mpr ⟨g,Zqm _ a,z.symm⟩
    .obtain⟨g,a,rfl⟩:=Ja.mp m;rcases Us.mp a with z|z
     .rwa [z]
     .exact j g z
def cc {fs:List Jz}{t:Int}(a:0<=t)(b:t<(fs.length:Int))(hs:Yh):jB (fs.map λg=>J7 g hs) t=J7 (qA fs t) hs:=by
 simp_all [jB,qA]
def LU {n:Nat}{W V:Int}{T:List Jz}(c:∀g∈T,Tf n W g){its:Jy}(e:∀p∈its,0<=p.1/\p.1<(T.length:Int))(f:∀p∈its,-V<=p.2/\p.2<=V):(∀g∈its.map λp=>JO (qA T p.1) p.2,Tf n (W+V) g)/\∀hs,(its.map λp=>JO (qA T p.1) p.2).map (λg=>J7 g hs)=xt (T.map λg=>J7 g hs) its:=by
 refine⟨λg h=>?_,λhs=>?_⟩
 .obtain⟨p,hp,rfl⟩:=Ja.mp h;obtain⟨a,b⟩:=e p hp;exact(c _ (BQ a b)).wait (f p hp)
 .rw[Zw];refine UT λp hp=>?_;obtain⟨a,b⟩:=e p hp;show J7 (JO (qA T p.1) p.2) hs=_;rw[(c _ (BQ a b)).comes,cc a b]
def pf {n:Nat}{W V:Int}{fs:List Jz}{r:Jy}(a:JRow r)(b:∀p∈r,p.1<(fs.length:Int) /\ -V<=p.2/\p.2<=V)(h:∀g∈fs,Tf n W g):Kl [j0 r,.lst (fs.map ji),.int 8]=Qt\/∃t,Kl [j0 r,.lst (fs.map ji),.int 8]=.ok (ji t)/\Tf n (W+V) t/\∀hs,J7 t hs=Q0 r (fs.map λg=>J7 g hs):=by
 have j:=λp hp=>(b p hp).2;have b:∀p∈r,0<=p.1/\p.1<(fs.length:Int):=λp hp=>⟨(a.bnd p hp).1,(b p hp).1⟩;have q:=a.len;obtain⟨l,m⟩:=LU h b j;have o:∀f∈fs,f.length<=1000/\∀r∈f,r.length<=1000:=λf i=>⟨by have:=(h f i).len;lia,λr a=>by have:=((h f i).cn.rows r a).len;lia⟩;have c:=pc b o;have e:Kl [j0 r,.lst (fs.map ji),.int 8]=qB [.lst ((r.map λp=>JO (qA fs p.1) p.2).map ji),.int 8]:=by
  generalize (r.map λp=>JO (qA fs p.1) p.2).map ji=ds at c;simp[Kl,BP,c,(JU (show r.length<=1000 from ()))];cases qB [D.lst ds,D.int 8]<;>rfl
 rw[e];rcases Eo (λz=>a.ne (Je.mp z)) l () with z|⟨t,z1,z2,z3⟩
 .exact .inl z
 .refine .inr ⟨t,z1,z2,λhs=>?_⟩;rw[z3,m];rfl
def LV {n m:Nat}{W V:Int}{a:Jz}{fs:List Jz}(F:Tf m V a)(j:fs.length=m)(h:∀g∈fs,Tf n W g):xQ [ji a,.lst (fs.map ji),.int 8]=Qt\/∃t,xQ [ji a,.lst (fs.map ji),.int 8]=.ok (ji t)/\Tf n (W+V) t/\∀hs,J7 t hs=J7 a (fs.map λg=>J7 g hs):=by
 have R:∀r∈a,_:=λr b=>pf (n:=n) (fs:=fs) (V:=V) (F.cn.rows r b) (by rw[j];exact F.th r b) h;have s:=F.len;have i:∀r,(JQ (.one 0) (j0 r) [none,~~~(.lst (fs.map ji)),~~~(.int 8)]).bind (J5 Kl (J0 (jb 0) (J0 (jb 1) (J0 (jb 2) jc))))=Kl [j0 r,.lst (fs.map ji),.int 8]:=λr=>by
  simp
 by_cases c:∃r∈a,Kl [j0 r,.lst (fs.map ji),.int 8]=Qt
 .left;have e:jO (.one 0) (J5 Kl (J0 (jb 0) (J0 (jb 1) (J0 (jb 2) jc)))) [none,~~~(.lst (fs.map ji)),~~~(.int 8)] (a.map j0)=.ex "TooMany" []:=by
   refine LL (λr b=>?_) ?_
   .rw[i];rcases R r b with z|⟨t,z,_⟩
    .exact .inr z
    .exact .inl ⟨_,z⟩
   .obtain⟨r,b,z⟩:=c;exact⟨r,b,by rw[i];exact z⟩
  simp[xQ,z8,e,(JU (show a.length<=1000 from ())),Qt]
 .have l:∀r,∃t,r∈a->Kl [j0 r,.lst (fs.map ji),.int 8]=.ok (ji t)/\Tf n (W+V) t/\∀hs,J7 t hs=Q0 r (fs.map λg=>J7 g hs):=λr=>by
   by_cases b:r∈a
   .rcases R r b with z|⟨t,z⟩
    .exact Zn ⟨r,b,z⟩ c
    .exact⟨t,λ_=>z⟩
   simp_all
  have ⟨G,f⟩:=Classical.axiomOfChoice l;have p:=λd=>nJ (d:=d) () λr b=>(f r b).1;have o:∀g∈a.map G,Tf n (W+V) g:=λg q=>by
   obtain⟨r,b,rfl⟩:=Ja.mp q;exact(f r b).2.1
  have e:jO (.one 0) (J5 Kl (J0 (jb 0) (J0 (jb 1) (J0 (jb 2) jc)))) [none,~~~(.lst (fs.map ji)),~~~(.int 8)] (a.map j0)=.ok ((a.map G).map ji):=by
   rw[Zw];exact QJ λr h=>by
    rw[i];exact(f r h).1
  rcases LS (λz=>F.cn.ne (Je.mp z)) o (by rw[Zql];lia) with z|⟨t,z1,z2,z3⟩
  .left;generalize (a.map G).map ji=ds at e z;simp[xQ,z8,e,(JU (show a.length<=1000 from ())),z,Qt]
  .refine .inr ⟨t,p _ z1,z2,λhs=>?_⟩;rw[z3,Zw]
   congr 1
   exact UT λr b=>((f r b).2.2 hs)
def Wf {f:FT}{sd:SD}{hp:HP}{b:Bool}(h:f sd=.ok b):yW f sd hp=.ok (b,hp):=by
 simp_all [yW]
def BR {n ar:Nat}{g:qp}{ds:YG}{a:Addr}{d:D}{x:Res D}{e:D}(h:ds.length=ar)(b:g (Qm n ds) [(a,d)]=x.bind λt=>.ok (t,[(a,e)])):QK n ar g ds [(a,d)]=x.bind λt=>.ok (t,[(a,e)]):=by
 unfold QK;rw[Zd h,b];cases x with
 |ok t=>exact Zd rfl
 |ex c es=>rfl
 |no=>rfl
def LW {n ar:Nat}{g:qp}{ds:YG}{hp:HP}{c:Str}{a:YG}(h:ds.length=ar)(b:g (Qm n ds) hp=.ex c a):QK n ar g ds hp=.ex c a:=by
 simp_all [QK]
def wK (a b c d e):Qm 5 [a,b,c,d,e]=[~~~a,~~~b,~~~c,~~~d,~~~e]:=rfl
def LX {n:Nat}(bk d e:D)(a:Addr):Qs n [bk,.str "all",d,.int 8,.adr a] [(a,e)]=(qB [d,.int 8]).bind λt=>.ok (t,[(a,e)]):=by
 refine BR rfl ?_;rw[wK];unfold We;rw[V9,Wf (b:=true) (by simp[Lk]),jt,Zd rfl];simp
def LY {n:Nat}(bk d e:D)(a:Addr):Qs n [bk,.str "first",d,.int 8,.adr a] [(a,e)]=(yk [d,.int 8]).bind λt=>.ok (t,[(a,e)]):=by
 refine BR rfl ?_;rw[wK];unfold We;rw[V9,Wf (b:=false) (by simp[Ll]),jt,Ze (),V9,Wf (b:=true) (by simp[Lm]),jt,Zd rfl];simp
theorem LZ {q:jC}:∀{ks:List jC},q∉ks->yI q ks=false
 | [],_=>rfl
 |k::ks,h=>by
  show(decide (k=q)||yI q ks)=false;rw[LZ λz=>h (Zqm _ z),Zo λz=>h ()];rfl
theorem Ma {q:jC}{d:D}:∀{ks:List jC} {ds:YG},ks.length=ds.length->q∉ks->jI (ks++[q]) (ds++[d]) q=some d
 | [],[],_,_=>Zd rfl
 | [],_::_,h,_=>by cases h
 |_::_,[],h,_=>by cases h
 |k::ks,e::ds,h,hq=>by
  show(if k=q then some e else jI (ks++[q]) (ds++[d]) q)=_;rw[Ze λz=>hq ()];exact Ma (UL h) ()
def dR {b c:FE}{sd:SD}{a:Addr}{how:Str}{ks:List jC}{ds:YG}{z:D}(e:b sd=.ok (.adr a))(f:c sd=.ok (.str how))(hz:jI ks ds (.inr how)=some z):zI b c sd [(a,.dct ks ds)]=.ok (z,[(a,.dct ks ds)]):=by
 simp_all [zI,DY]
def Mb {bk d:D}{how:Str}{a:Addr}{ks:List jC}{ds:YG}{z:D}(hz:jI ks ds (.inr how)=some z):Bn xQ (Wy (zI (jb 4) (jb 1)) (Wy (yt (jb 2)) (Wy (yt (jb 3)) Bl))) [~~~bk,~~~(.str how),~~~d,~~~(.int 8),~~~(.adr a)] [(a,.dct ks ds)]=(xQ [z,d,.int 8]).bind λt=>.ok (t,[(a,.dct ks ds)]):=by
 unfold Bn;rw[c7,dR rfl rfl hz,jt];simp
def Ep {bk d:D}{how:Str}{a:Addr}{ks:List jC}{ds:YG}:wJ [4] (JG (jg (wS true) (jb 1) (jb 4))) [~~~bk,~~~(.str how),~~~d,~~~(.int 8),~~~(.adr a)] [(a,.dct ks ds)]=.ok (!(jI ks ds (.inr how)).isSome):=by
 have e:derI [(a,.dct ks ds)] [4] [~~~bk,~~~(.str how),~~~d,~~~(.int 8),~~~(.adr a)]=[~~~bk,~~~(.str how),~~~d,~~~(.int 8),~~~(.dct ks ds)]:=by
  simp_all [der,DY]
 unfold wJ;rw[e];rfl
def kN {n:Nat}{bk d:D}{how:Str}(c:asc how)(e:how ≠ "all")(f:how ≠ "first"){a:Addr}{ks:List jC}{ds:YG}{z:D}(hz:jI ks ds (.inr how)=some z):Qs n [bk,.str how,d,.int 8,.adr a] [(a,.dct ks ds)]=(xQ [z,d,.int 8]).bind λt=>.ok (t,[(a,.dct ks ds)]):=by
 refine BR rfl ?_;rw[wK];unfold We;rw[V9,Wf (b:=false) (by simp[(K4 c Xa),e]),jt,Ze (),V9,Wf (b:=false) (by simp[(K4 c Xb),f]),jt,Ze ()];exact bg (kY (by rw[Ep,hz];rfl) rfl) (Mb hz)
def sT {n:Nat}{bk d:D}{how:Str}(e:asc how)(j:how ≠ "all")(m:how ≠ "first"){a:Addr}{ks ks':List jC}{ds ds':YG}(hz:jI ks ds (.inr how)=none){ys:List Jz}{t:Jz}(h:QL n [bk,.str how,.int 8,.adr a] [(a,.dct ks ds)]=.ok (.lst ((ys++[t]).map ji),[(a,.dct ks' ds')]))(i:ks'.length=ds'.length)(g: .inr how∉ks')(l:ks'.length<=1000):
 Qs n [bk,.str how,d,.int 8,.adr a] [(a,.dct ks ds)]=(xQ [ji t,d,.int 8]).bind λz=>.ok (z,[(a,.dct (ks'++[.inr how]) (ds'++[ji t]))]):=by
 have o:=K4 e Xa;have p:=K4 e Xb;have c:=DZ (f:=ji) ys t;have q:=JU l;have r:=LZ g;refine BR rfl ?_;rw[wK];unfold We;rw[V9,Wf (b:=false) (),jt,Ze (),V9,Wf (b:=false) (),jt,Ze ()];refine bg (sd':=[~~~bk,~~~(.str how),~~~d,~~~(.int 8),~~~(.adr a)]) (kX (by rw[Ep,hz];rfl) ?_) (Mb (Ma (d:=ji t) i g));unfold Bo;have s:zH wR (Kj (QL n) (J0 (jb 0) (J0 (jb 1) (J0 (jb 3) (J0 (jb 4) jc))))) (yt (qV xz (dC (.int 1)))) [~~~bk,~~~(.str how),~~~d,~~~(.int 8),~~~(.adr a)] [(a,.dct ks ds)]=.ok (ji t,[(a,.dct ks' ds')]):=by
  generalize (ys++[t]).map ji=es at h c;have c:wR (.lst es) (.int (-1))=some (ji t):=c
  simp_all
 simp_all [IM,V1,Wr,DY,dA]
def kO {n:Nat}{bk d:D}{how:Str}(e:asc how)(g:how ≠ "all")(h:how ≠ "first"){a:Addr}{ks:List jC}{ds:YG}(hz:jI ks ds (.inr how)=none){c:Str}{f:YG}(i:QL n [bk,.str how,.int 8,.adr a] [(a,.dct ks ds)]=.ex c f):
 Qs n [bk,.str how,d,.int 8,.adr a] [(a,.dct ks ds)]=.ex c f:=by
 refine LW rfl ?_;rw[wK];unfold We;rw[V9,Wf (b:=false) (by simp[(K4 e Xa),g]),jt,Ze (),V9,Wf (b:=false) (by simp[(K4 e Xb),h]),jt,Ze (),Li]
 simp_all [Bo,Ep]
theorem Mc {rc b:Str->List Int->Int}:∀{a:List Rw},(∀r∈a,∀f,xF rc f r=xF b f r)->∀hs,qb rc a hs=qb b a hs
 | [],_,_=>rfl
 |r::a,h,hs=>by
  show qb rc a (hs++[xF rc hs r])=qb b a (hs++[xF b hs r]);rw[h r Zqs];exact Mc () _
def BkP.fuel {ps:List Pl}(B:BkP ps):∀j n q,ps[j]? = some q->j<n->∀hs,qQ ps n q hs=qQ ps (j+1) q hs:=by
 intro j
 induction j using Nat.strongRecOn with
 |ind j b =>
  intro n q c h hs;obtain⟨a,rfl⟩:∃a,n=a+1:=⟨n-1,()⟩;rw[Ec,Ec];refine Mc (λr e f=>?_) hs;obtain⟨k,g⟩:=Jm.mp e;unfold xF;rcases B.how c g with z|z|⟨_,z1,z2,j2,q2,z3,z4,z5,_⟩
  .simp_all
  .simp_all
  .rw[Ze z1,Ze z2,Ze z1,Ze z2,z5];unfold xH;rw[B.find z4];show(qQ ps a q2 _).getLastD 0=(qQ ps j q2 _).getLastD 0;rw[b j2 z3 a q2 z4 (),b j2 z3 j q2 z4 ()]
def BkP.rc {ps:List Pl}(B:BkP ps){j n:Nat}{q:Pl}(a:ps[j]? = some q)(h:j<n)(ts):xH ps n q.name ts=xH ps (j+1) q.name ts:=by
 unfold xH;rw[B.find a];show(qQ ps n q _).getLastD 0=(qQ ps (j+1) q _).getLastD 0;rw[B.fuel j n q a h]
abbrev Kn:=List (Str×Jz)
def kD (K:Kn):D:=.dct (K.map λx=>.inr x.1) (K.map λx=>ji x.2)
theorem kU (x:Str):∀K:Kn,(jI (K.map λx=>.inr x.1) (K.map λx=>ji x.2) (.inr x)=none/\x∉K.map (·.1))\/∃f,(x,f)∈K/\jI (K.map λx=>.inr x.1) (K.map λx=>ji x.2) (.inr x)=some (ji f)
 | []=>.inl ⟨rfl,λz=>nomatch z⟩
 |y::K=>by
  rw[Zl,Zl,Dd];by_cases c:y.1=x
  .grind
  .rcases kU x K with ⟨a,b⟩|⟨f,a,b⟩
   .grind
   grind
def wB:Nat->Int
 | 0=>1000000000000000000000000000000
 |j+1=>16*wB j
theorem Aa:∀j,1000000000000000000000000000000<=wB j
 | 0=>UM _
 |j+1=>by have:=Aa j;show _<=16*wB j;lia
theorem Md:∀{i j:Nat},i<=j->wB i<=wB j
 |i,0,h=>by simp_all
 |i,j+1,h=>by
  have p:=Aa j;rcases Vc j i with z|z
  .grind
  .have:=Md z;show _<=16*wB j;lia
structure KOk (ps:List Pl)(K:Kn):Prop where
 nd:(K.map (·.1)).Nodup
 ok:∀x∈K,∃j q,ps[j]? = some q/\x.1=q.name/\Tf q.givens.length (wB (j+1)) x.2/\∀hs:Yh,hs.length=q.givens.length->J7 x.2 hs=xH ps (j+1) q.name hs
def we (ps:List Pl)(j:Nat)(K b:Kn):Prop:=∀x∈b.map (·.1),x∈K.map (·.1)\/∃a q,a<j/\ps[a]? = some q/\x=q.name
theorem Me:∀(ps:List Pl) (l:Yk),l.Nodup->(∀x∈l,∃q∈ps,x=q.name)->l.length<=ps.length
 | [],l,_,h=>by
  cases l with
  |nil=>exact Zf _
  |cons x l =>
   have ⟨q,a,_⟩:=h x Zqs;cases a
 |p::ps,l,nd,h=>by
  have b:=Me ps (l.erase p.name) (nd.erase _) λx c=>by
   grind
  grind
theorem KOk.len {ps:List Pl}{K:Kn}(h:KOk ps K)(B:BkP ps):K.length<=4:=by
 have:=Me ps (K.map (·.1)) h.nd λx a=>by
  obtain⟨y,b,rfl⟩:=Ja.mp a;obtain⟨j,q,c,e,_⟩:=h.ok y b;exact⟨q,Ug c,e⟩
 rw[Zql] at this;have:=B.len;lia
def vD (ps:List Pl)(n:Nat)(p:Pl)(j:Nat)(K:Kn):Prop:=(∀a,QL n [JD ps,.str p.name,.int 8,.adr a] [(a,kD K)]=.ex "TooMany" [])\/∃T b,KOk ps b/\we ps j K b/\(∀g∈T,Tf p.givens.length (wB (j+1)) g)/\(∀hs:Yh,hs.length=p.givens.length->(T.map λg=>J7 g hs)=qQ ps (j+1) p hs)/\T ≠ []/\∀a,QL n [JD ps,.str p.name,.int 8,.adr a] [(a,kD K)]=.ok (.lst (T.map ji),[(a,kD b)])
def wN {x:Res D}{f:D->Res (D×HP)}(h:x=Qt):x.bind f=.ex "TooMany" []:=by rw[h];rfl
def ck {ps:List Pl}(B:BkP ps){n j:Nat}{p:Pl}(hp:ps[j]? = some p)(X:∀c q K,c<j->ps[c]? = some q->KOk ps K->vD ps n q c K){k:Nat}{r:Rw}(M:p.rows[k]? = some r){W:Int}{T:List Jz}(Y:∀g∈T,Tf p.givens.length W g)(lT:T.length=p.givens.length+k){K:Kn}(A:KOk ps K):
 (∀a,Qs n [JD ps,.str r.2.1,.lst ((r.2.2.map λp=>JO (qA T p.1) p.2).map ji),.int 8,.adr a] [(a,kD K)]=.ex "TooMany" [])\/∃t i,KOk ps i/\we ps j K i/\Tf p.givens.length (W+2*wB j) t/\(∀hs:Yh,J7 t hs=xF (xH ps j) (T.map λg=>J7 g hs) r)/\∀a,Qs n [JD ps,.str r.2.1,.lst ((r.2.2.map λp=>JO (qA T p.1) p.2).map ji),.int 8,.adr a] [(a,kD K)]=.ok (ji t,[(a,kD i)]):=by
 have R:=(B.ok j p hp).row k r M;have sh:=R.sh;obtain⟨C,E⟩:=LU Y (its:=r.2.2) (V:=1000000000000000000000000000000) (λy Z=>by have:=R.rng y Z;lia) R.wt;have pj:=Aa j;have ne:(r.2.2.map λp=>JO (qA T p.1) p.2) ≠ []:=λz=>R.ne (Je.mp z);have N:(r.2.2.map λp=>JO (qA T p.1) p.2).length=r.2.2.length:=Zql _;have same:we ps j K K:=λx v=>.inl v;unfold xF;generalize (r.2.2.map λp=>JO (qA T p.1) p.2)=fs at C E ne N;rcases B.how hp M with z|z|⟨z0,z1,z2,c,q,z3,z4,z5,z6⟩
 .rw[z];simp only[if_true];rcases Eo ne C () with y|⟨t,m,o,s⟩
  .exact .inl λa=>by rw[LX];exact wN y
  .refine .inr ⟨t,K,A,same,o.mono (),λhs=>?_,λa=>?_⟩
   .rw[s,E]
   .rw[LX,m];rfl
 .rw[z];have d:¬("first" : Str) = "all" := by decide +kernel
  simp only[if_true,Ze d];rcases LS ne C () with y|⟨t,m,o,s⟩
  .exact .inl λa=>by rw[LY];exact wN y
  .refine .inr ⟨t,K,A,same,o.mono (),λhs=>?_,λa=>?_⟩
   .rw[s,E]
   .rw[LY,m];rfl
 .simp only[Ze z1,Ze z2];have rc:∀H,xH ps j r.2.1 H=xH ps (c+1) q.name H:=λH=>by rw[z5];exact B.rc z4 z3 H
  have J:fs.length=q.givens.length:=N.trans z6;have wj:=Md (show c+1<=j from ());have O:∀hs,(fs.map λg=>J7 g hs).length=q.givens.length:=λhs=>(Zql _).trans J;rcases kU r.2.1 K with ⟨I,L⟩|⟨f,I,L⟩
  .rcases X c q K z3 z4 A with y|⟨U,i,k1,k2,k3,k4,k5,k6⟩
   .exact .inl λa=>kO z0 z1 z2 I (by have:=y a;rw[<- z5] at this;exact this)
   .obtain⟨ys,t,rfl⟩:=Ea k5;have P:Tf q.givens.length (wB (c+1)) t:=k3 t (Ut _ Zqs);have ct:∀hs:Yh,hs.length=q.givens.length->J7 t hs=xH ps (c+1) q.name hs:=λhs h=>by
     have e:=k4 hs h;obtain⟨zs,ez⟩:=B.part (n:=c) z4 hs;rw[ez,Uc] at e;have e:=Zt (λl=>l.getLastD 0) e;have e:((ys.map λg=>J7 g hs)++[J7 t hs]).getLastD 0=(zs++[xH ps (c+1) q.name hs]).getLastD 0:=e;rw[List.getLastD_concat,List.getLastD_concat] at e;exact e
    have Q:r.2.1∉i.map (·.1):=λy=>by
     rcases k2 _ y with y|⟨F,w,m,o,s⟩
     .exact L y
     .have e:q.name=w.name:=z5.symm.trans s;have:=B.inj c F q w z4 o e;lia
    have nk:(UN r.2.1:jC)∉i.map λx=>UN x.1:=λy=>by
     obtain⟨x,v,e⟩:=Ja.mp y;injection e with e
     exact Q (Ja.mpr ⟨x,v,e⟩)
    have l4:=k1.len B;have G:=λa=>sT (n:=n) (bk:=JD ps) (d:=.lst (fs.map ji)) z0 z1 z2 (a:=a) I (ys:=ys) (t:=t) (ks':=i.map λx=>.inr x.1) (ds':=i.map λx=>ji x.2) (by have:=k6 a;rw[<- z5] at this;exact this) (by rw[Zql,Zql]) nk (by rw[Zql];lia);have kd:∀a:Addr,[(a,D.dct ((i.map λx=>UN x.1)++[.inr r.2.1]) ((i.map λx=>ji x.2)++[ji t]))]=[(a,kD (i++[(r.2.1,t)]))]:=λa=>by
     unfold kD;rw[Uc,Uc];rfl
    have ko:KOk ps (i++[(r.2.1,t)]):=⟨by
     rw[Uc];refine List.nodup_append.mpr ⟨k1.nd,VV _ _,λa S b hb e=>?_⟩;rw[e,Jd.mp hb] at S;exact Q S,λx v=>by
     rcases Jb.mp v with y|y
     .exact k1.ok x y
     .rw[Jd.mp y];exact⟨c,q,z4,z5,P,ct⟩⟩
    have nw:we ps j K (i++[(r.2.1,t)]):=λx v=>by
     rw[Uc] at v;rcases Jb.mp v with y|y
     .rcases k2 x y with y|⟨F,w,m,o,s⟩
      .exact .inl y
      .exact .inr ⟨F,w,(),o,s⟩
     .exact .inr ⟨c,q,z3,z4,(Jd.mp y).trans z5⟩
    rcases LV P J C with y|⟨u,m,o,s⟩
    .exact .inl λa=>by
      show Qs n _ [(a,D.dct _ _)]=_;rw[G a];exact wN y
    .refine .inr ⟨u,_,ko,nw,o.mono (),λhs=>?_,λa=>?_⟩
     .rw[s,ct _ (O hs),rc,E]
     .show Qs n _ [(a,D.dct _ _)]=_;rw[G a,m,kd];rfl
  .obtain⟨F,w,m,o,s,y4⟩:=A.ok _ I;have e:q.name=w.name:=z5.symm.trans o;have e:=B.inj c F q w z4 m e;subst e;rw[z4] at m;cases m;have G:=λa=>kN (n:=n) (bk:=JD ps) (d:=.lst (fs.map ji)) z0 z1 z2 (a:=a) L;rcases LV s J C with y|⟨u,x1,x2,x3⟩
   .exact .inl λa=>by
     show Qs n _ [(a,D.dct _ _)]=_;rw[G a];exact wN y
   .refine .inr ⟨u,K,A,same,x2.mono (),λhs=>?_,λa=>?_⟩
    .rw[x3,y4 _ (O hs),rc,E]
    .show Qs n _ [(a,D.dct _ _)]=_;rw[G a,x1];rfl
def cL {T:List Jz}{its:Jy}(h:∀p∈its,0<=p.1/\p.1<(T.length:Int))(hs:∀g∈T,g.length<=1000/\∀r∈g,r.length<=1000):jO (.tup [0,1]) (Qa xo (J0 (V2 2 (jb 0)) (J0 (jb 1) jc))) [none,none,some (.own false (.lst (T.map ji)))] (its.map q9)=.ok ((its.map λp=>JO (qA T p.1) p.2).map ji):=by
 rw[Zw];exact QJ λp hp=>by
  obtain⟨b,c⟩:=h p hp;have a:=LJ b c;obtain⟨e,f⟩:=hs _ (BQ b c);have i:=wU (w:=p.2) e f
  simp_all
def XH (n:Nat):qL:=(Bj (vn (j4 9 (ZH [none,none,some 5] 2 (iS (jb 8)) (.tup [0,1]) (Qa xo (J0 (V2 2 (jb 0)) (J0 (jb 1) jc)))))) (V6 5 (Kj (Qs n) (J0 (jb 0) (J0 (jb 7) (J0 (jb 9) (J0 (jb 2) (J0 (jb 3) jc))))))))
def yG (bk nm pl:D)(a:Addr)(T:YG)(u6 u7 u8 u9:Option SV):SD:=[~~~bk,~~~nm,~~~(.int 8),~~~(.adr a),~~~pl,some (.own false (.lst T)),u6,u7,u8,u9]
def dN {n:Nat}{bk nm pl:D}{a:Addr}{T:List Jz}{u6 u7 u8 u9:Option SV}{hp:HP}{r:Rw}(f:∀p∈r.2.2,0<=p.1/\p.1<(T.length:Int))(hs:∀g∈T,g.length<=1000/\∀r∈g,r.length<=1000)(l:r.2.2.length<=1000):
 KF (.tup [6,7,8]) (XH n) (jN r) (yG bk nm pl a (T.map ji) u6 u7 u8 u9) hp=V6 5 (Kj (Qs n) (J0 (jb 0) (J0 (jb 7) (J0 (jb 9) (J0 (jb 2) (J0 (jb 3) jc)))))) (yG bk nm pl a (T.map ji) (~~~(.str r.1)) (~~~(.str r.2.1)) (~~~(j0 r.2.2)) (~~~(.lst ((r.2.2.map λp=>JO (qA T p.1) p.2).map ji)))) hp:=by
 have h:=cL f hs;have i:=JU l;have j:∀a b c d e u6 u7 u8 u9,capO [none,none,some 5] 2 [a,b,c,d,e,some (.own false (.lst (T.map ji))),u6,u7,u8,u9]=[none,none,some (.own false (.lst (T.map ji)))]:=λ_ _ _ _ _ _ _ _ _=>rfl
 simp_all [yG,XH]
def ti {n:Nat}{bk nm pl d:D}{a:Addr}{T:YG}{u6:Option SV}{b:Option SV}{how fs:D}{hp hp':HP}(h:Qs n [bk,how,fs,.int 8,.adr a] hp=.ok (d,hp'))(l:T.length<=1000):
 V6 5 (Kj (Qs n) (J0 (jb 0) (J0 (jb 7) (J0 (jb 9) (J0 (jb 2) (J0 (jb 3) jc)))))) (yG bk nm pl a T u6 (~~~how) b (~~~fs)) hp=.ok (.next (yG bk nm pl a (T++[d]) u6 (~~~how) b (~~~fs)) hp'):=by
 have z:=JU l
 simp_all [yG,V6]
def tL {n:Nat}{bk nm pl:D}{a:Addr}{T:YG}{u6:Option SV}{e:Option SV}{how fs:D}{hp:HP}{c:Str}{b:YG}(h:Qs n [bk,how,fs,.int 8,.adr a] hp=.ex c b):
 V6 5 (Kj (Qs n) (J0 (jb 0) (J0 (jb 7) (J0 (jb 9) (J0 (jb 2) (J0 (jb 3) jc)))))) (yG bk nm pl a T u6 (~~~how) e (~~~fs)) hp=.ex c b:=by
 simp_all [yG,V6]
def sO {b:D->qL}{x:D}{e:YG}{sd:SD}{hp:HP}{c:Str}{a:YG}(h:b x sd hp=.ex c a):qZ b (x::e) sd hp=.ex c a:=by
 simp_all [qZ]
def Er {b:D->qL}{x:D}{a:YG}{sd sd':SD}{hp hp':HP}(h:b x sd hp=.ok (.next sd' hp')):qZ b (x::a) sd hp=qZ b a sd' hp':=by
 rw[qZ,h];rfl
theorem Mf {ps:List Pl}(B:BkP ps){n j:Nat}{p:Pl}(hp:ps[j]? = some p)(G:∀u q K,u<j->ps[u]? = some q->KOk ps K->vD ps n q u K):∀(b:List Rw) i,p.rows.drop i=b->i<=p.rows.length->∀(T:List Jz) (K:Kn),(∀g∈T,Tf p.givens.length ((i:Int)*(2*wB j)) g)->T.length=p.givens.length+i->(∀hs:Yh,hs.length=p.givens.length->(T.map λg=>J7 g hs)=qb (xH ps j) (p.rows.take i) hs)->KOk ps K ->
 (∀nm pl a u6 u7 u8 u9,qZ (KF (.tup [6,7,8]) (XH n)) (b.map jN) (yG (JD ps) nm pl a (T.map ji) u6 u7 u8 u9) [(a,kD K)]=.ex "TooMany" [])\/∃(f:List Jz) (l:Kn),KOk ps l/\we ps j K l/\(∀g∈f,Tf p.givens.length ((p.rows.length:Int)*(2*wB j)) g)/\f.length=p.givens.length+p.rows.length/\(∀hs:Yh,hs.length=p.givens.length->(f.map λg=>J7 g hs)=qb (xH ps j) p.rows hs)/\∀nm pl a u6 u7 u8 u9,∃v A C E,qZ (KF (.tup [6,7,8]) (XH n)) (b.map jN) (yG (JD ps) nm pl a (T.map ji) u6 u7 u8 u9) [(a,kD K)]=.ok (.next (yG (JD ps) nm pl a (f.map ji) v A C E) [(a,kD l)])
 | [],i,hd,hi,T,K,hT,lT,cT,hK=>by
  have e:i=p.rows.length:=by
   have:=List.drop_eq_nil_iff.mp hd;lia
  subst e;rw[VO] at cT;exact .inr ⟨T,K,hK,λx m=>.inl m,hT,lT,cT,λnm pl a u6 u7 u8 u9=>⟨u6,u7,u8,u9,rfl⟩⟩
 |r::b,i,hd,hi,T,K,hT,lT,cT,hK=>by
  have c:i<p.rows.length:=by
   rcases Vc i p.rows.length with z|z
   .exact z
   .rw[List.drop_eq_nil_iff.mpr z] at hd;cases hd
  rw[Uu c] at hd;injection hd with h1 h2
  have F:p.rows[i]? = some r:=by rw[Zqg c,h1]
  have P:=B.ok j p hp;have R:=P.row i r F;have J:=P.g2;have L:=P.r2;have M:=R.sh;have rs:=λ(nm pl:D) (a:Addr) u6 u7 u8 u9=>dN (n:=n) (bk:=JD ps) (nm:=nm) (pl:=pl) (a:=a) (T:=T) (u6:=u6) (u7:=u7) (u8:=u8) (u9:=u9) (hp:=[(a,kD K)]) (r:=r) (λy H=>by have:=R.rng y H;lia) (λg s=>⟨by have:=(hT g s).len;lia,λx m=>by have:=((hT g s).cn.rows x m).len;lia⟩) ();rcases ck B hp G F hT lT hK with z|⟨t,K1,k1,k2,k3,k4,k5⟩
  .exact .inl λnm pl a u6 u7 u8 u9=>sO (by rw[rs];exact tL (z a))
  .have st:∀(nm pl:D) a u6 u7 u8 u9,KF (.tup [6,7,8]) (XH n) (jN r) (yG (JD ps) nm pl a (T.map ji) u6 u7 u8 u9) [(a,kD K)]=.ok (.next (yG (JD ps) nm pl a ((T++[t]).map ji) (~~~(.str r.1)) (~~~(.str r.2.1)) (~~~(j0 r.2.2)) (~~~(.lst ((r.2.2.map λp=>JO (qA T p.1) p.2).map ji)))) [(a,kD K1)]):=λnm pl a u6 u7 u8 u9=>by
    rw[rs,ti (k5 a) (by rw[Zql];lia),Uc];rfl
   have N:=Aa j;have o:((i+1:Nat):Int)*(2*wB j)=(i:Int)*(2*wB j)+2*wB j:=by rw[Int.natCast_add,Int.add_mul];lia
   have I:=Mf B hp G b (i+1) h2 c (T++[t]) K1 (λg s=>by
    rcases Jb.mp s with y|y
    .exact(hT g y).mono (by rw[o];lia)
    .rw[Jd.mp y];exact k3.mono (by rw[o];lia)) (by rw[Ub,Uj];lia) (λhs h=>by
    rw[Uc,cT hs h,Ln F,<- cT hs h];show _++[J7 t hs]=_;rw[k4]) k1
   rcases I with y|⟨f,l,y1,y2,y3,y4,y5,y6⟩
   .exact .inl λnm pl a u6 u7 u8 u9=>(Er (st nm pl a u6 u7 u8 u9)).trans (y nm pl a _ _ _ _)
   .refine .inr ⟨f,l,y1,λx m=>?_,y3,y4,y5,λnm pl a u6 u7 u8 u9=>?_⟩
    .rcases y2 x m with w|w
     .exact k2 x w
     .exact .inr w
    .obtain⟨v,A,C,E,e⟩:=y6 nm pl a _ _ _ _;exact⟨v,A,C,E,(Er (st nm pl a u6 u7 u8 u9)).trans e⟩
theorem t8 {g t:Nat}(h:t<g)(a:g<=12):Tf g 0 [[((t:Int),0)]]:=by
 have b:JRow [((t:Int),(0:Int))]:=⟨List.cons_ne_nil _ _,VV _ _,()⟩;refine⟨⟨List.cons_ne_nil _ _,(),WK ya (W1 _) () λr=>⟨λh=>(xE.mp h).1,λh=>xE.mpr ⟨h,wA.mpr ()⟩⟩⟩,(),λr c p hp=>?_⟩
 simp_all
def yJ (g:Nat):List Jz:=(List.range g).map λt:Nat=>[[((t:Int),(0:Int))]]
def cP {g:Nat}{hs:Yh}(h:hs.length=g):((yJ g).map λf=>J7 f hs)=hs:=by
 unfold yJ;apply List.ext_getElem?;intro i;rcases Vc i g with z|z
 .have e:J7 [[((i:Int),(0:Int))]] hs=jB hs (i:Int)+0:=rfl
  simp_all [jB]
 simp_all
theorem Mg {ps:List Pl}(B:BkP ps):∀(n j:Nat) (p:Pl) (K:Kn),ps[j]? = some p->j<n->KOk ps K->vD ps n p j K
 | 0,_,_,_,_,h,_=>Zn h (UQ _)
 |n+1,j,p,K,hp,hj,hK=>by
  have P:=B.ok j p hp;have s:=P.g1;have u:=P.g2;have f:=Lq (B.at hp).2.2.1 B.ascs (B.find hp);have v:V3 [.int (p.givens.length:Nat)]=.ok (Qd 0 p.givens.length):=by rw[WW () ()];rfl
  have w:jO (.one 0) (Qa vg (J0 (jb 0) jc)) [none] (Qd 0 p.givens.length)=.ok ((yJ p.givens.length).map ji):=by
   unfold yJ;rw[Zw];exact GY λi x=>by simp
  have y:qX "Plan" "givens" (Qw p)=some (.lst (p.givens.map .str)):=rfl;have A:qX "Plan" "rows" (Qw p)=some (.lst (p.rows.map jN)):=rfl;have l:(p.givens.map D.str).length=p.givens.length:=Zql _;have C:=JU (show p.givens.length<=1000 from ());have st:∀a,Qm 10 [JD ps,.str p.name,.int 8,.adr a]=[~~~(JD ps),~~~(.str p.name),~~~(.int 8),~~~(.adr a),none,none,none,none,none,none]:=λa=>rfl;have b:∀a (X:Res (D×HP)),(xi (Wx (iS (qV (qX "Plan" "rows") (jb 4))) (.tup [6,7,8]) (XH n)) (wV 5 (yt (jb 5)))) (yG (JD ps) (.str p.name) (Qw p) a ((yJ p.givens.length).map ji) none none none none) [(a,kD K)]=X->ZZ (Qs n) (Qm 10 [JD ps,.str p.name,.int 8,.adr a]) [(a,kD K)]=X:=λa X h=>by
   rw[st];unfold ZZ;refine bg (sd':=[~~~(JD ps),~~~(.str p.name),~~~(.int 8),~~~(.adr a),~~~(Qw p),none,none,none,none,none]) (Lj (by simp[f])) ?_;refine bg (Lj (sd':=yG (JD ps) (.str p.name) (Qw p) a ((yJ p.givens.length).map ji) none none none none) ?_) h
   simp_all [yG,WX]
  have it:∀a T u6 u7 u8 u9,iS (qV (qX "Plan" "rows") (jb 4)) (yG (JD ps) (.str p.name) (Qw p) a T u6 u7 u8 u9)=.ok (p.rows.map jN):=λa T u6 u7 u8 u9=>by
   rfl
  have go:=Mf B hp (n:=n) (λm q K E o r=>Mg B n m q K o () r) p.rows 0 rfl (Ua _) (yJ p.givens.length) K (λg c=>by
   obtain⟨t,F,rfl⟩:=Ja.mp c
   grind[t8]) (by unfold yJ;rw[Zql,ZC];rfl) (λhs h=>by rw[cP h];rfl) hK
  rcases go with z|⟨T,K',k1,k2,k3,k4,k5,k6⟩
  .refine .inl λa=>?_;refine LW rfl (b a _ ?_)
   simp_all
  .refine .inr ⟨T,K',k1,k2,λg c=>(k3 g c).mono ?_,λhs h=>?_,λe=>?_,λa=>?_⟩
   .have G:=Aa j;have H:=P.r2;have:=Int.mul_le_mul_of_nonneg_right (show(p.rows.length:Int)<=8 by lia) (show 0<=2*wB j from ());show _<=16*wB j;lia
   .rw[k5 hs h];rfl
   .grind
   .refine B3 rfl (b a _ ?_);obtain⟨I,J,L,M,e⟩:=k6 (.str p.name) (Qw p) a none none none none;rw[Li,T8,it,jt,e,jt];rfl
def BS:FS:=(j6 (DN (QL 4) (.dct [] []) (J0 (jb 0) (J0 (jb 1) (J0 (jb 2) jc)))))
def BT:YG->Res D:=jE 3 3 BS
def Ab:FS:=(j6 (jg jA (J5 BT (J0 (jb 0) (J0 (jb 1) (J0 (jb 2) jc)))) (qV xz (dC (.int 1)))))
def XI:YG->Res D:=jE 3 3 Ab
def cp {ps:List Pl}(B:BkP ps){j:Nat}{p:Pl}(hp:ps[j]? = some p):XI [JD ps,.str p.name,.int 8]=Qt\/∃t,XI [JD ps,.str p.name,.int 8]=.ok (ji t)/\Tf p.givens.length (wB (j+1)) t/\∀hs:Yh,hs.length=p.givens.length->J7 t hs=xH ps (j+1) p.name hs:=by
 have b:∀x:Res D,(∀a,(QL 4 [JD ps,.str p.name,.int 8,.adr a] [(a,.dct [] [])]).bind (λq=>.ok q.1)=x)->BT [JD ps,.str p.name,.int 8]=x:=λx h=>by
  have c:DN (QL 4) (.dct [] []) (J0 (jb 0) (J0 (jb 1) (J0 (jb 2) jc))) [~~~(JD ps),~~~(.str p.name),~~~(.int 8)]=x:=dF h;simp[BT,BS,c];cases x<;>rfl
 rcases Mg B 4 j p [] hp (B.at hp).2.1 ⟨VB,λx h=>nomatch h⟩ with z|⟨T,K',k1,k2,k3,k4,k5,k6⟩
 .left;have e:=b Qt λa=>by
   have:=z a;show Res.bind (QL 4 [JD ps,.str p.name,.int 8,.adr a] [(a,kD [])]) _=_;rw[this];rfl
  simp_all [XI,Ab,Qt]
 .obtain⟨ys,t,rfl⟩:=Ea k5;refine .inr ⟨t,?_,k3 t (Ut _ Zqs),λhs h=>?_⟩
  .have e:=b (.ok (.lst ((ys++[t]).map ji))) λa=>by
    have:=k6 a;show Res.bind (QL 4 [JD ps,.str p.name,.int 8,.adr a] [(a,kD [])]) _=_;rw[this];rfl
   have l:=DZ (f:=ji) ys t
   simp_all [XI,Ab]
  .have e:=k4 hs h;obtain⟨i,g⟩:=B.part (n:=j) hp hs;rw[g,Uc] at e;have e:=Zt (λl=>l.getLastD 0) e
   grind
def BU:FS:=(j6 (Qk [none] (iS (jb 0)) (.one 0) (qm (J0 (jb 0) jc))))
def Ac:YG->Res D:=jQ 1 1 BU
def xR (r:Jy):Jz:=r.map λp=>[p]
def fj {r:Jy}(h:r.length<=1000):Ac [j0 r]=.ok (ji (xR r)):=by
 have a:jO (.one 0) (qm (J0 (jb 0) jc)) [none] (r.map q9)=.ok (r.map λp=>j0 [p]):=QJ λp _=>by
  rfl
 have e:ji (xR r)=.lst (r.map λp=>j0 [p]):=by unfold ji xR;simp
 rw[e];simp[Ac,BU,a,JU h]
def Ad:FS:=(j6 (j8 KP (J0 (Qa W3 (J0 (J5 qB (J0 (Qk [none] (iS (jb 0)) (.one 0) (Qa Ac (J0 (Qa Xe (J0 (jb 0) jc)) jc))) (J0 (jb 1) jc))) jc)) jc)))
def W6:YG->Res D:=jQ 2 2 Ad
def yB (f:Jz):List Jz:=f.map λr=>xR (jr r)
def Es (most:Int):Jz->Option Jz
 | []=>none
 |r::rs=>xj most (xR (jr r)) (yB rs)
def Et:Option Jz->Res D
 |some t=>.ok (ji (JL j3 (t.map jr)))
 |none=>.ex "TooMany" []
def BV {r:Jy}(h:∀p∈r,0<=p.1/\p.1<12):∀q∈xR (jr r),JRow q:=λq a=>by
 obtain⟨p,hp,rfl⟩:=Ja.mp a;obtain⟨y,b,rfl⟩:=Ja.mp hp;refine⟨(),by unfold qw;simp,λz hz=>?_⟩;rw[Jd.mp hz];exact h y b
def Ae {r:Jy}(h:r ≠ []):xR (jr r) ≠ []:=λz=>h (Je.mp (Je.mp z))
def Mh (r:Jy):(xR (jr r)).length=r.length:=by unfold xR jr;rw[Zql,Zql]
def fm {r:Jy}{rs:Jz}{most:Int}(n:∀q∈r::rs,JRow q)(p:rs.length<=900)(s:0<=most)(m2:most<=63)
 (sz:∀(i:Nat) (t g:Jz),AllOk (xR (jr r)::(yB rs).take i) t->(t.length:Int)<=most->(yB rs)[i]? = some g->(Ky t g).length<1000/\t.length+g.length+t.length*g.length<=1000):
 W6 [ji (r::rs),.int most]=Et (Es most (r::rs)):=by
 have len:∀q∈r::rs,q.length<=12:=λq c=>(n q c).len;have a:jO (.one 0) (Qa Ac (J0 (Qa Xe (J0 (jb 0) jc)) jc)) [none] ((r::rs).map j0)=.ok ((r::rs).map λq=>ji (xR (jr q))):=QJ λq c=>by
  have:=len q c;have u:=LB (r:=q) ();have v:=fj (r:=jr q) (by unfold jr;rw[Zql];lia);simp[u,v]
 have e:(r::rs).map (λq=>ji (xR (jr q)))=(xR (jr r)::yB rs).map ji:=by unfold yB;rw[Zl,Zl,Zw];rfl
 rw[e] at a;have o:=n r Zqs;have j:∀g∈yB rs,g ≠ []/\∀q∈g,JRow q:=λg w=>by
  obtain⟨q,c,rfl⟩:=Ja.mp w;have:=n q (Zqm _ c);exact⟨Ae this.ne,BV this.bnd⟩
 have l:xR (jr r) ≠ []/\∀q∈xR (jr r),JRow q:=⟨Ae o.ne,BV o.bnd⟩;have b:=El (f:=xR (jr r)) (fs:=yB rs) (most:=most) l j (by rw[Mh];have:=o.len;lia) s () (by unfold yB;rw[Zql];exact p) sz;have m:(r::rs).length<sizeLine:=JU (by rw[Zu];lia);show _=Et (xj most (xR (jr r)) (yB rs));cases q:xj most (xR (jr r)) (yB rs) with
 |none =>
  rw[q] at b;have b:qB [.lst ((xR (jr r)::yB rs).map ji),.int most]=.ex "TooMany" []:=b;show _=Res.ex "TooMany" [];generalize (xR (jr r)::yB rs).map ji=as at a b;simp[W6,Ad] at a m ⊢;simp[a,m,b]
 |some t =>
  rw[q] at b;have b:qB [.lst ((xR (jr r)::yB rs).map ji),.int most]=.ok (ji t):=b;obtain⟨A,lt,F⟩:=ZG l j q;have B:=Em (rs:=t) (λx h=>by have:=(A.row x h).len;lia) ();have C:KP [ji (t.map jr)]=some (ji (JL j3 (t.map jr))):=DS (λx h=>by
   obtain⟨y,E,rfl⟩:=Ja.mp h;exact λz=>(A.row y E).ne (Je.mp z)) (by rw[Zql];lia)
  show _=Res.ok (ji (JL j3 (t.map jr)));generalize (xR (jr r)::yB rs).map ji=as at a b;simp[W6,Ad] at a m ⊢;simp[a,m,b,B,C]
def cj {r:Jy}{rs:Jz}{most:Int}{t:Jz}(a:∀q∈r::rs,JRow q)(h:Es most (r::rs)=some t):AllOk (yB (r::rs)) t/\(t.length:Int)<=most/\t ≠ []:=have b:=a r Zqs;ZG ⟨Ae b.ne,BV b.bnd⟩ (λg c=>by
 obtain⟨q,e,rfl⟩:=Ja.mp c;have:=a q (Zqm _ e);exact⟨Ae this.ne,BV this.bnd⟩) h
def Mi {r q:Jy}(e:JRow r):(∃s∈xR (jr r),JC s q=true)↔∃p∈r,∃w,J8 q p.1=some w /\ -p.2<=w:=by
 constructor
 .rintro⟨s,hs,a⟩;obtain⟨p,hp,rfl⟩:=Ja.mp hs;obtain⟨y,b,rfl⟩:=Ja.mp hp;exact⟨y,b,xT.mp a (y.1,-y.2) Zqs⟩
 .rintro⟨p,hp,w,f,c⟩;refine⟨[(p.1,-p.2)],Ja.mpr ⟨(p.1,-p.2),Ja.mpr ⟨p,hp,rfl⟩,rfl⟩,xT.mpr λz hz=>?_⟩
  simp_all
def BW:FS:=(jl (j4 2 (j8 WT (J0 (jb 0) jc))) (j6 (j8 zu (J0 (Qk [none,none,some 2] (iS (jb 1)) (.tup [0,1]) (jg vR (Xz (jb 2) (jb 0) (jb 1)) (jb 1))) jc))))
def Af:YG->Res D:=jE 3 2 BW
def gX {l e:Jy}(c:j7 l)(f:l.length<=100)(g:e.length<=1000):Af [j0 l,j0 e]=.ok (.bl (xg l e)):=by
 have h:=Dq f c;have a:jO (.tup [0,1]) (jg vR (Xz (jb 2) (jb 0) (jb 1)) (jb 1)) [none,none,~~~(ym l)] (e.map q9)=.ok (e.map λp=>.bl (decide (p.2<=(J8 l p.1).getD p.2))):=QJ λp _=>by
  have m:=AU c p.1
  simp_all [ym]
 have i:e.map (λp=>D.bl (decide (p.2<=(J8 l p.1).getD p.2)))=(e.map λp=>decide (p.2<=(J8 l p.1).getD p.2)).map .bl:=by simp
 have b:=Dt (e.map λp=>decide (p.2<=(J8 l p.1).getD p.2));rw[<- i] at b;have j:(e.map λp=>decide (p.2<=(J8 l p.1).getD p.2)).all id=xg l e:=by grind[xg,List.all_map]
 rw[j] at b;simp[Af,BW,h,a,JU g,b]
def BX:FS:=(jl (qj 2 (qc jc)) (jl (jZ (iS (jb 0)) (.one 3) (Wp 2 (Wt [none,some 3] (iS (jb 1)) (.one 0) (JG (J5 Af (J0 (jb 1) (J0 (jb 0) jc)))) (qm (J0 (jb 1) (J0 (jb 0) jc)))))) (Kg 2)))
def BY:YG->Res D:=jQ 4 2 BX
def gY {ls es:Jz}(j:∀r∈ls,j7 r)(m:∀r∈ls,r.length<=100)(n:∀r∈es,r.length<=1000)(v:ls.length<=1000)(ne:es.length<=1000):BY [ji ls,ji es]=.ok (.lst ((qi ls es).map qk)):=by
 have o:∀i,(qi (ls.take i) es).length<=i*1000:=λi=>by
  unfold qi;have c:∀a:Jz,(a.flatMap λl=>(es.filter (xg l)).map λe=>(l,e)).length<=a.length*1000:=by
   intro a
   induction a with
   |nil=>simp
   |cons x a w =>
    rw[List.flatMap_cons,Ub,Zql,Zu];have:=U5 (xg x) es;lia
  have:=c (ls.take i);rw[Uv] at this;have y:min i ls.length*1000<=i*1000:=Ve (Nat.min_le_left _ _) (Zf _);lia
 simp[BY,BX];generalize p:Wp 2 _=b;obtain⟨sd',e,u,q⟩:=KB (tg:=.one 3) (b:=b) (ds:=ls.map j0) (sd:=[~~~(ji ls),~~~(ji es),some (.own false (.lst [])),none])
  (P:=λi sd=>∃u,sd=[~~~(ji ls),~~~(ji es),some (.own false (.lst ((qi (ls.take i) es).map qk))),u]) ⟨none,rfl⟩ (by
   rintro i x sd s ⟨u,rfl⟩;obtain⟨l,hp,rfl⟩:=Kt s;have z:=(Jc.mp hp).1;have g:=Ug hp;have f:K9 (.one 0) (JG (J5 Af (J0 (jb 1) (J0 (jb 0) jc)))) (qm (J0 (jb 1) (J0 (jb 0) jc))) [none,~~~(j0 l)] (es.map j0)=.ok ((es.filter (xg l)).map λe=>qk (l,e)):=
    AV (λe _=>rfl) (λe h=>by simp[gX (j l g) (m l g) (n e h)]) (λe _ _=>by rfl)
   have t:(qi (ls.take (i+1)) es).map qk=(qi (ls.take i) es).map qk++(es.filter (xg l)).map λe=>qk (l,e):=by
    unfold qi;rw[KM hp,List.flatMap_append,Uc,List.flatMap_cons,List.flatMap_nil,ZB,Zw];rfl
   have A:=U5 (xg l) es;have B:=o i;have hz:(qi (ls.take i) es).length+(es.filter (xg l)).length<=sizeLine:=by
    rw[sizeLine_eq];lia
   rw[t];generalize qi (ls.take i) es=ws at hz;subst p;exact⟨[~~~(ji ls),~~~(ji es),some (.own false (.lst (ws.map qk++(es.filter (xg l)).map λe=>qk (l,e)))),~~~(j0 l)],by simp[f,JU ne,hz],_,rfl⟩)
 simp_all
def W7:FS:=(jl (j4 4 (dC .non)) (jl (X9 "TooMany" (j4 4 (dC .non)) 5 (J5 XI (J0 (x5 (jb 0)) (J0 (x5 (jb 1)) (J0 (x5 (dC (.int 8))) jc)))) (X9 "TooMany" (j4 4 (dC .non)) 6 (J5 W5 (J0 (x5 (qc (J0 (jb 5) jc))) (J0 (x5 (qc (J0 (jb 3) jc))) (J0 (x5 (dC (.int 8))) jc)))) (X9 "TooMany" (j4 4 (dC .non)) 4 (Qa BY (J0 (x5 (jb 6)) (J0 (J5 W4 (J0 (qc (J0 (J5 W6 (J0 (x5 (jb 5)) (J0 (x5 (dC (.int 8))) jc))) jc)) (J0 (x5 (qc (J0 (jb 2) jc))) (J0 (x5 (dC (.int 8))) jc)))) jc))) Qh))) (j6 (jb 4))))
def Wg:YG->Res D:=jE 7 4 W7
def Ag:FS:=(jl (xX (JG (jg xO (jg jJ (jb 0) (dC (.int 3))) (dC (.int 1)))) (jl (j4 1 (jg jJ (jg qu (jg Qn (jb 0) (dC (.int 12))) (jg j1 (jg qT (dC (.int 10)) (dC (.int 14))) (dC (.int 31)))) (jg qT (dC (.int 10)) (dC (.int 30))))) (j6 (jg jA (qc (J0 (jb 1) (J0 (qV xz (jb 1)) (J0 (jg y0 (jg qT (dC (.int 10)) (dC (.int 30))) (dC (.int 1))) (J0 (jg y0 (dC (.int 1)) (jg qT (dC (.int 10)) (dC (.int 30)))) jc))))) (jg jJ (jg Qn (jb 0) (dC (.int 3))) (dC (.int 4)))))) Qh) (j6 (jg y0 (jg jJ (jg Qn (jb 0) (dC (.int 3))) (dC (.int 9))) (dC (.int 4)))))
def XJ:YG->Res D:=jE 2 1 Ag
def vO (c:Int):Int:=if c % 3=1 then(if c / 3 % 4=0 then c / 12*100000000000031 % 1000000000000000000000000000000 else if c / 3 % 4=1 then -(c / 12*100000000000031 % 1000000000000000000000000000000) else if c / 3 % 4=2 then 999999999999999999999999999999 else -999999999999999999999999999999) else c / 3 % 9-4
def dj (c:Int): -1000000000000000000000000000000<=vO c/\vO c<=1000000000000000000000000000000:=by
 grind[vO]
def kh (x y z w:D):qo [x,y,z,w] 0=some x/\qo [x,y,z,w] 1=some y/\qo [x,y,z,w] 2=some z/\qo [x,y,z,w] 3=some w:=⟨rfl,rfl,rfl,rfl⟩
def gW (c:Int):XJ [.int c]=.ok (.int (vO c)):=by
 have b:qu (.int (c / 12)) (.int 100000000000031)=some (.int (c / 12*100000000000031)):=AR (Dp () ());have f:qT (.int 10) (.int 14)=some (.int 100000000000000):=rfl;have g:qT (.int 10) (.int 30)=some (.int 1000000000000000000000000000000):=rfl;unfold vO;by_cases h:c % 3=1
 .have a:c / 3 % 4=0\/c / 3 % 4=1\/c / 3 % 4=2\/c / 3 % 4=3:=()
  rcases a with e|e|e|e<;>simp[XJ,Ag,h,e,b,f,g,kh]
 simp_all [XJ,Ag]
def XL:FS:=(jl (j4 5 (J5 Q6 (J0 (jb 0) (J0 (jb 1) jc)))) (jl (j4 6 (jg jA (qc (J0 (dC (.str "all")) (J0 (dC (.str "first")) jc))) (jg jJ (jb 5) (dC (.int 2))))) (jl (j4 7 (jg j1 (dC (.int 1)) (jg jJ (jg Qn (jb 5) (dC (.int 2))) (dC (.int 3))))) (jl (xX (Wn (JG (jg wx (j8 jP (J0 (jb 4) jc)) (dC (.int 0)))) (JG (jg xO (jg jJ (jg Qn (jb 5) (dC (.int 6))) (dC (.int 2))) (dC (.int 1))))) (jl (j4 8 (jg jA (jb 4) (jg jJ (jg Qn (jb 5) (dC (.int 12))) (j8 jP (J0 (jb 4) jc))))) (jl (j4 6 (jg jA (jb 8) (dC (.int 0)))) (j4 7 (jg jA (jb 8) (dC (.int 1)))))) Qh) (jl (qj 9 (qc jc)) (jl (jZ (zr (J0 (jb 7) jc)) (.one 10) (jl (j4 11 (J5 Q6 (J0 (jb 0) (J0 (jg j1 (jg j1 (jb 1) (dC (.int 1))) (jb 10)) jc)))) (Q4 9 (qm (J0 (jg jJ (jb 11) (jb 3)) (J0 (J5 XJ (J0 (jg Qn (jb 11) (jb 3)) jc)) jc)))))) (λsd=>(j6 (qm (J0 (J5 Kx (J0 (jb 0) (J0 (jg j1 (dC (.int 20)) (jb 2)) jc))) (J0 (jb 6) (J0 (j8 Ws (J0 (jb 9) jc)) jc))))) (jU [9] sd))))))))
def XM:YG->Res D:=jE 12 5 XL
def mZ:FS:=(jl (j4 11 (J5 Q6 (J0 (jb 0) (J0 (jg j1 (jg j1 (jb 1) (dC (.int 1))) (jb 10)) jc)))) (Q4 9 (qm (J0 (jg jJ (jb 11) (jb 3)) (J0 (J5 XJ (J0 (jg Qn (jb 11) (jb 3)) jc)) jc)))))
def mY:FS:=(jl (qj 9 (qc jc)) (jl (jZ (zr (J0 (jb 7) jc)) (.one 10) mZ) (λsd=>(j6 (qm (J0 (J5 Kx (J0 (jb 0) (J0 (jg j1 (dC (.int 20)) (jb 2)) jc))) (J0 (jb 6) (J0 (j8 Ws (J0 (jb 9) jc)) jc))))) (jU [9] sd))))
def Mj {ns:Yh}(o:ns.length<=1000){at_ k things n:Nat}(C:at_<=1000)(E:k<20)(F:1<=things)(G:things<=1000)(H:n<=10)(g:D)(how:Str)(h u8:Option SV):
 ∃its:Jy,its.length=n/\(∀p∈its,(0<=p.1/\p.1<(things:Int)) /\ -1000000000000000000000000000000<=p.2/\p.2<=1000000000000000000000000000000)/\mY [~~~(.scr ns),~~~(.int at_),~~~(.int k),~~~(.int things),~~~g,h,~~~(.str how),~~~(.int n),u8,none,none,none]=.ok (.ret (jN (Qq (JR ns 60) (20+k),how,its))):=by
 have I:V3 [.int (n:Nat)]=.ok (Qd 0 n):=by rw[WW () ()];rfl
 obtain⟨sd',e,its,a,f,r,l,ok⟩:=KB (tg:=.one 10) (b:=mZ) (ds:=Qd 0 n) (sd:=[~~~(.scr ns),~~~(.int at_),~~~(.int k),~~~(.int things),~~~g,h,~~~(.str how),~~~(.int n),u8,some (.own false (.lst [])),none,none])
  (P:=λi sd=>∃(its:Jy) (a f:Option SV),sd=[~~~(.scr ns),~~~(.int at_),~~~(.int k),~~~(.int things),~~~g,h,~~~(.str how),~~~(.int n),u8,some (.own false (.lst (its.map q9))),a,f]/\its.length=i/\∀p∈its,(0<=p.1/\p.1<(things:Int)) /\ -1000000000000000000000000000000<=p.2/\p.2<=1000000000000000000000000000000)
  ⟨[],none,none,rfl,rfl,λp hp=>nomatch hp⟩ (by
   rintro i x sd s ⟨its,a,f,rfl,l,ok⟩;obtain⟨rfl,J⟩:=YT s;rw[Int.zero_add];have q:=W2 ns (k:=(at_:Int)+1+i) () () o;generalize JR ns ((at_:Int)+1+i)=c at q;have t:=X1 (i:=c) (j:=(things:Int)) ();have u:=AS (i:=c) (j:=(things:Int)) () ();have v:=gW (c / (things:Int));have wi:=dj (c / (things:Int));have y:=Vq c (show(things:Int)≠0 by lia);have A:=Vd c (show(0:Int)<things by lia);generalize vO (c / (things:Int))=w at *;generalize c % (things:Int)=m at *;have B:=JU (show its.length<=1000 from ());refine⟨[~~~(.scr ns),~~~(.int at_),~~~(.int k),~~~(.int things),~~~g,h,~~~(.str how),~~~(.int n),u8,some (.own false (.lst ((its++[(m,w)]).map q9))),~~~(.int i),~~~(.int c)],?_,_,_,_,rfl,by rw[Ub,l];rfl,λp hp=>?_⟩
   .unfold mZ;simp[q,t,u,v,B,q9]
   .rcases Jb.mp hp with z|z
    .exact ok p z
    .rw[Jd.mp z];exact⟨⟨y,A⟩,wi⟩)
 rw[WX] at l;refine⟨its,l,ok,?_⟩;have K:=(BD o (k:=20+k) (x:=20+(k:Int)) () ()).1;have L:jN (Qq (JR ns 60) (20+k),how,its)=.tup [.str (Qq (JR ns 60) (20+k)),.str how,.tup (its.map q9)]:=rfl
 simp_all [mY]
def gV {ns:Yh}(o:ns.length<=1000){ps:List Pl}(G:∀q∈ps,1<=q.givens.length/\q.givens.length<=4)(S:ps.length<=4){at_ k things:Nat}(u:at_<=1000)(v:k<20)(w:1<=things)(y:things<=1000):
 ∃r:Rw,XM [.scr ns,.int at_,.int k,.int things,.lst (ps.map jo)]=.ok (jN r)/\RwP ps (things:Int) r:=by
 have A:=W2 ns (k:=(at_:Int)) () () o;generalize JR ns (at_:Int)=c at A;have nm:=(BD o (k:=20+k) (x:=20+(k:Int)) () ()).2;have s:jP [.lst (ps.map jo)]=some (.int (ps.length:Nat)):=by rw[AT,Zql]
 have two:∃a:Str,qo [D.str "all",.str "first"] (c % 2)=some (.str a)/\(a = "all" \/ a = "first"):=by
  have:c % 2=0\/c % 2=1:=()
  rcases this with e|e
  .exact⟨"all",by rw[e];rfl,.inl rfl⟩
  .exact⟨"first",by rw[e];rfl,.inr rfl⟩
 obtain⟨a,H,I⟩:=two;obtain⟨b,en⟩:∃b:Nat,1+c / 2 % 3=(b:Int):=⟨(1+c / 2 % 3).toNat,()⟩;have T:1<=b/\b<=3:=()
 have f:∀(how:Str) (n:Nat) (u8:Option SV) (X:Res Out),(xX (Wn (JG (jg wx (j8 jP (J0 (jb 4) jc)) (dC (.int 0)))) (JG (jg xO (jg jJ (jg Qn (jb 5) (dC (.int 6))) (dC (.int 2))) (dC (.int 1))))) (jl (j4 8 (jg jA (jb 4) (jg jJ (jg Qn (jb 5) (dC (.int 12))) (j8 jP (J0 (jb 4) jc))))) (jl (j4 6 (jg jA (jb 8) (dC (.int 0)))) (j4 7 (jg jA (jb 8) (dC (.int 1)))))) Qh) [~~~(.scr ns),~~~(.int at_),~~~(.int k),~~~(.int things),~~~(.lst (ps.map jo)),~~~(.int c),~~~(.str a),~~~(.int b),none,none,none,none]=.ok (.next [~~~(.scr ns),~~~(.int at_),~~~(.int k),~~~(.int things),~~~(.lst (ps.map jo)),~~~(.int c),~~~(.str how),~~~(.int n),u8,none,none,none])->mY [~~~(.scr ns),~~~(.int at_),~~~(.int k),~~~(.int things),~~~(.lst (ps.map jo)),~~~(.int c),~~~(.str how),~~~(.int n),u8,none,none,none]=X->XL [~~~(.scr ns),~~~(.int at_),~~~(.int k),~~~(.int things),~~~(.lst (ps.map jo)),none,none,none,none,none,none,none]=X:=λhow n u8 X J K=>by
  unfold XL;refine zf (sd':=[~~~(.scr ns),~~~(.int at_),~~~(.int k),~~~(.int things),~~~(.lst (ps.map jo)),~~~(.int c),none,none,none,none,none,none]) (by generalize ps.map jo=PD;simp[A]) ?_;refine zf (sd':=[~~~(.scr ns),~~~(.int at_),~~~(.int k),~~~(.int things),~~~(.lst (ps.map jo)),~~~(.int c),~~~(.str a),none,none,none,none,none]) (by generalize ps.map jo=PD;simp[H]) ?_;refine zf (sd':=[~~~(.scr ns),~~~(.int at_),~~~(.int k),~~~(.int things),~~~(.lst (ps.map jo)),~~~(.int c),~~~(.str a),~~~(.int b),none,none,none,none]) (by generalize ps.map jo=PD;simp[en]) ?_;exact zf J K
 have m:∀{d:D},XL [~~~(.scr ns),~~~(.int at_),~~~(.int k),~~~(.int things),~~~(.lst (ps.map jo)),none,none,none,none,none,none,none]=.ok (.ret d)->XM [.scr ns,.int at_,.int k,.int things,.lst (ps.map jo)]=.ok d:=λ{d} h=>by
  simp_all [XM]
 by_cases B:ps.length=0\/c / 6 % 2≠1
 .obtain⟨its,l,ok,t⟩:=Mj o (n:=b) u v w y () (.lst (ps.map jo)) a (~~~(.int c)) none;refine⟨(Qq (JR ns 60) (20+k),a,its),m (f a b none _ ?_ t),nm,?_,λz=>?_,by show its.length<=10;lia,λp hp=>(ok p hp).1,λp hp=>(ok p hp).2⟩
  .generalize ps.map jo=PD at *;rcases B with z|z
   .have g:¬ 0<ps.length:=()
    simp[s,g]
   .by_cases g:0<ps.length
    .simp[s,g,z]
    .simp[s,g]
  .exact I.elim .inl λz=>.inr (.inl z)
  grind
 .have L:0<ps.length:=()
  have M:c / 6 % 2=1:=by
   rcases Decidable.em (c / 6 % 2=1) with z|z
   .exact z
   .exact Zn (.inr z) B
  have C:=X1 (i:=c / 12) (j:=(ps.length:Int)) ();have N:Qn (.int c) (.int 12)=some (.int (c / 12)):=AS () ();have U:=Vq (c / 12) (show(ps.length:Int)≠0 by lia);have Y:=Vd (c / 12) (show(0:Int)<ps.length by lia);obtain⟨j,hj⟩:∃j:Nat,c / 12 % (ps.length:Int)=(j:Int):=⟨(c / 12 % (ps.length:Int)).toNat,()⟩;have E:j<ps.length:=()
  rw[hj] at C;have O:ps[j]? = some ps[j]:=Zqg E;have F:=Uw E;generalize ps[j]=q at *;have P:=Lp O;have Q:=wE q;have R:=vz q;have Z:=G q F;obtain⟨its,l,ok,t⟩:=Mj o (n:=q.givens.length) u v w y () (.lst (ps.map jo)) q.name (~~~(.int c)) (~~~(jo q));refine⟨(Qq (JR ns 60) (20+k),q.name,its),m (f q.name q.givens.length (~~~(jo q)) _ ?_ t),nm,.inr (.inr ⟨q,F,rfl,l⟩),λz=>?_,by show its.length<=10;lia,λp hp=>(ok p hp).1,λp hp=>(ok p hp).2⟩
  .have g:0<ps.length:=L;generalize ps.map jo=PD at *;generalize jo q=tq at *;simp[s,g,M,N,C,P,Q,R]
  .have z:its=[]:=z;rw[z] at l;have l:0=q.givens.length:=l;lia
def BZ:FS:=(jl (qj 1 (qc jc)) (jl (jZ (zr (J0 (jg j1 (dC (.int 1)) (jg jJ (J5 Q6 (J0 (jb 0) (J0 (dC (.int 0)) jc))) (dC (.int 3)))) jc)) (.one 2) (jl (j4 3 (jg j1 (dC (.int 3)) (jg qu (dC (.int 24)) (jb 2)))) (jl (j4 4 (jg j1 (dC (.int 1)) (jg jJ (J5 Q6 (J0 (jb 0) (J0 (jg j1 (dC (.int 1)) (jb 2)) jc))) (dC (.int 3))))) (jl (qj 5 (qc jc)) (jl (jZ (zr (J0 (jg j1 (dC (.int 1)) (jg jJ (jg Qn (J5 Q6 (J0 (jb 0) (J0 (jg j1 (dC (.int 1)) (jb 2)) jc))) (dC (.int 3))) (dC (.int 4)))) jc)) (.one 6) (Q4 5 (Bp [1] (J5 XM (J0 (jb 0) (J0 (jg j1 (jb 3) (jg qu (dC (.int 5)) (jb 6))) (J0 (jb 6) (J0 (jg j1 (jb 4) (jb 6)) (J0 (jb 1) jc))))))))) (λsd=>(Q4 1 (qm (J0 (J5 Kx (J0 (jb 0) (J0 (jb 2) jc))) (J0 (jb 4) (J0 (jb 5) jc))))) (jU [5] sd))))))) (Kg 1)))
def Cb:YG->Res D:=jQ 7 1 BZ
def kg:FS:=(Q4 5 (Bp [1] (J5 XM (J0 (jb 0) (J0 (jg j1 (jb 3) (jg qu (dC (.int 5)) (jb 6))) (J0 (jb 6) (J0 (jg j1 (jb 4) (jb 6)) (J0 (jb 1) jc))))))))
def cs {ns:Yh}(l:ns.length<=1000){ps:List Pl}(B:BkP ps){p a m n:Nat}(F:a<=500)(G:1<=m)(H:m<=4)(I:n<=8)(u6:Option SV):
 ∃(c:List Rw) (f:Option SV),c.length=n/\(∀(k:Nat) r,c[k]? = some r->RwP ps ((m:Int)+k) r)/\qY (.one 6) kg (Qd 0 n) [~~~(.scr ns),some (.own false (.lst (ps.map jo))),~~~(.int p),~~~(.int a),~~~(.int m),some (.own false (.lst [])),u6]=.ok (.next [~~~(.scr ns),some (.own false (.lst (ps.map jo))),~~~(.int p),~~~(.int a),~~~(.int m),some (.own false (.lst (c.map jN))),f]):=by
 obtain⟨sd',e,c,f,o,g,ok⟩:=KB (tg:=.one 6) (b:=kg) (ds:=Qd 0 n)
  (P:=λi sd=>∃(c:List Rw) (f:Option SV),sd=[~~~(.scr ns),some (.own false (.lst (ps.map jo))),~~~(.int p),~~~(.int a),~~~(.int m),some (.own false (.lst (c.map jN))),f]/\c.length=i/\∀(k:Nat) r,c[k]? = some r->RwP ps ((m:Int)+k) r) ⟨[],u6,rfl,rfl,λk r h=>nomatch h⟩ (by
   rintro i x sd s ⟨c,f,rfl,g,ok⟩;obtain⟨rfl,J⟩:=YT s;obtain⟨r,j,R⟩:=gV l B.giv B.len (at_:=a+5*i) (k:=i) (things:=m+i) () () () ();have t:qu (.int 5) (.int (i:Int))=some (.int (5*(i:Int))):=rfl;have u:((a+5*i:Nat):Int)=(a:Int)+5*(i:Int):=()
   have v:((m+i:Nat):Int)=(m:Int)+(i:Int):=()
   rw[u,v] at j;have w:=JU (show c.length<=1000 from ());refine⟨[~~~(.scr ns),some (.own false (.lst (ps.map jo))),~~~(.int p),~~~(.int a),~~~(.int m),some (.own false (.lst ((c++[r]).map jN))),~~~(.int i)],?_,_,_,rfl,by rw[Ub,g];rfl,λk A h=>?_⟩
   .have C:X7 8 (jN r)=true:=by
     show((r.2.2.map q9).all (X7 6)&&true)=true;rw[Bool.and_true,List.all_map,Vn];intro q _;rfl
    unfold kg;simp[t,j,w,C,Res.bare]
   .rcases Vc k c.length with z|z
    .rw[UR z] at h;exact ok k A h
    .rw[US z] at h;have E:k-c.length=0:=by
      rcases Vm (k-c.length) with y|y
      .exact y
      .rw[VC (by rw[Uj];lia)] at h;cases h
     rw[E] at h;cases h
     rwa [show k=i by lia])
 grind[WX]
def mQ:FS:=(jl (j4 3 (jg j1 (dC (.int 3)) (jg qu (dC (.int 24)) (jb 2)))) (jl (j4 4 (jg j1 (dC (.int 1)) (jg jJ (J5 Q6 (J0 (jb 0) (J0 (jg j1 (dC (.int 1)) (jb 2)) jc))) (dC (.int 3))))) (jl (qj 5 (qc jc)) (jl (jZ (zr (J0 (jg j1 (dC (.int 1)) (jg jJ (jg Qn (J5 Q6 (J0 (jb 0) (J0 (jg j1 (dC (.int 1)) (jb 2)) jc))) (dC (.int 3))) (dC (.int 4)))) jc)) (.one 6) kg) (λsd=>(Q4 1 (qm (J0 (J5 Kx (J0 (jb 0) (J0 (jb 2) jc))) (J0 (jb 4) (J0 (jb 5) jc))))) (jU [5] sd))))))
def gU {ns:Yh}(s:ns.length<=1000):∃ps:List Pl,Cb [.scr ns]=.ok (.lst (ps.map jo))/\BkP ps/\r0 (JR ns 60) ps/\1<=ps.length/\ps.length<=3:=by
 have S:=W2 ns (k:=0) () () s;obtain⟨n,en⟩:∃n:Nat,1+JR ns 0 % 3=(n:Int):=⟨(1+JR ns 0 % 3).toNat,()⟩;have T:1<=n/\n<=3:=()
 have U:V3 [.int (n:Nat)]=.ok (Qd 0 n):=by rw[WW () ()];rfl
 obtain⟨sd',e,ps,v,w,t,o,u6,H,A,B,N⟩:=KB (tg:=.one 2) (b:=mQ) (ds:=Qd 0 n) (sd:=[~~~(.scr ns),some (.own false (.lst [])),none,none,none,none,none])
  (P:=λi sd=>∃(ps:List Pl) (v w t o u6:Option SV),sd=[~~~(.scr ns),some (.own false (.lst (ps.map jo))),v,w,t,o,u6]/\ps.length=i/\BkP ps/\r0 (JR ns 60) ps) ⟨[],none,none,none,none,none,rfl,rfl,dq,λk q h=>nomatch h⟩ (by
   rintro i x sd I ⟨ps,v,w,t,o,u6,rfl,A,B,N⟩;obtain⟨rfl,X⟩:=YT I;rw[Int.zero_add];have J:qu (.int 24) (.int (i:Int))=some (.int (24*(i:Int))):=rfl;have l:=W2 ns (k:=1+(i:Int)) () () s;generalize JR ns (1+(i:Int))=c at l;obtain⟨a,ea⟩:∃a:Nat,3+24*(i:Int)=(a:Int):=⟨3+24*i,()⟩;obtain⟨m,em⟩:∃m:Nat,1+c % 3=(m:Int):=⟨(1+c % 3).toNat,()⟩;obtain⟨q,eq⟩:∃q:Nat,1+c / 3 % 4=(q:Int):=⟨(1+c / 3 % 4).toNat,()⟩;have K:V3 [.int (q:Nat)]=.ok (Qd 0 q):=by rw[WW () ()];rfl
   obtain⟨f,E,Y,ok,u⟩:=cs s B (p:=i) (a:=a) (m:=m) (n:=q) () () () () u6;obtain⟨F,L⟩:=BD s (k:=i) (x:=(i:Int)) rfl ();obtain⟨j,eg⟩:∃j,j=(List.range m).map λk=>Qq (JR ns 60) (10+k):=⟨_,rfl⟩;have C:j.length=m:=by rw[eg,Zql,ZC]
   have P:PlP ps ⟨Qq (JR ns 60) i,j,f⟩:=⟨by show 1<=j.length;lia,by show j.length<=4;lia,by show 1<=f.length;lia,by show f.length<=8;lia,λk r h=>by show RwP ps ((j.length:Int)+k) r;rw[C];exact ok k r h⟩;have M:jo (Pl.mk (Qq (JR ns 60) i) j f)=.tup [.str (Qq (JR ns 60) i),.int (m:Nat),.lst (f.map jN)]:=by show D.tup [_,.int (j.length:Nat),_]=_;rw[C]
   have O:=JU (show ps.length<=1000 from ());refine⟨[~~~(.scr ns),some (.own false (.lst ((ps++[(⟨Qq (JR ns 60) i,j,f⟩:Pl)]).map jo))),~~~(.int i),~~~(.int a),~~~(.int m),~~~(.lst (f.map jN)),E],?_,_,_,_,_,_,_,rfl,by rw[Ub,A];rfl,B.snoc () P ⟨L,Lw () (by decide +kernel),Lw () (by decide +kernel)⟩ (λq Q z=>?_),λk q h=>?_⟩
   .rw[Uc,List.map_singleton,M,Rk,jt];generalize Qq (JR ns 60) i=st at F;generalize f.map jN=rd at u;have lt:(ps.map jo).length<sizeLine:=by rw[Zql];exact O
    generalize ps.map jo=PD at u lt;unfold mQ;refine zf (sd':=[~~~(.scr ns),some (.own false (.lst PD)),~~~(.int i),~~~(.int a),t,o,u6]) (by simp[J,ea]) ?_;refine zf (sd':=[~~~(.scr ns),some (.own false (.lst PD)),~~~(.int i),~~~(.int a),~~~(.int m),o,u6]) (by simp[l,em]) ?_;refine zf (sd':=[~~~(.scr ns),some (.own false (.lst PD)),~~~(.int i),~~~(.int a),~~~(.int m),some (.own false (.lst [])),u6]) () ?_;generalize kg=b at u;refine zf (sd':=[~~~(.scr ns),some (.own false (.lst PD)),~~~(.int i),~~~(.int a),~~~(.int m),some (.own false (.lst rd)),E]) (by simp[l,eq,K,u]) ?_;simp[F,lt]
   .obtain⟨k,G⟩:=Jm.mp Q;have Z:=(Jc.mp G).1;have z:q.name=Qq (JR ns 60) i:=z;rw[(N k q G).1] at z;have:=cA () () z;lia
   .rcases Vc k ps.length with z|z
    .rw[UR z] at h;exact N k q h
    .rw[US z] at h;have R:k-ps.length=0:=by
      rcases Vm (k-ps.length) with y|y
      .exact y
      .rw[VC (by rw[Uj];lia)] at h;cases h
     rw[R] at h;cases h;rw[show k=i by lia];exact⟨rfl,by rwa [C]⟩)
 rw[WX] at A;refine⟨ps,?_,B,N,(),()⟩;have e:=e;have g:BZ=jl (qj 1 (qc jc)) (jl (jZ (zr (J0 (jg j1 (dC (.int 1)) (jg jJ (J5 Q6 (J0 (jb 0) (J0 (dC (.int 0)) jc))) (dC (.int 3)))) jc)) (.one 2) mQ) (Kg 1)):=rfl
 simp_all [Cb]
def Ah:FS:=(jl (j4 1 (J5 Cb (J0 (jb 0) jc))) (jl (j4 2 (J5 BF (J0 (jb 0) (J0 (jb 1) jc)))) (jl (qj 3 (qc jc)) (jl (jZ (zr (J0 (j8 jP (J0 (jb 1) jc)) jc)) (.one 4) (jl (j4 5 (J5 XF (J0 (jb 0) (J0 (jb 4) jc)))) (jl (j4 6 (J5 Wg (J0 (jb 2) (J0 (jg jA (jg jA (jb 1) (jb 4)) (dC (.int 0))) (J0 (jg jA (jb 5) (dC (.int 0))) (J0 (jg jA (jb 5) (dC (.int 1))) jc)))))) (jl (xX (Wn (JG (qV (xU true) (jb 6))) (JG (jg zQ (jg wx (j8 jP (J0 (jb 6) jc)) (dC (.int 0))) (jg zR (jg jA (jb 5) (dC (.int 0))) (jg jA (jb 5) (dC (.int 1))))))) (j6 (dC (.bl false))) Qh) (Q4 3 (qm (J0 (jg jA (jb 1) (jb 4)) (J0 (jb 5) (J0 (jb 6) jc))))))))) (jl (j4 7 (dC (.int 0))) (jl (jZ (iS (jg j1 (qc (J0 (dC (.int 0)) jc)) (j8 QU (J0 (jb 0) jc)))) (.one 8) (jl (j4 9 (V2 3 (jg jJ (jb 7) (y8 [3] (j8 jP (J0 (jb 3) jc)))))) (jl (qj 10 (J5 ZR (J0 (jb 0) (J0 (jb 8) (J0 (jb 7) (J0 (jg jA (jg jA (jb 9) (dC (.int 0))) (dC (.int 1))) jc)))))) (jl (wL (Bv (JG (qV (xU true) (jg jA (jb 9) (dC (.int 2))))) (Bu (Bt (zo 10 (Kj ZO (J0 (jb 10) (J0 (jb 8) (J0 (jb 2) (J0 (jb 9) jc))))))))) (j6 (dC (.bl false))) Qh) (j4 7 (jg j1 (jb 7) (dC (.int 1)))))))) (j6 (dC (.bl true)))))))))
def vx:YG->Res D:=jE 11 1 Ah
def gN {bk:D}{p:Pl}{a b c:Int}{hs:Yh}(h:Kv 4 [bk,.str p.name,.lst (hs.map .int)]=.ok (.int c)):Wa [bk,jo p,.tup [.int a,.int b],.lst (hs.map .int)]=.ok (.bl (decide (a<=c)&&decide (c<=b))):=by
 have e:jA (.tup [.int a,.int b]) (.int 0)=some (.int a):=rfl;have f:jA (.tup [.int a,.int b]) (.int 1)=some (.int b):=rfl;have g:zR (.int a) (.int c)=some (.bl (decide (a<=c))):=rfl;generalize decide (a<=c)=x at *;cases x<;>simp[Wa,B6,(wE p),h,e,f,g]
def qG (hs:Yh)(r:Jy):Yh:=r.foldl (λh p=>h.set p.1.toNat p.2) hs
theorem Xf:∀(r:Jy) (hs:Yh),(qG hs r).length=hs.length
 | [],_=>rfl
 |p::r,hs=>(Xf r (hs.set p.1.toNat p.2)).trans UG
def xN:qL:=ZE (jb 0) (jg jA (jb 2) (dC (.int 0))) (yt (jg jA (jb 2) (dC (.int 1))))
def cu {a:Addr}{w:D}{p:Int×Int}{hs:Yh}(b:0<=p.1)(c:p.1<(hs.length:Int)):xN [~~~(.adr a),~~~w,~~~(q9 p)] [(a,.lst (hs.map .int))]=.ok (.next [~~~(.adr a),~~~w,~~~(q9 p)] [(a,.lst ((hs.set p.1.toNat p.2).map .int))]):=by
 simp_all [zg,xN,ZE,jz,Ww]
theorem Eu {a:Addr}{w:D}:∀(r:Jy) (hs:Yh) (u:Option SV),(∀p∈r,0<=p.1/\p.1<(hs.length:Int))->∃v,qZ (KF (.one 2) xN) (r.map q9) [~~~(.adr a),~~~w,u] [(a,.lst (hs.map .int))]=.ok (.next [~~~(.adr a),~~~w,v] [(a,.lst ((qG hs r).map .int))])
 | [],_,u,_=>⟨u,rfl⟩
 |p::r,hs,u,h=>by
  obtain⟨b,c⟩:=h p Zqs;obtain⟨v,e⟩:=Eu r (hs.set p.1.toNat p.2) (~~~(q9 p)) λq f=>by rw[UG];exact h q (Zqm _ f)
  exact⟨v,(Er (cu b c)).trans e⟩
def gP {a:Addr}{l e:Jy}{hs:Yh}(c:∀p∈l,0<=p.1/\p.1<(hs.length:Int))(b:∀p∈e,0<=p.1/\p.1<(hs.length:Int)):Ee [.adr a,qk (l,e)] [(a,.lst (hs.map .int))]=.ok (.adr a,[(a,.lst ((qG (qG hs e) l).map .int))]):=by
 refine B3 rfl ?_;obtain⟨v,f⟩:=Eu (a:=a) (w:=qk (l,e)) e hs none b;obtain⟨g,h⟩:=Eu (a:=a) (w:=qk (l,e)) l (qG hs e) v (by rwa [Xf]);have i:jA (qk (l,e)) (.int 1)=some (j0 e):=rfl;have j:jA (qk (l,e)) (.int 0)=some (j0 l):=rfl;have m:B7=(xi (Wx (iS (jg jA (jb 1) (dC (.int 1)))) (.one 2) xN) (xi (Wx (iS (jg jA (jb 1) (dC (.int 0)))) (.one 2) xN) (yt (jb 0)))):=rfl
 simp_all [Qm]
def KI (ws:List (Jy×Jy))(hs:Yh):Bool:=ws.any λp=>xM p.1 hs&&xa p.2 hs
def vG (n:Nat)(r:Jy):Prop:=r.length<=100/\∀p∈r,0<=p.1/\p.1<(n:Int)
def gO {ws:List (Jy×Jy)}{hs:Yh}(l:∀p∈ws,vG hs.length p.1/\vG hs.length p.2):Wb [.lst (ws.map qk),.lst (hs.map .int)]=.ok (.bl (KI ws hs)):=by
 simp[Wb,BC];refine YU (R:=λz=>(z.bind (xG (j6 (dC (.bl false))))).bind xI=.ok (.bl (KI ws hs))) (P:=λi sd=>(∃u,sd=[~~~(.lst (ws.map qk)),~~~(.lst (hs.map .int)),u])/\∀p∈ws.take i,(xM p.1 hs&&xa p.2 hs)=false) ⟨⟨none,rfl⟩,λ_ h=>by simp at h⟩ ?_ ?_
 .rintro sd ⟨⟨u,rfl⟩,hu⟩;rw[Zql,VO] at hu;have e:KI ws hs=false:=Vr.mpr λo h=>by rw[hu o h];simp
  rw[e];simp
 .rintro i x sd m ⟨⟨u,rfl⟩,hu⟩;obtain⟨p,hp,rfl⟩:=Kt m;obtain⟨⟨t,n⟩,v,r⟩:=l p (Ug hp);have a:=fg (box:=p.1) (hs:=hs) () n;have c:=gZ (box:=p.2) (hs:=hs) () r;have g:jA (qk p) (.int 0)=some (j0 p.1):=rfl;have j:jA (qk p) (.int 1)=some (j0 p.2):=rfl;have tk:=KM hp;have s:(xM p.1 hs&&xa p.2 hs)=true->KI ws hs=true:=λz=>U0.mpr ⟨p,Ug hp,z⟩;have st:(xM p.1 hs&&xa p.2 hs)=false->∀q∈ws.take (i+1),(xM q.1 hs&&xa q.2 hs)=false:=by grind
  generalize qk p=pd at *;generalize j0 p.1=r1 at *;generalize j0 p.2=r2 at *;generalize hs.map D.int=hd at *;generalize ws.map qk=wd at *;cases b:xM p.1 hs with
  |false =>
   rw[b] at a st;exact .inl ⟨[~~~(.lst wd),~~~(.lst hd),~~~pd],.inl (by simp[g,a]),⟨_,rfl⟩,st rfl⟩
  |true =>
   cases f:xa p.2 hs with
   |false =>
    rw[b] at a;rw[f] at c;rw[b,f] at st;exact .inl ⟨[~~~(.lst wd),~~~(.lst hd),~~~pd],.inl (by simp[g,a,j,c]),⟨_,rfl⟩,st rfl⟩
   |true =>
    rw[s (by rw[b,f];rfl)];rw[b] at a;rw[f] at c;exact .inr (.inr ⟨.bl true,by simp[g,a,j,c],()⟩)
structure WinO (bk:D)(p:Pl)(f d:Int)(ws:List (Jy×Jy))(cm:Yh->Int):Prop where
 hour:∀hs:Yh,hs.length=p.givens.length->Kv 4 [bk,.str p.name,.lst (hs.map .int)]=.ok (.int (cm hs))
 bd:∀w∈ws,vG p.givens.length w.1/\vG p.givens.length w.2
 len:ws.length<=1000
 iff:∀hs:Yh,hs.length=p.givens.length->(decide (f<=cm hs)&&decide (cm hs<=d))=KI ws hs
 ins:∀w∈ws,∀hs:Yh,hs.length=p.givens.length->KI ws (qG (qG hs w.2) w.1)=true
def gL {bk:D}{p:Pl}{f d:Int}{ws:List (Jy×Jy)}{H:Yh->Int}(W:WinO bk p f d ws H)(c:Int){hs:Yh}(h:hs.length=p.givens.length):
 ∃s:Yh,∀a,ZO [.adr a,.int c,bk,.tup [jo p,.tup [.int f,.int d],.lst (ws.map qk)]] [(a,.lst (hs.map .int))]=.ok (.bl true,[(a,.lst (s.map .int))]):=by
 have I:jP [.lst (ws.map qk)]=some (.int (ws.length:Nat)):=by simp
 have o:=λhs h=>gN (p:=p) (a:=f) (b:=d) (W.hour hs h);have q:=λ(hs:Yh) (h:hs.length=p.givens.length)=>gO (ws:=ws) (hs:=hs) (by rw[h];exact W.bd);have J:=o hs h;have k1:=q hs h;rw[W.iff hs h] at J;have C:∀b:Bool,zQ (.bl b) (.bl b)=some (.bl false):=by simp
 have C:=C (KI ws hs);have der:∀a (r:SD),derI [(a,.lst (hs.map D.int))] [0] (~~~(.adr a)::r)= ~~~(.lst (hs.map D.int))::r:=λa r=>by
  rw[IF,IE];simp[der,jz]
 have n:∀a,ZI [0] (JG (jg zQ (J5 Wa (J0 (jb 2) (J0 (jb 4) (J0 (jb 5) (J0 (jb 0) jc))))) (J5 Wb (J0 (jb 6) (J0 (jb 0) jc))))) [~~~(.adr a),~~~(.int c),~~~bk,~~~(.tup [jo p,.tup [.int f,.int d],.lst (ws.map qk)]),~~~(jo p),~~~(.tup [.int f,.int d]),~~~(.lst (ws.map qk)),none] [(a,.lst (hs.map .int))]=.ok (false,[(a,.lst (hs.map .int))]):=λa=>by
  simp_all [ZI,der]
 have u:∀a,zK (jb 3) (.tup [4,5,6]) [~~~(.adr a),~~~(.int c),~~~bk,~~~(.tup [jo p,.tup [.int f,.int d],.lst (ws.map qk)]),none,none,none,none]=.ok (.next [~~~(.adr a),~~~(.int c),~~~bk,~~~(.tup [jo p,.tup [.int f,.int d],.lst (ws.map qk)]),~~~(jo p),~~~(.tup [.int f,.int d]),~~~(.lst (ws.map qk)),none]):=λa=>rfl;have K:∀E sd hp,yW E sd hp=(E sd).bind λb=>.ok (b,hp):=λ_ _ _=>rfl;by_cases L:ws.length=0
 .refine⟨hs,λa=>B3 rfl ?_⟩
  simp_all [ZN,Qm]
 .have F:=X1 (i:=c) (j:=(ws.length:Int)) ();have S:=Vq c (show(ws.length:Int)≠0 by lia);have T:=Vd c (show(0:Int)<ws.length by lia);obtain⟨i,ei⟩:∃i:Nat,c % (ws.length:Int)=(i:Int):=⟨(c % (ws.length:Int)).toNat,()⟩;rw[ei] at F;have G:ws[i]? = some ws[i]:=by simp
  have v:ws[i]∈ws:=by simp
  generalize ws[i]'_=w at G v;have M:qo (ws.map qk) (i:Int)=some (qk w):=by
   rw[XA (by rw[Zql];lia),Zv,G];rfl
  obtain⟨l,e⟩:=w;obtain⟨N,O⟩:=W.bd _ v;have m:=λa=>gP (a:=a) (l:=l) (e:=e) (hs:=hs) (by rw[h];exact N.2) (by rw[h];exact O.2);obtain⟨g,eh⟩:∃g,g=qG (qG hs e) l:=⟨_,rfl⟩;have x:g.length=p.givens.length:=by rw[eh,Xf,Xf,h]
  have A:=o g x;have k2:=q g x;rw[W.iff g x] at A;have B:=W.ins _ v hs h;have B:KI ws g=true:=by rw[eh];exact B
  rw[B] at A k2;rw[<- eh] at m;refine⟨g,λa=>B3 rfl ?_⟩;have n:=n a;have u:=u a;have m:=m a;have P:xO (.int (ws.length:Nat)) (.int 0)=some (.bl false):=by
   have z:(ws.length:Int)≠0:=()
   have Q:ws ≠ []:=λy=>L (by rw[y];rfl);simp[Q]
  have R:zG [7] (Xs (J5 Wa (J0 (jb 2) (J0 (jb 4) (J0 (jb 5) (J0 (jb 7) jc))))) (J5 Wb (J0 (jb 6) (J0 (jb 7) jc)))) [~~~(.adr a),~~~(.int c),~~~bk,~~~(.tup [jo p,.tup [.int f,.int d],.lst (ws.map qk)]),~~~(jo p),~~~(.tup [.int f,.int d]),~~~(.lst (ws.map qk)),~~~(.adr a)] [(a,.lst (g.map .int))]=.ok (.bl true,[(a,.lst (g.map .int))]):=by
   rw[d8,IF,IE];generalize D.tup [jo p,.tup [.int f,.int d],.lst (ws.map qk)]=pt at *;generalize jo p=tp at *;generalize D.tup [.int f,.int d]=en at *;generalize g.map D.int=hd2 at *;generalize ws.map qk=wd at *;simp[DL.der,jz,A,k2,K2]
  unfold ZN Qm;generalize ZI [0] (JG (jg zQ (J5 Wa (J0 (jb 2) (J0 (jb 4) (J0 (jb 5) (J0 (jb 0) jc))))) (J5 Wb (J0 (jb 6) (J0 (jb 0) jc)))))=t at *;generalize zG [7] (Xs (J5 Wa (J0 (jb 2) (J0 (jb 4) (J0 (jb 5) (J0 (jb 7) jc))))) (J5 Wb (J0 (jb 6) (J0 (jb 7) jc))))=t2 at *;generalize zK (jb 3) (.tup [4,5,6])=ts at *;generalize D.tup [jo p,.tup [.int f,.int d],.lst (ws.map qk)]=pt at *;generalize jo p=tp at *;generalize D.tup [.int f,.int d]=en at *;generalize hs.map D.int=hd at *;generalize g.map D.int=hd2 at *;generalize ws.map qk=wd at *;generalize qk (l,e)=pw at *;generalize (ws.length:Nat)=wl at *;simp[u,n,I,K,P,F,M,m,R]
def Q8 (ns:Yh)(p:Int):Int×Int:=if JR ns (56+2*p) % 2=0 then(za (JR ns (55+2*p)),za (JR ns (55+2*p))+JR ns (56+2*p) / 2 % 7-2) else(za (JR ns (55+2*p)),za (JR ns (56+2*p) / 2))
def gM {ns:Yh}(e:ns.length<=1000){p:Nat}(hp:p<=10):XF [.scr ns,.int p]=.ok (.tup [.int (Q8 ns p).1,.int (Q8 ns p).2]):=by
 have g:=W2 ns (k:=55+2*(p:Int)) () () e;have f:=Lu ns (k:=55+2*(p:Int)) () ();have h:=Eg f.1 f.2;have i:=W2 ns (k:=56+2*(p:Int)) () () e;have a:=Lu ns (k:=56+2*(p:Int)) () ();have j:qu (.int 2) (.int (p:Int))=some (.int (2*(p:Int))):=rfl;unfold Q8;generalize JR ns (56+2*(p:Int))=b at *;have l:=Eg (c:=b / 2) (VE a.1 ()) (Int.lt_of_le_of_lt (VF _ a.1) a.2);by_cases q:b % 2=0
 .simp[XF,ZQ,j,g,h,i,q]
 simp_all [XF,ZQ]
def Ai {f:Jz}{hs:Yh}(c:f ≠ [])(b:∀r∈f,r ≠ []){y:Int}:J7 f hs<=y↔∃r∈f,∀p∈r,jB hs p.1+p.2<=y:=by
 constructor
 .intro h;obtain⟨r,a,e⟩:=V8 (hs:=hs) c;exact⟨r,a,(Bz (b r a)).mp ()⟩
 .rintro⟨r,a,h⟩;exact VD (V7 a) ((Bz (b r a)).mpr h)
def dz {f:Jz}{n:Nat}(c:f ≠ [])(e:∀r∈f,r ≠ [])(i:∀r∈f,∀p∈r,0<=p.1/\p.1<(n:Int))(y:Int):∃hs:Yh,hs.length=n/\J7 f hs=y:=by
 have b:∀(x:Int) (r) (a:r∈f) (p) (hp:p∈r),jB (List.replicate n x) p.1=x:=λx r a p hp=>by
  obtain⟨l,j⟩:=i r a p hp;unfold jB;rw[Ur,VP,Zd ()];rfl
 have g:∀x z:Int,J7 f (List.replicate n x)<=z↔J7 f (List.replicate n 0)<=z-x:=λx z=>by
  rw[Ai c e,Ai c e];constructor
  .rintro⟨r,a,h⟩;exact⟨r,a,λp hp=>by have:=h p hp;rw[b x r a p hp] at this;rw[b 0 r a p hp];lia⟩
  .rintro⟨r,a,h⟩;exact⟨r,a,λp hp=>by have:=h p hp;rw[b 0 r a p hp] at this;rw[b x r a p hp];lia⟩
 refine⟨List.replicate n (y-J7 f (List.replicate n 0)),List.length_replicate,?_⟩;have j:=(g (y-J7 f (List.replicate n 0)) y).mpr ();have m:=mt (g (y-J7 f (List.replicate n 0)) (y-1)).mp ();lia
def Xg {r:Jy}{k w:Int}(e:J8 r k=some w):(k,w)∈r:=by
 grind[ci]
theorem Cc:∀(r:Jy) (hs:Yh) (k:Int),0<=k->j7 r->(∀p∈r,0<=p.1/\p.1<(hs.length:Int))->jB (qG hs r) k=(J8 r k).getD (jB hs k)
 | [],hs,k,_,_,_=>rfl
 |p::r,hs,k,hk,o,h=>by
  have ⟨b,c⟩:=h p Zqs;unfold j7 at o;rw[Zl,List.nodup_cons] at o;show jB (qG (hs.set p.1.toNat p.2) r) k=_;rw[(Cc r (hs.set p.1.toNat p.2) k hk o.2 λq a=>by rw[UG];exact h q (Zqm _ a)),Y6];cases e:J8 r k with
  |some w=>rfl
  |none =>
   by_cases z:p.1=k
   .rw[Zd z];subst z;unfold jB;rw[Ur,UO ()];rfl
   .rw[Ze z];unfold jB;rw[Ur,Ur,Zx ()]
def dm {l e:Jy}{hs:Yh}(b:j7 l)(f:j7 e)(g:∀p∈l,0<=p.1/\p.1<(hs.length:Int))(c:∀p∈e,0<=p.1/\p.1<(hs.length:Int))(t:xg l e=true):xM l (qG (qG hs e) l)=true/\xa e (qG (qG hs e) l)=true:=by
 have a:∀p∈l,0<=p.1/\p.1<((qG hs e).length:Int):=by rwa [Xf]
 constructor
 .refine Vn.mpr λp hp=>Zp ?_;rw[Cc l _ p.1 (g p hp).1 b a,b.look hp];exact UM _
 .refine Vn.mpr λp hp=>Zp ?_;rw[Cc l _ p.1 (c p hp).1 b a,Cc e _ p.1 (c p hp).1 f c,f.look hp];have:=of_decide_eq_true (Vn.mp t p hp)
  simp_all
def cg {ls es:Jz}{hs:Yh}:KI (qi ls es) hs=((ls.any λl=>xM l hs)&&es.any λe=>xa e hs):=by
 cases q:(ls.any λl=>xM l hs)&&es.any λe=>xa e hs with
 |true =>
  rw[Ud,U0,U0] at q;obtain⟨⟨l,a,b⟩,e,f,c⟩:=q;refine U0.mpr ⟨(l,e),Jq.mpr ⟨l,a,Ja.mpr ⟨e,Jf.mpr ⟨f,Vn.mpr λp hp=>Zp ?_⟩,rfl⟩⟩,by rw[b,c];rfl⟩;cases z:J8 l p.1 with
  |none=>exact UM _
  |some w=>exact VD (of_decide_eq_true (Vn.mp c p hp)) (of_decide_eq_true (Vn.mp b _ (Xg z)))
 |false =>
  refine Vr.mpr λp hp=>?_;obtain⟨l,a,hp⟩:=Jq.mp hp
  grind
def cF {f u l es:Jz}{n:Nat}{x:Int}{hs:Yh}(H:f ≠ [])(o:∀r∈f,JRow r)(M:∀r∈f,∀p∈r,0<=p.1/\p.1<(n:Int))(A:AllOk (yB f) u)(N:∀c,c∈l↔∃q∈u,jr q=c)(E:AllOk [JO (l.map jr) x] es):(es.any λe=>xa e hs)=decide (x<=J7 f hs):=by
 have I:∀r∈f,r ≠ []:=λr j=>(o r j).ne;have O:∀q:Jy,jr (jr q)=q:=λq=>by
  unfold jr;rw[Zw];exact(UT λp _=>()).trans (List.map_id q)
 have un:∀{a b:Jy},JC a b=true->xa b hs=true->xa a hs=true:=λ{a b} h g=>Vn.mpr λp hp=>by
  obtain⟨w,t,J⟩:=xT.mp h p hp;exact Zp (VD J (of_decide_eq_true (Vn.mp g _ (Xg t))))
 have K:∀s,s∈JO (l.map jr) x↔∃q∈u,Qe q x=s:=λs=>by
  unfold JO;rw[List.mem_map];constructor
  .grind
  .rintro⟨q,v,rfl⟩;exact⟨q,Ja.mpr ⟨jr q,(N _).mpr ⟨q,v,rfl⟩,O q⟩,rfl⟩
 obtain⟨Q,eQ⟩:∃Q,Q=(List.range n).map λi:Nat=>((i:Int),jB hs i-x):=⟨_,rfl⟩;have P:j7 Q:=by
  rw[eQ];unfold j7 List.Nodup;rw[Zw,UW];exact List.nodup_range.imp λh e=>h (Int.ofNat.inj e)
 by_cases z:x<=J7 f hs
 .rw[Zp z,U0];obtain⟨r,j,R⟩:=A.least Q λg B=>by
   obtain⟨r,j,rfl⟩:=Ja.mp B;rw[Mi (o r j)];refine VX λh=>?_;have:=(Ai (hs:=hs) H I (y:=x-1)).mpr ⟨r,j,λp hp=>by
    obtain⟨S,h1⟩:=M r j p hp;refine VX λk=>h ⟨p,hp,jB hs p.1-x,P.look ?_,()⟩;rw[eQ];exact Ja.mpr ⟨p.1.toNat,Jg.mpr (),by rw[Int.toNat_of_nonneg S]⟩⟩
   lia
  have T:xa (Qe r x) hs=true:=Vn.mpr λp hp=>by
   obtain⟨y,U,rfl⟩:=Ja.mp hp;obtain⟨w,t,J⟩:=xT.mp R y U;have m:=Xg t;rw[eQ] at m;obtain⟨i,_,L⟩:=Ja.mp m;have X:(i:Int)=y.1:=(Prod.mk.inj L).1;have Y:jB hs i-x=w:=(Prod.mk.inj L).2;rw[X] at Y;exact()
  obtain⟨e,C,F⟩:=E.least (Qe r x) λg B=>by
   rw[Jd.mp B];exact⟨_,(K _).mpr ⟨r,j,rfl⟩,BK (LC (A.row r j)).once⟩
  exact⟨e,C,un F T⟩
 .rw[Zo z,Vr];intro e C h;obtain⟨s,G,Z⟩:=E.abv e C _ Zqs;have es:=un Z h;obtain⟨q,v,rfl⟩:=(K s).mp G;refine z ?_;obtain⟨r,j,er⟩:=V8 (hs:=hs) H;rw[er];obtain⟨p,hp,w,hw,le⟩:=(Mi (o r j)).mp (A.abv q v _ (Ja.mpr ⟨r,j,rfl⟩));have a:=of_decide_eq_true (Vn.mp es (p.1,w+x) (Ja.mpr ⟨(p.1,w),Xg hw,rfl⟩));have a:w+x<=jB hs p.1:=a;have b:=(Bz (hs:=hs) (I r j)).mp (UM _) p hp;lia
def cz {fs:List Jz}{ds:Yh}{most:Int}(a:ds.length=fs.length)(b:fs.length<=1000)(c:∀f∈fs,∀r∈f,JRow r)(e:∀f∈fs,f.length<=1000)
 (h:qB [.lst ((ZY fs ds).map ji),.int most]=Qt):W5 [.lst (fs.map ji),.lst (ds.map .int),.int most]=Qt:=by
 obtain⟨g,i⟩:=LF a b c e
 simp_all [Qt,W5,ZX]
def cV {fs:List Jz}{ds:Yh}{most:Int}(a:ds.length=fs.length)(b:fs.length<=1000)(c:∀f∈fs,∀r∈f,JRow r)(e:∀f∈fs,f.length<=1000)
 (h:qB [.lst ((ZW fs ds).map ji),.int most]=Qt):W4 [.lst (fs.map ji),.lst (ds.map .int),.int most]=Qt:=by
 obtain⟨g,i⟩:=LD a b c e
 simp_all [Qt,W4,ZV]
def Ml {fs:List Jz}{t:Jz}{n:Int}(A:AllOk fs t)(h:∀f∈fs,∀s∈f,∀p∈s,p.1<n):∀r∈t,∀p∈r,p.1<n:=λr c p hp=>by
 have o:=(A.row r c).once;have l:j7 (r.filter λp=>decide (p.1<n)):=List.Pairwise.sublist (List.filter_sublist.map _) o;obtain⟨m,e,i⟩:=A.least (r.filter λp=>decide (p.1<n)) λf j=>by
  obtain⟨s,hs,u⟩:=A.abv r c f j;refine⟨s,hs,xT.mpr λy b=>?_⟩;obtain⟨w,a,g⟩:=xT.mp u y b;exact⟨w,l.look (Jf.mpr ⟨Xg a,Zp (h f j s hs y b)⟩),g⟩
 have:=A.anti m e r c (xT.mpr λy b=>by
  obtain⟨w,a,g⟩:=xT.mp i y b;exact⟨w,o.look (Jf.mp (Xg a)).1,g⟩)
 subst this;obtain⟨w,a,_⟩:=xT.mp i p hp;exact of_decide_eq_true (Jf.mp (Xg a)).2
def cr {t bs:Jz}{n:Nat}{V:Int}(T:Tf n V t)(g:∀b,b∈bs↔∃q∈t,jr q=b)(hs:Yh):(bs.any λb=>xM b hs)=decide (J7 t hs<=0):=by
 have h:=λr i=>(T.cn.rows r i).ne;by_cases c:J7 t hs<=0
 .rw[Zp c,U0];obtain⟨q,a,e⟩:=(Ai T.cn.ne h).mp c;refine⟨jr q,(g _).mpr ⟨q,a,rfl⟩,Vn.mpr λp hp=>?_⟩;obtain⟨y,l,rfl⟩:=Ja.mp hp
  grind
 .rw[Zo c,Vr];intro b f j;obtain⟨q,a,rfl⟩:=(g b).mp f;refine c ((Ai T.cn.ne h).mpr ⟨q,a,λp hp=>?_⟩);have:=of_decide_eq_true (Vn.mp j (p.1,-p.2) (Ja.mpr ⟨p,hp,rfl⟩))
  grind
def dW (ls es:Jz):(qi ls es).length<=ls.length*es.length:=by
 unfold qi
 induction ls with
 |nil=>simp
 |cons x a b =>
  rw[List.flatMap_cons,Ub,Zql,Zu,Nat.succ_mul];have:=U5 (xg x) es;lia
def Mm {ls es:Jz}{p:Jy×Jy}(h:p∈qi ls es):p.1∈ls/\p.2∈es/\xg p.1 p.2=true:=by
 grind[qi]
def sI (ps:List Pl)(p:Pl)(f d:Int)(x:D):Prop:=x=.non\/∃ws a,x=.lst (ws.map qk)/\WinO (JD ps) p f d ws a/\decide (0<ws.length)=decide (f<=d)
def tj {bk:D}{p:Pl}{f d V W:Int}{t t' u bs S es:Jz}(n3:p.givens.length<=12)(T:Tf p.givens.length W t)(H:Tf p.givens.length V t')(Y:∀hs,J7 t' hs=J7 t hs-d)(U:∀b,b∈bs↔∃q∈t',jr q=b)(lb:bs.length=t'.length)
 (A:AllOk (yB t) u) (m:∀c,c∈S↔∃q∈u,jr q=c) (E:AllOk [JO (S.map jr) f] es) (le:es.length<=20) (o:∀hs:Yh,hs.length=p.givens.length->Kv 4 [bk,.str p.name,.lst (hs.map .int)]=.ok (.int (J7 t hs))):
 WinO bk p f d (qi bs es) (J7 t)/\decide (0<(qi bs es).length)=decide (f<=d):=by
 have Z:=H.len;have rn:∀r∈t,r ≠ []:=λr l=>(T.cn.rows r l).ne;have j:∀r∈t,∀z∈r,0<=z.1/\z.1<(p.givens.length:Int):=λr l q a=>⟨((T.cn.rows r l).bnd q a).1,(T.th r l q a).1⟩;have M:=Ml (n:=(p.givens.length:Int)) A λg N s hs q a=>by
  obtain⟨r,l,rfl⟩:=Ja.mp N;obtain⟨y,B,rfl⟩:=Ja.mp hs;obtain⟨x,C,rfl⟩:=Ja.mp B;rw[Jd.mp a];exact(j r l x C).2
 have O:=Ml (n:=(p.givens.length:Int)) E λg N s hs q a=>by
  rw[Jd.mp N] at hs;obtain⟨y,B,rfl⟩:=Ja.mp hs;obtain⟨c,hm,rfl⟩:=Ja.mp B;obtain⟨v,hv,rfl⟩:=(m c).mp hm;obtain⟨x,C,rfl⟩:=Ja.mp a;obtain⟨x1,P,rfl⟩:=Ja.mp C;obtain⟨x2,Q,rfl⟩:=Ja.mp P;exact M v hv x2 Q
 have bl:∀b∈bs,JRow b/\∀q∈b,q.1<(p.givens.length:Int):=λb h=>by
  obtain⟨q,a,rfl⟩:=(U b).mp h;refine⟨ZU (H.cn.rows q a),λx C=>?_⟩;obtain⟨y,B,rfl⟩:=Ja.mp C;exact(H.th q a y B).1
 have F:∀{r:Jy},JRow r->(∀q∈r,q.1<(p.givens.length:Int))->vG p.givens.length r:=λ{r} J h=>⟨by have:=J.len;lia,λq a=>⟨(J.bnd q a).1,h q a⟩⟩;have R:∀w∈qi bs es,vG p.givens.length w.1/\vG p.givens.length w.2:=λw i=>by
  obtain⟨I,K,_⟩:=Mm i;exact⟨F (bl _ I).1 (bl _ I).2,F (E.row _ K) (O _ K)⟩
 have iff:∀hs:Yh,hs.length=p.givens.length->(decide (f<=J7 t hs)&&decide (J7 t hs<=d))=KI (qi bs es) hs:=λhs _=>by
  rw[cg,cr H U,cF T.cn.ne T.cn.rows j A m E,Bool.and_comm,Y hs]
  congr 1
  rw[decide_eq_decide];lia
 have G:∀w∈qi bs es,∀hs:Yh,hs.length=p.givens.length->KI (qi bs es) (qG (qG hs w.2) w.1)=true:=λw i hs L=>by
  obtain⟨I,K,h3⟩:=Mm i;obtain⟨i1,i2⟩:=dm (bl _ I).1.once (E.row _ K).once (by rw[L];exact(R w i).1.2) (by rw[L];exact(R w i).2.2) h3;exact U0.mpr ⟨w,i,by rw[i1,i2];rfl⟩
 have ln:=dW bs es;have lm:bs.length*es.length<=40*20:=Ve () le;refine⟨⟨o,R,(),iff,G⟩,?_⟩;rw[decide_eq_decide];constructor
 .intro h;have ⟨w,i⟩:=List.exists_mem_of_length_pos h;have X:(List.replicate p.givens.length (0:Int)).length=p.givens.length:=List.length_replicate;have k:=G w i _ X;rw[<- iff _ (by rw[Xf,Xf,X]),Ud] at k;have:=of_decide_eq_true k.1;have:=of_decide_eq_true k.2;lia
 .intro h;have ⟨hs,L,e⟩:=dz T.cn.ne rn j f;have k:=iff hs L;rw[e,Zp h,Zp (UM f)] at k;have ⟨w,i,_⟩:=U0.mp k.symm;exact List.length_pos_of_mem i
def cy {ps:List Pl}(B:BkP ps){j:Nat}{p:Pl}(C:ps[j]? = some p)(f d:Int):∃x,Wg [JD ps,.str p.name,.int f,.int d]=.ok x/\sI ps p f d x:=by
 have U:=(B.at C).2.1;have g2:=(B.ok j p C).g2;rcases cp B C with z|⟨t,ft,T,z3⟩
 .refine⟨.non,?_,.inl rfl⟩;unfold Qt at z;generalize JD ps=bk at *;simp[Wg,W7,z]
 have F:∀hs:Yh,hs.length=p.givens.length->Kv 4 [JD ps,.str p.name,.lst (hs.map .int)]=.ok (.int (J7 t hs)):=λhs h=>by
  have e:=Ls B 4 j p hs C U h;obtain⟨ys,ey⟩:=B.part (n:=3) C hs;rw[ey] at e;have e:=Lr e;rw[B.rc C U,<- z3 hs h] at e;exact e
 have lt:=T.len;have T2:=T.wait (w:=-d) (V:=if d<0 then -d else d) (by split<;>lia);have X:∀f ∈ [t],∀r∈f,JRow r:=λf G r a=>by rw[Jd.mp G] at a;exact T.cn.rows r a
 have Y:∀f ∈ [t],f.length<=1000:=by grind
 rcases Eo (fs:=[JO t (-d)]) () (λg H=>by rw[Jd.mp H];exact T2) () with z|⟨t',z1,T',z3'⟩
 .refine⟨.non,?_,.inl rfl⟩;have e:W5 [.lst [ji t],.lst [.int d],.int 8]=Qt:=cz (fs:=[t]) (ds:=[d]) rfl () X Y z;unfold Qt at e;generalize ji t=td at *;generalize JD ps=bk at *;simp[Wg,W7,ft,e]
 have lt':=T'.len;have P:W5 [.lst [ji t],.lst [.int d],.int 8]=.ok (ji (JL j3 (t'.map jr))):=pe (fs:=[t]) (ds:=[d]) rfl () X Y z1 T'.cn.rows ();have L:=Qr (ltb:=j3) (t'.map jr);have Z:∀b,b∈JL j3 (t'.map jr)↔∃q∈t',jr q=b:=by grind
 have lb:(JL j3 (t'.map jr)).length=t'.length:=by rw[L.length_eq,Zql]
 generalize JL j3 (t'.map jr)=bs at *;have hc:∀hs,J7 t' hs=J7 t hs-d:=λhs=>by
  rw[z3' hs];show J7 (JO t (-d)) hs=_;rw[T.comes];lia
 obtain⟨M,N⟩:∃M,M=Es 8 t:=⟨_,rfl⟩;have v:W6 [ji t,.int 8]=Et M:=by
  rw[N];have R:=T.cn.ne;have s:=T.cn.rows
  revert R s lt
  cases t with
  |nil=>exact λ_ h=>Zn rfl h
  |cons r rs =>
   intro lt _ s;rw[Zu] at lt;exact fm s () () () λi t g _ l H=>by
    obtain⟨q,I,rfl⟩:=Ja.mp (Ug H);have Q:=s q (Zqm _ I);have lg:(xR (jr q)).length<=12:=by rw[Mh];exact Q.len
    have e:=LA (f:=t) (Ae Q.ne);have l:t.length<=8:=()
    have m:=Ve l lg;lia
 cases M with
 |none =>
  refine⟨.non,?_,.inl rfl⟩;have v:W6 [ji t,.int 8]=.ex "TooMany" []:=v;generalize ji t=td at *;generalize ji bs=bd at *;generalize JD ps=bk at *;simp[Wg,W7,ft,P,v]
 |some u =>
  have v:W6 [ji t,.int 8]=.ok (ji (JL j3 (u.map jr))):=v;have A:AllOk (yB t) u/\(u.length:Int)<=8/\u ≠ []:=by
   have R:=T.cn.ne;have s:=T.cn.rows
   revert R s N
   cases t with
   |nil=>exact λ_ h=>Zn rfl h
   |cons r rs=>exact λN _ s=>cj s N.symm
  obtain⟨A,lu,un⟩:=A;have L:=Qr (ltb:=j3) (u.map jr);have J:∀c,c∈JL j3 (u.map jr)↔∃q∈u,jr q=c:=λb=>L.mem_iff.trans List.mem_map;have lc:(JL j3 (u.map jr)).length=u.length:=by rw[L.length_eq,Zql]
  generalize JL j3 (u.map jr)=o at *;have S:∀f ∈ [o],∀r∈f,JRow r:=λf G r a=>by
   rw[Jd.mp G] at a;obtain⟨q,I,rfl⟩:=(J r).mp a;exact ZU (A.row q I)
  have K:∀f ∈ [o],f.length<=1000:=λf G=>by rw[Jd.mp G];lia
  have wn:JO (o.map jr) f ≠ []:=λz=>un (Jo.mp (by rw[<- lc,<- Zql (f:=jr),<- Zql (f:=λr=>Qe r f)];exact Zt List.length z));have wr:∀r∈JO (o.map jr) f,JRow r:=λr a=>by
   obtain⟨x,hx,rfl⟩:=Ja.mp a;obtain⟨y,hy,rfl⟩:=Ja.mp hx;exact LC (ZU (S o Zqs y hy))
  have wl:(JO (o.map jr) f).length<=8:=by unfold JO;rw[Zql,Zql];lia
  have O:=El (f:=JO (o.map jr) f) (fs:=[]) (most:=8) ⟨wn,wr⟩ (λ_ h=>nomatch h) () () () () λi t g _ _ H=>by simp at H
  cases q:xj 8 (JO (o.map jr) f) [] with
  |none =>
   rw[q] at O;refine⟨.non,?_,.inl rfl⟩;have e:W4 [.lst [ji o],.lst [.int f],.int 8]=Qt:=cV (fs:=[o]) (ds:=[f]) rfl () S K O;unfold Qt at e;generalize ji t=td at *;generalize ji bs=bd at *;generalize ji o=cd at *;generalize JD ps=bk at *;simp[Wg,W7,ft,P,v,e]
  |some es =>
   rw[q] at O;obtain⟨E,le,en⟩:=ZG (fs:=[]) ⟨wn,wr⟩ (λ_ h=>nomatch h) q;have e:W4 [.lst [ji o],.lst [.int f],.int 8]=.ok (ji es):=pz (fs:=[o]) (ds:=[f]) rfl () S K O;obtain⟨W,nz⟩:=tj (p:=p) () T T' hc Z lb A J E () F;have bj:∀r∈bs,JRow r:=λr a=>by
    obtain⟨q,I,rfl⟩:=(Z r).mp a;exact ZU (T'.cn.rows q I)
   have fw:=gY (ls:=bs) (es:=es) (λr a=>(bj r a).once) (λr a=>by have:=(bj r a).len;lia) (λr a=>by have:=(E.row r a).len;lia) () ();refine⟨.lst ((qi bs es).map qk),?_,.inr ⟨_,_,rfl,W,nz⟩⟩;generalize (qi bs es).map qk=wd at *;generalize ji t=td at *;generalize ji bs=bd at *;generalize ji o=cd at *;generalize ji es=ed at *;generalize JD ps=bk at *;simp[Wg,W7,ft,P,v,e,fw]
def w1:FS:=(jl (j4 5 (J5 XF (J0 (jb 0) (J0 (jb 4) jc)))) (jl (j4 6 (J5 Wg (J0 (jb 2) (J0 (jg jA (jg jA (jb 1) (jb 4)) (dC (.int 0))) (J0 (jg jA (jb 5) (dC (.int 0))) (J0 (jg jA (jb 5) (dC (.int 1))) jc)))))) (jl (xX (Wn (JG (qV (xU true) (jb 6))) (JG (jg zQ (jg wx (j8 jP (J0 (jb 6) jc)) (dC (.int 0))) (jg zR (jg jA (jb 5) (dC (.int 0))) (jg jA (jb 5) (dC (.int 1))))))) (j6 (dC (.bl false))) Qh) (Q4 3 (qm (J0 (jg jA (jb 1) (jb 4)) (J0 (jb 5) (J0 (jb 6) jc))))))))
def w2:FS:=(jl (j4 9 (V2 3 (jg jJ (jb 7) (y8 [3] (j8 jP (J0 (jb 3) jc)))))) (jl (qj 10 (J5 ZR (J0 (jb 0) (J0 (jb 8) (J0 (jb 7) (J0 (jg jA (jg jA (jb 9) (dC (.int 0))) (dC (.int 1))) jc)))))) (jl (wL (Bv (JG (qV (xU true) (jg jA (jb 9) (dC (.int 2))))) (Bu (Bt (zo 10 (Kj ZO (J0 (jb 10) (J0 (jb 8) (J0 (jb 2) (J0 (jb 9) jc))))))))) (j6 (dC (.bl false))) Qh) (j4 7 (jg j1 (jb 7) (dC (.int 1)))))))
structure PtO (ns:Yh)(ps:List Pl)(xs:YG):Prop where
 le:xs.length<=ps.length
 at_:∀(i:Nat) (p:Pl) (y:D),ps[i]? = some p->xs[i]? = some y->∃x,y=.tup [jo p,.tup [.int (Q8 ns i).1,.int (Q8 ns i).2],x]/\sI ps p (Q8 ns i).1 (Q8 ns i).2 x
section
variable {ns:Yh}{ps:List Pl}{xs:YG}
def uu (j:ns.length<=1000)(B:BkP ps)(A:ps.length<=3)(R:PtO ns ps xs)(C:xs.length<ps.length)(l u6 u7 u8 u9 c:Option SV):∃y m n,PtO ns ps (xs++[y])/\w1 [~~~(.scr ns),~~~(.lst (ps.map jo)),~~~(JD ps),some (.own false (.lst xs)),~~~(.int (xs.length:Nat)),l,u6,u7,u8,u9,c]=.ok (.next [~~~(.scr ns),~~~(.lst (ps.map jo)),~~~(JD ps),some (.own false (.lst (xs++[y]))),~~~(.int (xs.length:Nat)),m,n,u7,u8,u9,c]):=by
 have hp:ps[xs.length]? = some ps[xs.length]:=by simp
 generalize ps[xs.length]=p at hp;have E:=Lp hp;have F:=wE p;have G:=gM (ns:=ns) j (p:=xs.length) ();obtain⟨x,H,P⟩:=cy B hp (Q8 ns xs.length).1 (Q8 ns xs.length).2;refine⟨.tup [jo p,.tup [.int (Q8 ns xs.length).1,.int (Q8 ns xs.length).2],x],~~~(.tup [.int (Q8 ns xs.length).1,.int (Q8 ns xs.length).2]),~~~x,⟨by rw[Ub,Uj];lia,λi q y g f=>?_⟩,?_⟩
 .by_cases z:i<xs.length
  .rw[UR z] at f;exact R.at_ i q y g f
  .have e:i=xs.length:=by
    have:=(Jc.mp f).1;rw[Ub,Uj] at this;lia
   subst e;rw[US (Zf _),Nat.sub_self] at f;cases f;rw[hp] at g;cases g;exact⟨x,rfl,P⟩
 .have I:=JU (show xs.length<=1000 from ());generalize (Q8 ns xs.length).1=a at *;generalize (Q8 ns xs.length).2=b at *;have o:jA (.tup [.int a,.int b]) (.int 0)=some (.int a):=rfl;have r:jA (.tup [.int a,.int b]) (.int 1)=some (.int b):=rfl;have s:Wn (JG (qV (xU true) (jb 6))) (JG (jg zQ (jg wx (j8 jP (J0 (jb 6) jc)) (dC (.int 0))) (jg zR (jg jA (jb 5) (dC (.int 0))) (jg jA (jb 5) (dC (.int 1)))))) [~~~(.scr ns),~~~(.lst (ps.map jo)),~~~(JD ps),some (.own false (.lst xs)),~~~(.int (xs.length:Nat)),~~~(.tup [.int a,.int b]),~~~x,u7,u8,u9,c]=.ok false:=by
   rcases P with rfl|⟨ws,cm,rfl,_,nz⟩
   .simp[xU]
   .have t:xU true (.lst (ws.map qk))=some (.bl true):=rfl;have u:jP [.lst (ws.map qk)]=some (.int (ws.length:Nat)):=by rw[AT,Zql]
    have h:wx (.int (ws.length:Nat)) (.int 0)=some (.bl (decide (0<ws.length))):=by
     show some (D.bl (decide ((0:Int)<(ws.length:Int))))=_
     congr 2
     rw[decide_eq_decide];lia
    have v:zR (.int a) (.int b)=some (.bl (decide (a<=b))):=rfl;have w:∀b:Bool,zQ (.bl b) (.bl b)=some (.bl false):=by simp
    rw[nz] at h;simp[t,u,h,o,r,v,w]
  simp_all [w1]
def ut (q:ns.length<=1000)(B:BkP ps)(I:1<=ps.length)(R:PtO ns ps xs)(r:xs.length=ps.length){t:Nat}(J:t<=100)(c:Int)(g h u6 u9 l:Option SV):∃s m,w2 [~~~(.scr ns),~~~(.lst (ps.map jo)),~~~(JD ps),some (.own false (.lst xs)),g,h,u6,~~~(.int t),~~~(.int c),u9,l]=.ok (.next [~~~(.scr ns),~~~(.lst (ps.map jo)),~~~(JD ps),some (.own false (.lst xs)),g,h,u6,~~~(.int ((t:Int)+1)),~~~(.int c),s,m]):=by
 have u:jP [.lst xs]=some (.int (ps.length:Nat)):=by rw[AT,r]
 have o:=X1 (i:=(t:Int)) (j:=(ps.length:Int)) ();have K:=()
 have L:=Vd (t:Int) (show(0:Int)<ps.length by lia);obtain⟨i,ei⟩:∃i:Nat,(t:Int) % (ps.length:Int)=(i:Int):=⟨((t:Int) % (ps.length:Int)).toNat,()⟩;rw[ei] at o;have M:i<ps.length:=()
 have hp:ps[i]? = some ps[i]:=by simp
 generalize ps[i]=p at hp;have n:xs[i]? = some (xs[i]'()):=by simp
 generalize xs[i]'()=y at n;obtain⟨x,rfl,P⟩:=R.at_ i p y hp n;have v:qo xs (i:Int)=some (.tup [jo p,.tup [.int (Q8 ns i).1,.int (Q8 ns i).2],x]):=by rw[XA (),n]
 have N:=(B.ok i p hp).g2;obtain⟨hs,w,z⟩:=gR q c (at_:=t) (many:=p.givens.length) () ();have A:=vz p;generalize (Q8 ns i).1=a at *;generalize (Q8 ns i).2=b at *;have C:jA (.tup [jo p,.tup [.int a,.int b],x]) (.int 0)=some (jo p):=rfl;have E:jA (.tup [jo p,.tup [.int a,.int b],x]) (.int 2)=some x:=rfl;rcases P with rfl|⟨ws,cm,rfl,W,_⟩
 .simp_all [w2,xU,GM]
 .obtain⟨f,e⟩:=gL W c w;have F:xU true (.lst (ws.map qk))=some (.bl true):=rfl;refine⟨~~~(.tup [jo p,.tup [.int a,.int b],.lst (ws.map qk)]),some (.own false (.lst (f.map .int))),?_⟩;have G:zo 10 (Kj ZO (J0 (jb 10) (J0 (jb 8) (J0 (jb 2) (J0 (jb 9) jc))))) [~~~(.scr ns),~~~(.lst (ps.map jo)),~~~(JD ps),some (.own false (.lst xs)),g,h,u6,~~~(.int t),~~~(.int c),~~~(.tup [jo p,.tup [.int a,.int b],.lst (ws.map qk)]),some (.own false (.lst (hs.map .int)))]=.ok (.bl true,[~~~(.scr ns),~~~(.lst (ps.map jo)),~~~(JD ps),some (.own false (.lst xs)),g,h,u6,~~~(.int t),~~~(.int c),~~~(.tup [jo p,.tup [.int a,.int b],.lst (ws.map qk)]),some (.own false (.lst (f.map .int)))]):=by
   unfold zo;refine TJ λH=>?_;have e:=e H;generalize D.tup [jo p,.tup [.int a,.int b],.lst (ws.map qk)]=pt at *;generalize ps.map jo=PD at *;generalize JD ps=bk at *;generalize hs.map D.int=hd at *;simp[e,jz]
  unfold w2;simp[u,o,v,C,A,z,E,F,G]
end
def zP (ns:Yh)(h:ns.length<=63):vx [.scr ns]=.ok (.bl true):=by
 have m:ns.length<=1000:=()
 obtain⟨ps,u,B,N,v,w⟩:=gU m;have z:=gS m B N;have O:=JU ();have A:jP [.lst (ps.map jo)]=some (.int (ps.length:Nat)):=by rw[AT,Zql]
 have C:V3 [.int (ps.length:Nat)]=.ok (Qd 0 ps.length):=by rw[WW () ()];rfl
 have E:j1 (.lst [.int 0]) (.lst (ns.map .int))=some (.lst ((0::ns).map .int)):=by
  show(if 1+(ns.map D.int).length<=sizeLine then _ else _)=_;rw[Zql,Zd (QQ ())];rfl
 have q:Ah [~~~(.scr ns),none,none,none,none,none,none,none,none,none,none]=.ok (.ret (.bl true)):=by
  unfold Ah;refine zf (sd':=[~~~(.scr ns),~~~(.lst (ps.map jo)),none,none,none,none,none,none,none,none,none]) (by
   generalize ps.map jo=PD at *;simp[u]) ?_
  refine zf (sd':=[~~~(.scr ns),~~~(.lst (ps.map jo)),~~~(JD ps),none,none,none,none,none,none,none,none]) (by
   generalize ps.map jo=PD at *;generalize JD ps=bk at *;simp[z]) ?_
  refine zf (sd':=[~~~(.scr ns),~~~(.lst (ps.map jo)),~~~(JD ps),some (.own false (.lst [])),none,none,none,none,none,none,none]) () ?_;obtain⟨F,G,a,j,f,u6,l,R,r⟩:=KB (tg:=.one 4) (b:=w1) (ds:=Qd 0 ps.length) (sd:=[~~~(.scr ns),~~~(.lst (ps.map jo)),~~~(JD ps),some (.own false (.lst [])),none,none,none,none,none,none,none])
   (P:=λi sd=>∃a j f u6,sd=[~~~(.scr ns),~~~(.lst (ps.map jo)),~~~(JD ps),some (.own false (.lst a)),j,f,u6,none,none,none,none]/\PtO ns ps a/\a.length=i) ⟨[],none,none,none,rfl,⟨Ua _,λi p y _ h=>by simp at h⟩,rfl⟩ (by
    rintro i x sd n ⟨a,j,f,u6,rfl,R,rfl⟩;obtain⟨rfl,H⟩:=YT n;rw[Int.zero_add];have ⟨y,Q,S,I,e⟩:=uu m B w R H f u6 none none none none;exact⟨_,e,_,_,_,_,rfl,I,by rw[Ub,Uj]⟩)
  subst l;rw[WX] at r;refine zf (Eq.trans ?_ G) ?_
  .show jZ _ (.one 4) w1 _=_;simp[A,C]
  refine zf (sd':=[~~~(.scr ns),~~~(.lst (ps.map jo)),~~~(JD ps),some (.own false (.lst a)),j,f,u6,~~~(.int 0),none,none,none]) () ?_;obtain⟨J,K,T,L,o,s⟩:=KB (tg:=.one 8) (b:=w2) (ds:=(0::ns).map .int)
   (P:=λi sd=>∃u8 u9 g,sd=[~~~(.scr ns),~~~(.lst (ps.map jo)),~~~(JD ps),some (.own false (.lst a)),j,f,u6,~~~(.int (i:Int)),u8,u9,g]) ⟨none,none,none,rfl⟩ (by
    rintro i x sd n ⟨u8,u9,g,rfl⟩;have M:=(Jc.mp n).1;rw[Zql,Zu] at M;obtain⟨c,_,rfl⟩:=Kt n;have ⟨L,o,e⟩:=ut m B v R r (t:=i) () c j f u6 u9 g;exact⟨_,e,_,_,_,rfl⟩)
  refine zf (Eq.trans ?_ K) ?_
  .show jZ _ (.one 8) w2 _=_;simp[E]
  .simp
 simp_all [vx]
end My
set_option maxHeartbeats 4000000
namespace My
open PySem L2 L2.DL
def wF (i:Nat):Stmt:=PySem.Challenge.pw_allfirst_k70_whole_windows_by_runs.main.body.getD i (.Pass ⟨0,0,0,0⟩)
abbrev tbl:List (Str×Nat):=List.zip (List.map Str.ofString ["told_hour", "made_hour", "plan_by", "hours_of", "_law_between", "_law_inside", "keeps_earliest", "keeps_latest", "_law_kept", "_law_asked", "_law_cell", "_law_name", "_law_book", "_law_number", "_law_ends", "_law_hours", "fits_in", "is_covered", "joined", "each_joined", "lowest", "form_within", "all_of", "opposite", "opposites", "shifted", "waited", "earliest", "latest", "first_of", "put_into_row", "put_into", "made_form", "thing_form", "forms_knowing", "forms_of", "told_form", "single_rows", "turned", "can_keep_both", "windows", "_law_pairs", "_law_wait", "_law_made", "_law_plans"]) [42,43,34,41,57,55,28,27,56,59,46,48,52,47,58,53,5,9,6,17,8,18,14,21,22,7,12,26,25,13,16,15,39,11,38,36,37,23,20,30,29,54,49,50,51]
abbrev bl:Yk:=List.map Str.ofString ["all", "dict", "len", "list", "max", "min", "range", "set", "sorted", "str", "tuple", "zip"]
structure All (e:Ev):Prop extends Al e wF tbl bl where
 x_TooMany:Exc e.K e.mg "TooMany" (e.C 0)
 k_Book:ClsD e.K e.mg "Book" (e.C 1) ["plans"]
 l_Book:∃f fd,Mk e.K (e.C 1) f/\Fun e.K "__init__" "Book.__init__" (Aw (wF 33) 0) f fd
 k_Plan:ClsD e.K e.mg "Plan" (e.C 2) ["name", "givens", "rows"]
 l_Plan:∃f fd,Mk e.K (e.C 2) f/\Fun e.K "__init__" "Plan.__init__" (Aw (wF 32) 0) f fd
section
variable {e:Ev}{k j:Nat}
def tG (a:All e):r8 e.P e.w e.K e.mg e.base "Book" ["plans"] 1 ["self", "plans"] Ed:=by
 obtain⟨f,h,c,b⟩:=a.l_Book;have m:=a.m;have k:=a.k_Book;exact⟨_,_,_,k,c,gF (k:=0) (N:=["plans"]) (g:=(J0 (j8 QU (J0 (jb 1) jc)) jc)) b (JK (N:=["self", "plans"])) (by decide) (by decide) λ_ _ _ _ _ _ i=>(Bg k (by decide) (pv 0) (jq (KN (x:= "list") WS rfl (JH m) WG (J1 (qv 1) J2))) Iy),b.binds λ_ _ _ _ _ _=>mj λ_ _=>rfl⟩
def tU (a:All e):r8 e.P e.w e.K e.mg e.base "Plan" ["name", "givens", "rows"] 1 ["self", "name", "givens", "rows"] B4:=by
 obtain⟨f,h,c,b⟩:=a.l_Plan;have m:=a.m;have k:=a.k_Plan;exact⟨_,_,_,k,c,gF (k:=0) (N:=["name", "givens", "rows"]) (g:=(J0 (jb 1) (J0 (j8 QU (J0 (jb 2) jc)) (J0 (j8 QU (J0 (jb 3) jc)) jc)))) b (JK (N:=["self", "name", "givens", "rows"])) (by decide) (by decide) λ_ _ _ _ _ _ i=>(Bg k (by decide) (pv 0) (qv 1) (Bg k (by decide) (pv 0) (jq (KN (x:= "list") WS rfl (JH m) WG (J1 (qv 2) J2))) (Bg k (by decide) (pv 0) (jq (KN (x:= "list") WS rfl (JH m) WG (J1 (qv 3) J2))) Iy))),b.binds λ_ _ _ _ _ _=>mi λ_ _ _ _=>rfl⟩
def Mn (a:All e):Ca e "plan_by" 1 ["book", "name"] (qJ e.K ZL):=
 qN a.toAl 2 34 λF=>ql (N:=["book", "name", "plan"]) (g:=B5) F JK λ_ _ _ _ _ _ f=>by
 have b:=a.k_Book;have c:=a.k_Plan;unfold B5;exact(JA (Q9 PassesOwn.never rfl (JW (Z7 b (by decide) (qv 0))) (Qc (JZ j5 rfl (.inl rfl))) (J9 (QR (QC (xJ f.units) (Z7 c (by decide) (qv 2)) (qv 1) (Ql _)) (J9 (JP (qv 2))) QF))) (J9 uX))
def Mo (a:All e)(b:Ca e "hours_of" (1+k) ["book", "name", "hours"] (qJ e.K (VZ j))):Ca e "told_hour" (1+k+1) ["book", "name", "hours"] (qJ e.K (Kv j)):=
 qN a.toAl 0 42 λF=>ql (N:=["book", "name", "hours"]) (g:=(ZK (VZ j))) F JK λ_ _ _ _ _ _ c=>by
 unfold ZK;exact(J9 (JP (JN (JI c) (jF b c rfl (J1 (qv 0) (J1 (qv 1) (J1 (qv 2) J2)))) (yZ WP J3) (λ_ _=>rfl) (λ_ _=>rfl))))
def Mp (a:All e)(b:Ca e "told_hour" (1+k) ["book", "name", "hours"] (qJ e.K (Kv j))):Ca e "made_hour" (1+k+1) ["book", "how", "hours"] (qJ e.K (Kw j)):=
 qN a.toAl 1 43 λF=>ql (N:=["book", "how", "hours"]) (g:=(Xc (Kv j))) F JK λ_ _ _ _ _ _ c=>by
 have m:=a.m;unfold Xc;exact(JA (QR (QC (xJ c.units) (qv 1) WL (Ql _)) (J9 (JP (Q3 (x:= "max") (P5 rfl) rfl (JH m) Ft (J1 (qv 2) J2)))) QF) (JA (QR (QC (xJ c.units) (qv 1) WL (Ql _)) (J9 (JP (Q3 (x:= "min") (P6 rfl) rfl (JH m) Ox (J1 (qv 2) J2)))) QF) (J9 (JP (jF b c rfl (J1 (qv 0) (J1 (qv 1) (J1 (qv 2) J2))))))))
def dv (a:All e)(c:Ca e "made_hour" (1+k) ["book", "how", "hours"] (qJ e.K (Kw j))):Ca e "hours_of" (1+k+1) ["book", "name", "hours"] (qJ e.K (VZ (j+1))):=
 qN a.toAl 3 41 λF=>ql (N:=["book", "name", "hours", "told", "made", "how", "items"]) (g:=(ZM (Kw j))) F JK λ_ _ _ _ _ _ h=>by
 have m:=a.m;have f:=(Mn a).mono (k:=(1+k)) ();have b:=a.k_Plan;unfold ZM;exact(JA (Kc j5 rfl (.inr rfl) (KN (x:= "list") WS rfl (JH m) WG (J1 (qv 2) J2))) (JA (Q9 PassesOwn.never rfl (JW (Z7 b (by decide) (jF f h rfl (J1 (qv 0) (J1 (qv 1) J2))))) (Kd [4,5,6] (QZ rfl (JX (JZ j5 rfl (.inl rfl)) (JX (JZ j5 rfl (.inl rfl)) (JX (JZ j5 rfl (.inl rfl)) QY))))) (J9 (Wo (pv 3) (Y9 [3] (jF c h rfl (J1 (qv 0) (J1 (qv 5) (J1 (jq (Kh ["thing", "wait", "told"] [none,none,some 3] rfl rfl (JW (qv 6)) (λ_ _ _ _ _=>(Kd [0,1] (QZ rfl (JX (qU 0 j5) (JX (qU 1 j5) QY))))) (λ_ _ _ _ _=>(jj JS (JN (JI h) (qv 2) (qv 0) (λ_ _=>rfl) (λ_ _=>rfl)) (qv 1))))) J2))))) (λi l=>K6 Yy Yz YA KS i l)))) (J9 (Xt [3] (JP (qv 3))))))
theorem Mq (a:All e):∀j,Ca e "hours_of" (1+3*j) ["book", "name", "hours"] (qJ e.K (VZ j))
 | 0=>qN a.toAl 3 41 λ_=>gE
 |j+1=>dv (k:=3*j+2) a (Mp (k:=3*j+1) a (Mo (k:=3*j+0) a (Mq a j)))
def tF (a:All e):Ca e "hours_of" 13 ["book", "name", "hours"] (qJ e.K (VZ 4)):=Mq a 4
def Mr (a:All e):Ca e "told_hour" 14 ["book", "name", "hours"] (qJ e.K (Kv 4)):=Mo (k:=12) a (tF a)
def mR (a:All e):Ca e "made_hour" 15 ["book", "how", "hours"] (qJ e.K (Kw 4)):=Mp (k:=13) a (Mr a)
def dk (a:All e):Ca e "_law_between" 15 ["book", "plan", "ends", "hours"] (qJ e.K Wa):=
 qN a.toAl 4 57 λF=>ql (N:=["book", "plan", "ends", "hours", "hour"]) (g:=B6) F JK λ_ _ _ _ _ _ c=>by
 have m:=a.m;have b:=(Mr a).mono (k:=14) ();unfold B6;exact(JA (JT j5 rfl (.inl rfl) (jF b c rfl (J1 (qv 0) (J1 (JN (JI c) (qv 1) J3 (λ_ _=>rfl) (λ_ _=>rfl)) (J1 (jq (KN (x:= "list") WS rfl (JH m) WG (J1 (qv 3) J2))) J2))))) (J9 (JP (Gs (WM wO (JN (JI c) (qv 2) J3 (λ_ _=>rfl) (λ_ _=>rfl)) (qv 4) (Ql _)) (Gr (WM wO (qv 4) (JN (JI c) (qv 2) J3 (λ_ _=>rfl) (λ_ _=>rfl)) (Ql _)))))))
def tH (a:All e):Ca e "_law_inside" 1 ["hours", "window"] (wa e.K Ee):=
 qN a.toAl 5 55 λF=>II (N:=["hours", "window", "pair"]) (g:=B7) F JK λ_ _ _ _ _ _ b=>by
 unfold B7;exact(W0 (m:=none) (DH PassesOwn.never rfl (JW (JN (JI b) (qv 1) J3 (λ_ _=>rfl) (λ_ _=>rfl))) (Qc (JZ j5 rfl (.inl rfl))) (Bk (IG (qv 0) (JN (JI b) (qv 2) J3 (λ_ _=>rfl) (λ_ _=>rfl)) (KG (JN (JI b) (qv 2) J3 (λ_ _=>rfl) (λ_ _=>rfl)))))) (W0 (m:=none) (DH PassesOwn.never rfl (JW (JN (JI b) (qv 1) J3 (λ_ _=>rfl) (λ_ _=>rfl))) (Qc (JZ j5 rfl (.inl rfl))) (Bk (IG (qv 0) (JN (JI b) (qv 2) J3 (λ_ _=>rfl) (λ_ _=>rfl)) (KG (JN (JI b) (qv 2) J3 (λ_ _=>rfl) (λ_ _=>rfl)))))) (Wz (KG (qv 0)))))
def tX (a:All e):Ca e "keeps_earliest" 1 ["box", "hours"] (qJ e.K B9):=
 qN a.toAl 6 28 λF=>ql (N:=["box", "hours"]) (g:=B8) F JK λ_ _ _ _ _ _ b=>by
 have m:=a.m;unfold B8;exact(J9 (JP (Q3 (x:= "all") (Ds rfl) rfl (JH m) Du (J1 (jq (Kh ["thing", "hour", "hours"] [none,none,some 1] rfl rfl (JW (qv 0)) (λ_ _ _ _ _=>(Kd [0,1] (QZ rfl (JX (qU 0 j5) (JX (qU 1 j5) QY))))) (λ_ _ _ _ _=>(WM kJ (JN (JI b) (qv 2) (qv 0) (λ_ _=>rfl) (λ_ _=>rfl)) (qv 1) (Ql _))))) J2))))
def tO (a:All e):Ca e "keeps_latest" 1 ["box", "hours"] (qJ e.K BB):=
 qN a.toAl 7 27 λF=>ql (N:=["box", "hours"]) (g:=BA) F JK λ_ _ _ _ _ _ b=>by
 have m:=a.m;unfold BA;exact(J9 (JP (Q3 (x:= "all") (Ds rfl) rfl (JH m) Du (J1 (jq (Kh ["thing", "hour", "hours"] [none,none,some 1] rfl rfl (JW (qv 0)) (λ_ _ _ _ _=>(Kd [0,1] (QZ rfl (JX (qU 0 j5) (JX (qU 1 j5) QY))))) (λ_ _ _ _ _=>(WM wO (JN (JI b) (qv 2) (qv 0) (λ_ _=>rfl) (λ_ _=>rfl)) (qv 1) (Ql _))))) J2))))
def t4 (a:All e):Ca e "_law_kept" 2 ["pairs", "hours"] (qJ e.K Wb):=
 qN a.toAl 8 56 λF=>ql (N:=["pairs", "hours", "pair"]) (g:=BC) F JK λ_ _ _ _ _ _ f=>by
 have b:=(tX a).mono (k:=1) ();have c:=(tO a).mono (k:=1) ();unfold BC;exact(JA (Q9 PassesOwn.never rfl (JW (qv 0)) (Qc (JZ j5 rfl (.inl rfl))) (J9 (QR (zl (CT (KZ (jF c f rfl (J1 (JN (JI f) (qv 2) J3 (λ_ _=>rfl) (λ_ _=>rfl)) (J1 (qv 1) J2)))) (CS (KZ (jF b f rfl (J1 (JN (JI f) (qv 2) J3 (λ_ _=>rfl) (λ_ _=>rfl)) (J1 (qv 1) J2))))))) (J9 (JP K7)) QF))) (J9 (JP K7)))
def sR (a:All e):Ca e "_law_asked" 16 ["hours", "cell", "book", "part"] (wa e.K ZO):=
 qN a.toAl 9 59 λF=>II (N:=["hours", "cell", "book", "part", "plan", "ends", "pairs", "inner"]) (g:=ZN) F JK λ_ _ _ _ _ _ f=>by
 have m:=a.m;have b:=(dk a).mono (k:=15) ();have h:=(tH a).mono (k:=15) ();have c:=(t4 a).mono (k:=15) ();unfold ZN;exact(W0 (m:=none) (Bi (Tu (qv 3) (Kd [4,5,6] (QZ rfl (JX (JZ j5 rfl (.inl rfl)) (JX (JZ j5 rfl (.inl rfl)) (JX (JZ j5 rfl (.inl rfl)) QY))))))) (Bm (d7 [0] (QC (kI f.units) (jF b f rfl (J1 (qv 2) (J1 (qv 4) (J1 (qv 5) (J1 (qv 0) J2))))) (jF c f rfl (J1 (qv 6) (J1 (qv 0) J2))) (Ql _))) (Wz (KG K7)) (Bm (DM (QC (xJ f.units) (Q3 (x:= "len") Kp rfl (JH m) Km (J1 (qv 6) J2)) J3 (Ql _))) (Wz (KG K7)) (W0 (m:=none) (TF j5 rfl (.inl rfl) (IJ h f rfl (J1 (qv 0) (J1 (JN (JI f) (qv 6) (jj Qi (qv 1) (Q3 (x:= "len") Kp rfl (JH m) Km (J1 (qv 6) J2))) (λ_ _=>rfl) (λ_ _=>rfl)) J2)))) (Wz (TN [7] (Gs (jF b f rfl (J1 (qv 2) (J1 (qv 4) (J1 (qv 5) (J1 (qv 7) J2))))) (Gr (jF c f rfl (J1 (qv 6) (J1 (qv 7) J2)))))))))))
def Aj (a:All e):Ca e "_law_cell" 1 ["script", "k"] (qJ e.K Q6):=
 qN a.toAl 10 46 λF=>ql (N:=["script", "k", "turn"]) (g:=ZP) F JK λ_ _ _ _ _ _ b=>by
 have m:=a.m;unfold ZP;exact(JA (QR (QC (xJ b.units) (Q3 (x:= "len") Kp rfl (JH m) Km (J1 (qv 0) J2)) J3 (Ql _)) (J9 (JP (qv 1))) QF) (JA (JT j5 rfl (.inl rfl) (jj QH (qv 1) (Q3 (x:= "len") Kp rfl (JH m) Km (J1 (qv 0) J2)))) (J9 (JP (jj JS (jj QH (jj Qi (JN (JI b) (qv 0) (jj Qi (qv 1) (Q3 (x:= "len") Kp rfl (JH m) Km (J1 (qv 0) J2))) (λ_ _=>rfl) (λ_ _=>rfl)) (jj Wq J3 J3)) (jj JS J3 (qv 2))) (jj V0 (qv 2) (qv 1)))))))
def Ew (a:All e):Ca e "_law_name" 2 ["script", "k"] (qJ e.K Kx):=
 qN a.toAl 11 48 λF=>ql (N:=["script", "k", "cell", "letters", "one", "two"]) (g:=XD) F JK λ_ _ _ _ _ _ c=>by
 have m:=a.m;have b:=(Aj a).mono (k:=1) ();unfold XD;exact(JA (JT j5 rfl (.inl rfl) (jF b c rfl (J1 (qv 0) (J1 J3 J2)))) (JA (JT j5 rfl (.inl rfl) WL) (JA (JT j5 rfl (.inl rfl) (JN (JI c) (qv 3) (jj Qi (jj QH (qv 2) J3) J3) (λ_ _=>rfl) (λ_ _=>rfl))) (JA (JT j5 rfl (.inl rfl) (JN (JI c) (qv 3) (jj Qi (jj QH (qv 2) J3) J3) (λ_ _=>rfl) (λ_ _=>rfl))) (J9 (JP (JN (JI c) (jq (QD (J1 (jj JS (qv 4) (WO (x:= "str") DC rfl (JH m) C8 (J1 (qv 1) J2))) (J1 (jj JS (jj JS (qv 4) (WO (x:= "str") DC rfl (JH m) C8 (J1 (qv 1) J2))) (qv 5)) (J1 (jj JS (jj JS (qv 4) (qv 5)) (WO (x:= "str") DC rfl (JH m) C8 (J1 (qv 1) J2))) J2))))) (jj Qi (qv 2) J3) (λ_ _=>rfl) (λ_ _=>rfl))))))))
def tY (a:All e):Ca e "_law_book" 3 ["script", "plans"] (yM e.K BF):=
 qN a.toAl 12 52 λF=>yg (N:=["script", "plans", "made", "plan", "givens"]) (g:=BE) F JK λ_ _ _ _ _ _ h=>by
 have m:=a.m;have f:=(Ew a).mono (k:=2) ();have b:=tG a;have c:=tU a;unfold BE;exact(JA (Kc j5 rfl (.inl rfl) (QD J2)) (JA (Q9 PassesOwn.never rfl (JW (qv 1)) (Qc (JZ j5 rfl (.inl rfl))) (JA (GR ["k", "script"] [none,some 0] j5 rfl (.inl rfl) rfl rfl (WV rfl (JH m) (J1 (JN (JI h) (qv 3) J3 (λ_ _=>rfl) (λ_ _=>rfl)) J2)) (λ_ _ _ _ _=>(Qc (qU 0 j5))) (λ_ _ _ _ _=>(jF f h rfl (J1 (qv 1) (J1 (jj JS J3 (qv 0)) J2))))) (J9 (Wo (pv 2) (jq (Iz c (h.mono ()) rfl (J1 (JN (JI h) (qv 3) J3 (λ_ _=>rfl) (λ_ _=>rfl)) (J1 (qv 4) (J1 (jq (KN (x:= "list") WS rfl (JH m) WG (J1 (JN (JI h) (qv 3) J3 (λ_ _=>rfl) (λ_ _=>rfl)) J2))) J2))))) (λi l=>K6 Yy Yz YA KS i l))))) (J9 (Xt [2] (Uk (Iz b (h.mono ()) rfl (J1 (qv 2) J2)))))))
def Ms (a:All e):Ca e "_law_number" 1 ["cell"] (qJ e.K Wc):=
 qN a.toAl 13 47 λF=>ql (N:=["cell", "far"]) (g:=XE) F JK λ_ _ _ _ _ _ b=>by
 unfold XE;exact(JA (QR (QC (xJ b.units) (jj Qi (qv 0) J3) J3 (Ql _)) (JA (JT j5 rfl (.inl rfl) (jj Qi (jj V0 (jj QH (qv 0) J3) (jj JS (jj Wq J3 J3) J3)) (jj Wq J3 J3))) (J9 (JP (JN (JI b) (jq (QD (J1 (qv 1) (J1 (yZ WP (qv 1)) J2)))) (jj Qi (jj QH (qv 0) J3) J3) (λ_ _=>rfl) (λ_ _=>rfl))))) QF) (J9 (JP (jj YO (jj Qi (jj QH (qv 0) J3) J3) J3))))
def sY (a:All e):Ca e "_law_ends" 2 ["script", "p"] (qJ e.K XF):=
 qN a.toAl 14 58 λF=>ql (N:=["script", "p", "floor", "cell"]) (g:=ZQ) F JK λ_ _ _ _ _ _ f=>by
 have b:=(Aj a).mono (k:=1) ();have c:=(Ms a).mono (k:=1) ();unfold ZQ;exact(JA (JT j5 rfl (.inl rfl) (jF c f rfl (J1 (jF b f rfl (J1 (qv 0) (J1 (jj JS J3 (jj V0 J3 (qv 1))) J2))) J2))) (JA (JT j5 rfl (.inl rfl) (jF b f rfl (J1 (qv 0) (J1 (jj JS J3 (jj V0 J3 (qv 1))) J2)))) (JA (QR (QC (xJ f.units) (jj Qi (qv 3) J3) J3 (Ql _)) (J9 (JP (K0 (J1 (qv 2) (J1 (jj YO (jj JS (qv 2) (jj Qi (jj QH (qv 3) J3) J3)) J3) J2))))) QF) (J9 (JP (K0 (J1 (qv 2) (J1 (jF c f rfl (J1 (jj QH (qv 3) J3) J2)) J2))))))))
def tS (a:All e):Ca e "_law_hours" 2 ["script", "cell", "at", "many"] (yM e.K ZR):=
 qN a.toAl 15 53 λF=>yg (N:=["script", "cell", "at", "many", "hours", "k", "own"]) (g:=BG) F JK λ_ _ _ _ _ _ f=>by
 have m:=a.m;have b:=(Aj a).mono (k:=1) ();have c:=(Ms a).mono (k:=1) ();unfold BG;exact(JA (Kc j5 rfl (.inl rfl) (QD J2)) (JA (Q9 PassesOwn.never rfl (WV rfl (JH m) (J1 (qv 3) J2)) (Qc (JZ j5 rfl (.inl rfl))) (JA (JT j5 rfl (.inl rfl) (jF b f rfl (J1 (qv 0) (J1 (jj JS (jj JS (qv 2) J3) (qv 5)) J2)))) (J9 (Wo (pv 4) (jF c f rfl (J1 (jj Qi (jj JS (jj V0 (jj JS (qv 1) (qv 6)) J3) (jj V0 J3 (qv 5))) (jj JS (jj Wq J3 J3) J3)) J2)) (λh i=>K6 Yy Yz YA KS h i))))) (J9 (Xu (pv 4)))))
def kH (a:All e):Ca e "fits_in" 1 ["row", "waits"] (qJ e.K vJ):=
 qN a.toAl 16 5 λF=>ql (N:=["row", "waits", "thing", "wait"]) (g:=vI) F JK λ_ _ _ _ _ _ b=>by
 unfold vI;exact(JA (Q9 PassesOwn.never rfl (JW (qv 0)) (Kd [2,3] (QZ rfl (JX (JZ j5 rfl (.inl rfl)) (JX (JZ j5 rfl (.inl rfl)) QY)))) (J9 (QR (zl (uW (GD b.units (qv 2) (qv 1)) (Pn (QC wP (qv 3) (JN (JI b) (qv 1) (qv 2) (λ_ _=>rfl) (λ_ _=>rfl)) (Ql _))))) (J9 (JP K7)) QF))) (J9 (JP K7)))
def Mt (a:All e):Ca e "is_covered" 2 ["row", "kept"] (qJ e.K xp):=
 qN a.toAl 17 9 λF=>ql (N:=["row", "kept", "waits", "other"]) (g:=vc) F JK λ_ _ _ _ _ _ c=>by
 have m:=a.m;have b:=(kH a).mono (k:=1) ();unfold vc;exact(JA (JT j5 rfl (.inl rfl) (jq (KN (x:= "dict") (Dh rfl) rfl (JH m) C9 (J1 (qv 0) J2)))) (JA (Q9 PassesOwn.never rfl (JW (qv 1)) (Qc (JZ j5 rfl (.inl rfl))) (J9 (QR (KZ (jF b c rfl (J1 (qv 3) (J1 (qv 2) J2)))) (J9 (JP K7)) QF))) (J9 (JP K7))))
def kG (a:All e):Ca e "joined" 1 ["row", "other"] (qJ e.K z9):=
 qN a.toAl 18 6 λF=>ql (N:=["row", "other", "waits", "thing", "wait"]) (g:=vf) F JK λ_ _ _ _ _ _ b=>by
 have m:=a.m;unfold vf;exact(JA (Kc j5 rfl (.inl rfl) (KN (x:= "dict") (Dh rfl) rfl (JH m) C9 (J1 (qv 0) J2))) (JA (Q9 PassesOwn.never rfl (JW (qv 1)) (Kd [3,4] (QZ rfl (JX (JZ j5 rfl (.inl rfl)) (JX (JZ j5 rfl (.inl rfl)) QY)))) (J9 (PK (JI b) (pv 2) (qv 3) (Q3 (x:= "max") (P4 rfl) rfl (JH m) Ft (J1 (qv 4) (J1 (Y9 [2] (GI (JI b) (qv 2) (qv 3) (qv 4) ⟨rfl,rfl,rfl,rfl⟩)) J2)))))) (J9 (Xt [2] (JP (WO (x:= "tuple") AO rfl (JH m) Az (J1 (PX (λh=>Au (OZ rfl) rfl (JH m) XY (Wh (NL PySem.F.plainAttrs_dict PySem.F.slot_dict_items PySem.F.type_dict_items OY h) W9)) (qv 2)) J2)))))))
def t9 (a:All e):Ca e "each_joined" 3 ["form", "other"] (yM e.K ZS):=
 qN a.toAl 19 17 λF=>yg (N:=["form", "other", "rows", "rest", "row"]) (g:=BH) F JK λ_ _ _ _ _ _ c=>by
 have m:=a.m;have b:=(Mt a).mono (k:=2) ();have f:=(kG a).mono (k:=2) ();unfold BH;exact(JA (Kc j5 rfl (.inl rfl) (uZ Ts (jq (Dk ["row", "other"] [none,some 1] rfl rfl (JW (qv 0)) (λ_ _ _ _ _=>(Qc (qU 0 j5))) (λ_ _ _ _ _=>(KZ (jF b c rfl (J1 (qv 0) (J1 (qv 1) J2))))) (λ_ _ _ _ _=>(qv 0)))) (jq (Dk ["row", "form"] [none,some 0] rfl rfl (JW (qv 1)) (λ_ _ _ _ _=>(Qc (qU 0 j5))) (λ_ _ _ _ _=>(KZ (jF b c rfl (J1 (qv 0) (J1 (qv 1) J2))))) (λ_ _ _ _ _=>(qv 0)))))) (JA (Rb ["row", "form"] [none,some 0] j5 rfl (.inl rfl) rfl rfl (JW (qv 1)) (λ_ _ _ _ _=>(Qc (qU 0 j5))) (λ_ _ _ _ _=>(CQ (KZ (jF b c rfl (J1 (qv 0) (J1 (qv 1) J2)))))) (λ_ _ _ _ _=>(qv 0))) (JA (Q9 PassesOwn.never rfl (JW (qv 0)) (Qc (JZ j5 rfl (.inr rfl))) (J9 (QR (CQ (KZ (jF b c rfl (J1 (qv 4) (J1 (qv 1) J2))))) (J9 (Gu (pv 2) (Kh ["other_row", "row"] [none,some 4] rfl rfl (JW (qv 3)) (λ_ _ _ _ _=>(Qc (qU 0 j5))) (λ_ _ _ _ _=>(jF f c rfl (J1 (qv 1) (J1 (qv 0) J2))))) (λh i=>K6 Yy PySem.F.slot_list_extend PySem.F.type_list_extend EX h i))) QF))) (J9 (Xu (pv 2))))))
def kE (a:All e):Ca e "lowest" 3 ["rows", "enough"] (yM e.K vh):=
 qN a.toAl 20 8 λF=>yg (N:=["rows", "enough", "kept", "row"]) (g:=vd) F JK λ_ _ _ _ _ _ c=>by
 have m:=a.m;have b:=(Mt a).mono (k:=2) ();unfold vd;exact(JA (Kc j5 rfl (.inl rfl) (QD J2)) (JA (Q9 PassesOwn.never rfl (JW (jq (SZ (λh=>L2.ST.pe_sortLen rfl (JH m) rfl (JH m) h) (J1 (jq (SN (λh=>Au (L2.ST.call_sortedSet rfl c.units) rfl (JH m) XY (Wh (Co (L2.ST.call_setRows rfl c.units) rfl (JH m) L2.bt_set h) W9)) (J1 (qv 0) J2))) J2)))) (Qc (JZ j5 rfl (.inl rfl))) (JA (QR (QC (xJ c.units) (Y9 [2] (Q3 (x:= "len") Kp rfl (JH m) Km (J1 (qv 2) J2))) (qv 1) (Ql _)) (J9 Po) QF) (J9 (QR (CQ (KZ (Y9 [2] (jF b c rfl (J1 (qv 3) (J1 (qv 2) J2)))))) (J9 (Wo (pv 2) (qv 3) (λf i=>K6 Yy Yz YA KS f i))) QF)))) (J9 (Xu (pv 2)))))
def Mu (a:All e):yE e "form_within" 4 ["rows", "most"] (xP e.K Q7):=
 xx a.toAl 21 18 λF=>Z3 (N:=["rows", "most", "kept"]) (g:=ZT) F JK λ_ _ _ _ _ _ f=>by
 have m:=a.m;have c:=(kE a).mono (k:=3) ();have b:=a.x_TooMany;unfold ZT;exact(JA (JT j5 rfl (.inl rfl) (jq (KE c f rfl (J1 (qv 0) (J1 (jj JS (qv 1) J3) J2))))) (JA (QR (QC wP (Q3 (x:= "len") Kp rfl (JH m) Km (J1 (qv 2) J2)) (qv 1) (Ql _)) (J9 (Tk Tb b rfl rfl (kb (by decide) (qv 1)))) QF) (J9 (Uk (CV (x:= "sorted") (Dr f.units) rfl (JH m) XY (J1 (qv 2) J2))))))
def Ak (a:All e):yE e "all_of" 5 ["forms", "most"] (x8 e.K qB):=
 xx a.toAl 22 14 λF=>Z1 (N:=["forms", "most", "told", "form"]) (g:=wm) F JK λ_ _ _ _ _ _ f=>by
 have c:=(t9 a).mono (k:=4) ();have b:=(Mu a).mono (k:=4) ();unfold wm;exact(JA (JT j5 rfl (.inl rfl) (jq (X5 b QV f rfl (J1 (JN (JI f) (qv 0) J3 (λ_ _=>rfl) (λ_ _=>rfl)) (J1 (qv 1) J2))))) (JA (Q9 DA rfl (JW (jq (Hc (qv 0) (Hb J3) AX AX))) (Qc (JZ j5 rfl (.inl rfl))) (J9 (JT j5 rfl (.inl rfl) (jq (X5 b QV f rfl (J1 (jq (KE c f rfl (J1 (qv 2) (J1 (qv 3) J2)))) (J1 (qv 1) J2))))))) (J9 (JP (qv 2)))))
def Mv (a:All e):Ca e "opposite" 1 ["column"] (qJ e.K Xe):=
 qN a.toAl 23 21 λF=>ql (N:=["column"]) (g:=BL) F JK λ_ _ _ _ _ _ b=>by
 have m:=a.m;unfold BL;exact(J9 (JP (WO (x:= "tuple") AO rfl (JH m) Az (J1 (jq (Kh ["thing", "wait"] [none,none] rfl rfl (JW (qv 0)) (λ_ _ _ _ _=>(Kd [0,1] (QZ rfl (JX (qU 0 j5) (JX (qU 1 j5) QY))))) (λ_ _ _ _ _=>(K0 (J1 (qv 0) (J1 (yZ WP (qv 1)) J2)))))) J2))))
def Ex (a:All e):Ca e "opposites" 2 ["columns"] (yM e.K W3):=
 qN a.toAl 24 22 λF=>yg (N:=["columns"]) (g:=BM) F JK λ_ _ _ _ _ _ c=>by
 have b:=(Mv a).mono (k:=1) ();unfold BM;exact(J9 (Uk (Kh ["column"] [none] rfl rfl (JW (qv 0)) (λ_ _ _ _ _=>(Qc (qU 0 j5))) (λ_ _ _ _ _=>(jF b c rfl (J1 (qv 0) J2))))))
def kF (a:All e):Ca e "shifted" 1 ["row", "wait"] (qJ e.K wp):=
 qN a.toAl 25 7 λF=>ql (N:=["row", "wait"]) (g:=ve) F JK λ_ _ _ _ _ _ b=>by
 have m:=a.m;unfold ve;exact(J9 (JP (WO (x:= "tuple") AO rfl (JH m) Az (J1 (jq (Kh ["thing", "own", "wait"] [none,none,some 1] rfl rfl (JW (qv 0)) (λ_ _ _ _ _=>(Kd [0,1] (QZ rfl (JX (qU 0 j5) (JX (qU 1 j5) QY))))) (λ_ _ _ _ _=>(K0 (J1 (qv 0) (J1 (jj JS (qv 1) (qv 2)) J2)))))) J2))))
def Cd (a:All e):Ca e "waited" 2 ["form", "wait"] (yM e.K xo):=
 qN a.toAl 26 12 λF=>yg (N:=["form", "wait"]) (g:=vb) F JK λ_ _ _ _ _ _ c=>by
 have b:=(kF a).mono (k:=1) ();unfold vb;exact(J9 (Uk (Kh ["row", "wait"] [none,some 1] rfl rfl (JW (qv 0)) (λ_ _ _ _ _=>(Qc (qU 0 j5))) (λ_ _ _ _ _=>(jF b c rfl (J1 (qv 0) (J1 (qv 1) J2)))))))
def sX (a:All e):yE e "earliest" 6 ["lists", "floors", "most"] (x8 e.K W4):=
 xx a.toAl 27 26 λF=>Z1 (N:=["lists", "floors", "most"]) (g:=ZV) F JK λ_ _ _ _ _ _ h=>by
 have m:=a.m;have c:=(Ak a).mono (k:=5) ();have b:=(Ex a).mono (k:=5) ();have f:=(Cd a).mono (k:=5) ();unfold ZV;exact(J9 (JP (WZ c QV h rfl (J1 (jq (Kh ["columns", "floor"] [none,none] rfl rfl (Hg rfl (JH m) (J1 (qv 0) (J1 (qv 1) J2))) (λ_ _ _ _ _=>(Kd [0,1] (QZ rfl (JX (qU 0 j5) (JX (qU 1 j5) QY))))) (λ_ _ _ _ _=>(jq (KE f h rfl (J1 (jq (KE b h rfl (J1 (qv 0) J2))) (J1 (qv 1) J2))))))) (J1 (qv 2) J2)))))
def sW (a:All e):yE e "latest" 6 ["forms", "deadlines", "most"] (xP e.K W5):=
 xx a.toAl 28 25 λF=>Z3 (N:=["forms", "deadlines", "most", "ahead"]) (g:=ZX) F JK λ_ _ _ _ _ _ h=>by
 have m:=a.m;have c:=(Ak a).mono (k:=5) ();have b:=(Ex a).mono (k:=5) ();have f:=(Cd a).mono (k:=5) ();unfold ZX;exact(JA (GR ["form", "deadline"] [none,none] j5 rfl (.inl rfl) rfl rfl (Hg rfl (JH m) (J1 (qv 0) (J1 (qv 1) J2))) (λ_ _ _ _ _=>(Kd [0,1] (QZ rfl (JX (qU 0 j5) (JX (qU 1 j5) QY))))) (λ_ _ _ _ _=>(jq (KE f h rfl (J1 (qv 0) (J1 (yZ WP (qv 1)) J2)))))) (J9 (Uk (CV (x:= "sorted") (Dr h.units) rfl (JH m) XY (J1 (jq (KE b h rfl (J1 (WZ c QV h rfl (J1 (qv 3) (J1 (qv 2) J2))) J2))) J2)))))
def Mw (a:All e):yE e "first_of" 5 ["forms", "most"] (xP e.K yk):=
 xx a.toAl 29 13 λF=>Z3 (N:=["forms", "most", "told", "form"]) (g:=wo) F JK λ_ _ _ _ _ _ c=>by
 have b:=(Mu a).mono (k:=4) ();unfold wo;exact(JA (Kc j5 rfl (.inl rfl) (X5 b QV c rfl (J1 (JN (JI c) (qv 0) J3 (λ_ _=>rfl) (λ_ _=>rfl)) (J1 (qv 1) J2)))) (JA (Q9 DA rfl (JW (jq (Hc (qv 0) (Hb J3) AX AX))) (Qc (JZ j5 rfl (.inl rfl))) (J9 (Xt [2] (Kc j5 rfl (.inl rfl) (X5 b QV c rfl (J1 (jj JS (qv 2) (qv 3)) (J1 (qv 1) J2))))))) (J9 (Xu (pv 2)))))
def sP (a:All e):yE e "put_into_row" 6 ["row", "forms", "most"] (x8 e.K Kl):=
 xx a.toAl 30 16 λF=>Z1 (N:=["row", "forms", "most"]) (g:=BP) F JK λ_ _ _ _ _ _ f=>by
 have b:=(Ak a).mono (k:=5) ();have c:=(Cd a).mono (k:=5) ();unfold BP;exact(J9 (JP (WZ b QV f rfl (J1 (jq (Kh ["thing", "wait", "forms"] [none,none,some 1] rfl rfl (JW (qv 0)) (λ_ _ _ _ _=>(Kd [0,1] (QZ rfl (JX (qU 0 j5) (JX (qU 1 j5) QY))))) (λ_ _ _ _ _=>(jq (KE c f rfl (J1 (JN (JI f) (qv 2) (qv 0) (λ_ _=>rfl) (λ_ _=>rfl)) (J1 (qv 1) J2))))))) (J1 (qv 2) J2)))))
def kB (a:All e):yE e "put_into" 7 ["form", "forms", "most"] (xP e.K xQ):=
 xx a.toAl 31 15 λF=>Z3 (N:=["form", "forms", "most"]) (g:=z8) F JK λ_ _ _ _ _ _ f=>by
 have c:=(Mw a).mono (k:=6) ();have b:=(sP a).mono (k:=6) ();unfold z8;exact(J9 (Uk (X5 c QV f rfl (J1 (jq (T1 ["row", "forms", "most"] [none,some 1,some 2] rfl rfl (JW (qv 0)) (λ_ _ _ _ _=>(Qc (qU 0 j5))) (λ_ _ _ _ _ h=>(WZ b (Tz rfl rfl rfl Tx h) f rfl (J1 (qv 0) (J1 (qv 1) (J1 (qv 2) J2))))))) (J1 (qv 2) J2)))))
def kC (a:All e):Ca e "thing_form" 1 ["thing"] (yM e.K vg):=
 qN a.toAl 33 11 λF=>yg (N:=["thing"]) (g:=vH) F JK λ_ _ _ _ _ _ b=>by
 unfold vH;exact(J9 (Uk (QD (J1 (K0 (J1 (K0 (J1 (qv 0) (J1 J3 J2))) J2)) J2))))
def Mx (a:All e)(c:yE e "forms_knowing" (7+k) ["book", "name", "most", "known"] (Ks e.K (QL j))):yE e "made_form" (7+k+1) ["book", "how", "forms", "most", "known"] (Ks e.K (Qs j)):=
 xx a.toAl 32 39 λF=>IK (N:=["book", "how", "forms", "most", "known"]) (g:=(We (QL j))) F JK λ_ _ _ _ _ _ b=>by
 have f:=(Ak a).mono (k:=(7+k)) ();have h:=(Mw a).mono (k:=(7+k)) ();have i:=(kB a).mono (k:=(7+k)) ();unfold We;exact(Bm (DM (QC (xJ b.units) (qv 1) WL (Ql _))) (Wz (KG (WZ f QV b rfl (J1 (qv 2) (J1 (qv 3) J2))))) (Bm (DM (QC (xJ b.units) (qv 1) WL (Ql _))) (Wz (KG (jq (X5 h QV b rfl (J1 (qv 2) (J1 (qv 3) J2)))))) (W0 (m:=none) (kc (TX [4] (GD b.units (qv 1) (qv 4))) (Bk (TZ (JI b) (qv 4) (qv 1) (TB kW (IL c QV b rfl (J1 (qv 0) (J1 (qv 1) (J1 (qv 3) (J1 (qv 4) J2))))) (KG (yZ WP J3)) (λ_ _=>rfl)))) T5) (Wz (TW (yr.d i) QV b rfl (DI (TY (JI b) (qv 4) (qv 1) (λ_ _=>rfl)) (DI (KG (qv 2)) (DI (KG (qv 3)) TD))))))))
def dD (a:All e)(c:yE e "made_form" (7+k) ["book", "how", "forms", "most", "known"] (Ks e.K (Qs j))):yE e "forms_knowing" (7+k+1) ["book", "name", "most", "known"] (Ks e.K (QL (j+1))):=
 xx a.toAl 34 38 λF=>IK (N:=["book", "name", "most", "known", "plan", "told", "made", "how", "items", "forms"]) (g:=(ZZ (Qs j))) F JK λ_ _ _ _ _ _ h=>by
 have m:=a.m;have f:=(Mn a).mono (k:=(7+k)) ();have i:=(kC a).mono (k:=(7+k)) ();have l:=(Cd a).mono (k:=(7+k)) ();have b:=a.k_Plan;unfold ZZ;exact(W0 (m:=none) (Bi (JT j5 rfl (.inl rfl) (Ir f h rfl (J1 (qv 0) (J1 (qv 1) J2))))) (W0 (m:=none) (Bi (Kc j5 rfl (.inr rfl) (Kh ["thing"] [none] rfl rfl (WV rfl (JH m) (J1 (Q3 (x:= "len") Kp rfl (JH m) Km (J1 (Z7 b (by decide) (qv 4)) J2)) J2)) (λ_ _ _ _ _=>(Qc (qU 0 j5))) (λ_ _ _ _ _=>(jq (KE i h rfl (J1 (qv 0) J2))))))) (W0 (m:=none) (DH DA rfl (JW (Z7 b (by decide) (qv 4))) (Kd [6,7,8] (QZ rfl (JX (JZ j5 rfl (.inl rfl)) (JX (JZ j5 rfl (.inl rfl)) (JX (JZ j5 rfl (.inl rfl)) QY))))) (T6 (Bi (TV ["thing", "wait", "told"] [none,none,some 5] 2 j5 rfl (.inl rfl) rfl rfl (JW (qv 8)) (λ_ _ _ _ _=>(Kd [0,1] (QZ rfl (JX (qU 0 j5) (JX (qU 1 j5) QY))))) (λ_ _ _ _ _=>(jq (KE l h rfl (J1 (GO (JI h) (pv 2) (qv 0) (λ_ _=>rfl) (λ_ _=>rfl)) (J1 (qv 1) J2))))))) (Bk (TH (pv 5) (IL c QV h rfl (J1 (qv 0) (J1 (qv 7) (J1 (qv 9) (J1 (qv 2) (J1 (qv 3) J2)))))) (λn o=>K6 Yy Yz YA KS n o))))) (TM (Wz (KG (qv 5)))))))
theorem Mz (a:All e):∀j,yE e "forms_knowing" (7+2*j) ["book", "name", "most", "known"] (Ks e.K (QL j))
 | 0=>xx a.toAl 34 38 λ_=>sQ
 |j+1=>dD (k:=2*j+1) a (Mx (k:=2*j+0) a (Mz a j))
def M0 (a:All e):yE e "forms_knowing" 15 ["book", "name", "most", "known"] (Ks e.K (QL 4)):=Mz a 4
def mS (a:All e):yE e "made_form" 16 ["book", "how", "forms", "most", "known"] (Ks e.K (Qs 4)):=Mx (k:=8) a (M0 a)
def tE (a:All e):yE e "forms_of" 16 ["book", "name", "most"] (x8 e.K BT):=
 xx a.toAl 35 36 λF=>Z1 (N:=["book", "name", "most"]) (g:=BS) F JK λ_ _ _ _ _ _ c=>by
 have b:=(M0 a).mono (k:=15) ();unfold BS;exact(J9 (JP (ka b QV c rfl (DO (qv 0) (DO (qv 1) (DO (qv 2) (cB (d0:=.dct [] []) PJ)))))))
def sV (a:All e):yE e "told_form" 17 ["book", "name", "most"] (x8 e.K XI):=
 xx a.toAl 36 37 λF=>Z1 (N:=["book", "name", "most"]) (g:=Ab) F JK λ_ _ _ _ _ _ c=>by
 have b:=(tE a).mono (k:=16) ();unfold Ab;exact(J9 (JP (JN (JI c) (WZ b QV c rfl (J1 (qv 0) (J1 (qv 1) (J1 (qv 2) J2)))) (yZ WP J3) (λ_ _=>rfl) (λ_ _=>rfl))))
def tm (a:All e):Ca e "single_rows" 1 ["column"] (yM e.K Ac):=
 qN a.toAl 37 23 λF=>yg (N:=["column"]) (g:=BU) F JK λ_ _ _ _ _ _ b=>by
 unfold BU;exact(J9 (Uk (Kh ["pair"] [none] rfl rfl (JW (qv 0)) (λ_ _ _ _ _=>(Qc (qU 0 j5))) (λ_ _ _ _ _=>(K0 (J1 (qv 0) J2))))))
def tT (a:All e):yE e "turned" 6 ["form", "most"] (xP e.K W6):=
 xx a.toAl 38 20 λF=>Z3 (N:=["form", "most"]) (g:=Ad) F JK λ_ _ _ _ _ _ h=>by
 have m:=a.m;have i:=(Ak a).mono (k:=5) ();have b:=(Mv a).mono (k:=5) ();have c:=(Ex a).mono (k:=5) ();have f:=(tm a).mono (k:=5) ();unfold Ad;exact(J9 (Uk (CV (x:= "sorted") (Dr h.units) rfl (JH m) XY (J1 (jq (KE c h rfl (J1 (WZ i QV h rfl (J1 (jq (Kh ["row"] [none] rfl rfl (JW (qv 0)) (λ_ _ _ _ _=>(Qc (qU 0 j5))) (λ_ _ _ _ _=>(jq (KE f h rfl (J1 (Ir b h rfl (J1 (qv 0) J2)) J2)))))) (J1 (qv 1) J2))) J2))) J2))))
def tN (a:All e):Ca e "can_keep_both" 1 ["late", "early"] (qJ e.K Af):=
 qN a.toAl 39 30 λF=>ql (N:=["late", "early", "ends"]) (g:=BW) F JK λ_ _ _ _ _ _ b=>by
 have m:=a.m;unfold BW;exact(JA (JT j5 rfl (.inr rfl) (jq (KN (x:= "dict") (Dh rfl) rfl (JH m) C9 (J1 (qv 0) J2)))) (J9 (JP (Q3 (x:= "all") (Ds rfl) rfl (JH m) Du (J1 (jq (Kh ["thing", "hour", "ends"] [none,none,some 2] rfl rfl (JW (qv 1)) (λ_ _ _ _ _=>(Kd [0,1] (QZ rfl (JX (qU 0 j5) (JX (qU 1 j5) QY))))) (λ_ _ _ _ _=>(WM kJ (GI (JI b) (qv 2) (qv 0) (qv 1) ⟨rfl,rfl,rfl,rfl⟩) (qv 1) (Ql _))))) J2)))))
def tQ (a:All e):Ca e "windows" 2 ["latest_ones", "earliest_ones"] (yM e.K BY):=
 qN a.toAl 40 29 λF=>yg (N:=["latest_ones", "earliest_ones", "told", "late"]) (g:=BX) F JK λ_ _ _ _ _ _ c=>by
 have m:=a.m;have b:=(tN a).mono (k:=1) ();unfold BX;exact(JA (Kc j5 rfl (.inl rfl) (QD J2)) (JA (Q9 PassesOwn.never rfl (JW (qv 0)) (Qc (JZ j5 rfl (.inr rfl))) (J9 (Gu (pv 2) (Dk ["early", "late"] [none,some 3] rfl rfl (JW (qv 1)) (λ_ _ _ _ _=>(Qc (qU 0 j5))) (λ_ _ _ _ _=>(KZ (jF b c rfl (J1 (qv 1) (J1 (qv 0) J2))))) (λ_ _ _ _ _=>(K0 (J1 (qv 1) (J1 (qv 0) J2))))) (λf h=>K6 Yy PySem.F.slot_list_extend PySem.F.type_list_extend EX f h)))) (J9 (Xu (pv 2)))))
def sZ (a:All e):Ca e "_law_pairs" 18 ["book", "name", "floor", "deadline"] (qJ e.K Wg):=
 qN a.toAl 41 54 λF=>ql (N:=["book", "name", "floor", "deadline", "found", "form", "late"]) (g:=W7) F JK λ_ _ _ _ _ _ m=>by
 have c:=(sX a).mono (k:=17) ();have f:=(sW a).mono (k:=17) ();have h:=(sV a).mono (k:=17) ();have i:=(tT a).mono (k:=17) ();have l:=(tQ a).mono (k:=17) ();have b:=a.x_TooMany;unfold W7;exact(JA (JT j5 rfl (.inl rfl) Gq) (JA (df rfl rfl b (DQ b j5 rfl (.inl rfl) (Bq h m rfl (Kk (KH (qv 0)) (Kk (KH (qv 1)) (Kk (KH J3) X8)))) (DQ b j5 rfl (.inl rfl) (Bq (yr.d f) m rfl (Kk (KH (jq (QD (J1 (qv 5) J2)))) (Kk (KH (jq (QD (J1 (qv 3) J2)))) (Kk (KH J3) X8)))) (DQ b j5 rfl (.inl rfl) (tR l m rfl (Kk (KH (qv 6)) (Kk (Bq c m rfl (Kk (c0 (Kk (Bq (yr.d i) m rfl (Kk (KH (qv 5)) (Kk (KH J3) X8))) X8)) (Kk (KH (jq (QD (J1 (qv 2) J2)))) (Kk (KH J3) X8)))) X8))) dU))) rfl (λ_=>(J9 (JT j5 rfl (.inl rfl) Gq)))) (J9 (JP (qv 4)))))
def tu (a:All e):Ca e "_law_wait" 1 ["cell"] (qJ e.K XJ):=
 qN a.toAl 42 49 λF=>ql (N:=["cell", "far"]) (g:=Ag) F JK λ_ _ _ _ _ _ b=>by
 unfold Ag;exact(JA (QR (QC (xJ b.units) (jj Qi (qv 0) J3) J3 (Ql _)) (JA (JT j5 rfl (.inl rfl) (jj Qi (jj V0 (jj QH (qv 0) J3) (jj JS (jj Wq J3 J3) J3)) (jj Wq J3 J3))) (J9 (JP (JN (JI b) (jq (QD (J1 (qv 1) (J1 (yZ WP (qv 1)) (J1 (jj YO (jj Wq J3 J3) J3) (J1 (jj YO J3 (jj Wq J3 J3)) J2)))))) (jj Qi (jj QH (qv 0) J3) J3) (λ_ _=>rfl) (λ_ _=>rfl))))) QF) (J9 (JP (jj YO (jj Qi (jj QH (qv 0) J3) J3) J3))))
def t5 (a:All e):Ca e "_law_made" 3 ["script", "at", "k", "things", "plans"] (qJ e.K XM):=
 qN a.toAl 43 50 λF=>ql (N:=["script", "at", "k", "things", "plans", "cell", "how", "size", "part", "items", "j", "own"]) (g:=XL) F JK λ_ _ _ _ _ _ c=>by
 have m:=a.m;have b:=(Aj a).mono (k:=2) ();have f:=(Ew a).mono (k:=2) ();have h:=(tu a).mono (k:=2) ();unfold XL
 exact(JA (JT j5 rfl (.inl rfl) (jF b c rfl (J1 (qv 0) (J1 (qv 1) J2)))) (JA (JT j5 rfl (.inl rfl) (JN (JI c) (jq (QD (J1 WL (J1 WL J2)))) (jj Qi (qv 5) J3) (λ_ _=>rfl) (λ_ _=>rfl))) (JA (JT j5 rfl (.inl rfl) (jj JS J3 (jj Qi (jj QH (qv 5) J3) J3))) (JA (QR (zl (CT (QC wP (Q3 (x:= "len") Kp rfl (JH m) Km (J1 (qv 4) J2)) J3 (Ql _)) (CS (QC (xJ c.units) (jj Qi (jj QH (qv 5) J3) J3) J3 (Ql _))))) (JA (JT j5 rfl (.inl rfl) (JN (JI c) (qv 4) (jj Qi (jj QH (qv 5) J3) (Q3 (x:= "len") Kp rfl (JH m) Km (J1 (qv 4) J2))) (λ_ _=>rfl) (λ_ _=>rfl))) (JA (JT j5 rfl (.inl rfl) (JN (JI c) (qv 8) J3 (λ_ _=>rfl) (λ_ _=>rfl))) (J9 (JT j5 rfl (.inl rfl) (JN (JI c) (qv 8) J3 (λ_ _=>rfl) (λ_ _=>rfl)))))) QF) (JA (Kc j5 rfl (.inl rfl) (QD J2)) (JA (Q9 PassesOwn.never rfl (WV rfl (JH m) (J1 (qv 7) J2)) (Qc (JZ j5 rfl (.inl rfl))) (JA (JT j5 rfl (.inl rfl) (jF b c rfl (J1 (qv 0) (J1 (jj JS (jj JS (qv 1) J3) (qv 10)) J2)))) (J9 (Wo (pv 9) (K0 (J1 (jj Qi (qv 11) (qv 3)) (J1 (jF h c rfl (J1 (jj QH (qv 11) (qv 3)) J2)) J2))) (λi l=>K6 Yy Yz YA KS i l))))) (J9 (Xt [9] (JP (K0 (J1 (jF f c rfl (J1 (qv 0) (J1 (jj JS J3 (qv 2)) J2))) (J1 (qv 6) (J1 (WO (x:= "tuple") AO rfl (JH m) Az (J1 (qv 9) J2)) J2)))))))))))))
def tf (a:All e):Ca e "_law_plans" 4 ["script"] (yM e.K Cb):=
 qN a.toAl 44 51 λF=>yg (N:=["script", "plans", "p", "at", "many", "rows", "k"]) (g:=BZ) F JK λ_ _ _ _ _ _ h=>by
 have m:=a.m;have b:=(Aj a).mono (k:=3) ();have c:=(t5 a).mono (k:=3) ();have f:=(Ew a).mono (k:=3) ();unfold BZ;exact(JA (Kc j5 rfl (.inl rfl) (QD J2)) (JA (Q9 PassesOwn.never rfl (WV rfl (JH m) (J1 (jj JS J3 (jj Qi (jF b h rfl (J1 (qv 0) (J1 J3 J2))) J3)) J2)) (Qc (JZ j5 rfl (.inl rfl))) (JA (JT j5 rfl (.inl rfl) (jj JS J3 (jj V0 J3 (qv 2)))) (JA (JT j5 rfl (.inl rfl) (jj JS J3 (jj Qi (jF b h rfl (J1 (qv 0) (J1 (jj JS J3 (qv 2)) J2))) J3))) (JA (Kc j5 rfl (.inl rfl) (QD J2)) (JA (Q9 PassesOwn.never rfl (WV rfl (JH m) (J1 (jj JS J3 (jj Qi (jj QH (jF b h rfl (J1 (qv 0) (J1 (jj JS J3 (qv 2)) J2))) J3) J3)) J2)) (Qc (JZ j5 rfl (.inl rfl))) (J9 (Wo (pv 5) (t7 [1] (jF c h rfl (J1 (qv 0) (J1 (jj JS (qv 3) (jj V0 J3 (qv 6))) (J1 (qv 6) (J1 (jj JS (qv 4) (qv 6)) (J1 (qv 1) J2))))))) (λi l=>K6 Yy Yz YA KS i l)))) (J9 (Xt [5] (Wo (pv 1) (K0 (J1 (jF f h rfl (J1 (qv 0) (J1 (qv 2) J2))) (J1 (qv 4) (J1 (qv 5) J2)))) (λi l=>K6 Yy Yz YA KS i l))))))))) (J9 (Xu (pv 1)))))
def tJ (a:All e){f:Addr}{p:FuncData}(F:Fun e.K "law" "law" (wF 60) f p):FnOk e.P e.w e.K e.mg e.base yp 19 f p ["script"] (qJ e.K vx):=
 ql (N:=["script", "plans", "book", "parts", "p", "ends", "pairs", "turn", "cell", "part", "hours"]) (g:=Ah) F JK λ_ _ _ _ _ _ b=>by
 have m:=a.m;have c:=(sR a).mono (k:=18) ();have h:=(tY a).mono (k:=18) ();have i:=(sY a).mono (k:=18) ();have l:=(tS a).mono (k:=18) ();have n:=(sZ a).mono (k:=18) ();have o:=(tf a).mono (k:=18) ();unfold Ah
 exact(JA (JT j5 rfl (.inl rfl) (jq (CU o b rfl (J1 (qv 0) J2)))) (JA (JT j5 rfl (.inl rfl) (jq (CU h b rfl (J1 (qv 0) (J1 (qv 1) J2))))) (JA (Kc j5 rfl (.inl rfl) (QD J2)) (JA (Q9 PassesOwn.never rfl (WV rfl (JH m) (J1 (Q3 (x:= "len") Kp rfl (JH m) Km (J1 (qv 1) J2)) J2)) (Qc (JZ j5 rfl (.inl rfl))) (JA (JT j5 rfl (.inl rfl) (jF i b rfl (J1 (qv 0) (J1 (qv 4) J2)))) (JA (JT j5 rfl (.inl rfl) (jF n b rfl (J1 (qv 2) (J1 (JN (JI b) (JN (JI b) (qv 1) (qv 4) (λ_ _=>rfl) (λ_ _=>rfl)) J3 (λ_ _=>rfl) (λ_ _=>rfl)) (J1 (JN (JI b) (qv 5) J3 (λ_ _=>rfl) (λ_ _=>rfl)) (J1 (JN (JI b) (qv 5) J3 (λ_ _=>rfl) (λ_ _=>rfl)) J2)))))) (JA (QR (zl (CT (GN (qv 6)) (CS (QC (kI b.units) (WM wP (Q3 (x:= "len") Kp rfl (JH m) Km (J1 (qv 6) J2)) J3 (Ql _)) (WM wO (JN (JI b) (qv 5) J3 (λ_ _=>rfl) (λ_ _=>rfl)) (JN (JI b) (qv 5) J3 (λ_ _=>rfl) (λ_ _=>rfl)) (Ql _)) (Ql _))))) (J9 (JP K7)) QF) (J9 (Wo (pv 3) (K0 (J1 (JN (JI b) (qv 1) (qv 4) (λ_ _=>rfl) (λ_ _=>rfl)) (J1 (qv 5) (J1 (qv 6) J2)))) (λq r=>K6 Yy Yz YA KS q r))))))) (JA (JT j5 rfl (.inl rfl) J3) (JA (Q9 PassesOwn.never rfl (JW (jj JS (jq (QD (J1 J3 J2))) (jq (KN (x:= "list") WS rfl (JH m) WG (J1 (qv 0) J2))))) (Qc (JZ j5 rfl (.inl rfl))) (JA (JT j5 rfl (.inl rfl) (GO (JI b) (pv 3) (jj Qi (qv 7) (Y9 [3] (Q3 (x:= "len") Kp rfl (JH m) Km (J1 (qv 3) J2)))) (λ_ _=>rfl) (λ_ _=>rfl))) (JA (Kc j5 rfl (.inl rfl) (CU l b rfl (J1 (qv 0) (J1 (qv 8) (J1 (qv 7) (J1 (JN (JI b) (JN (JI b) (qv 9) J3 (λ_ _=>rfl) (λ_ _=>rfl)) J3 (λ_ _=>rfl) (λ_ _=>rfl)) J2)))))) (JA (tz (de (GN (JN (JI b) (qv 9) J3 (λ_ _=>rfl) (λ_ _=>rfl))) (dt (tZ (TL (IJ c b rfl (J1 (qv 10) (J1 (qv 8) (J1 (qv 2) (J1 (qv 9) J2))))))))) (J9 (JP K7)) QF) (J9 (JT j5 rfl (.inl rfl) (jj JS (qv 7) J3))))))) (J9 (JP K7))))))))
end
def Ce (K:W.Frag):Sp:=λb H Q _=>∃(a:Addr) (ns:Yh),b=[.ref a]/\qy K H a (ns.map V.int)/\ns.length<=63/\∀c,Q (.bl true) c
def dc (K:W.Frag)(b:YE)(H:Hp)(Q:VK)(E:XK)(h:Ce K b H Q E):qJ K vx b H Q E:=by
 obtain⟨a,ns,rfl,c,f,q⟩:=h;refine⟨H,[.scr ns],jk.refl _,jd.mk (qq.mpr ⟨a,rfl,c⟩) .nil,?_⟩;rw[zP ns f];intro v j g e i;rw[jp.mp i];exact q g
def all_mk {l:W.OpenLaw}{w:World}{K:W.Frag}{h:Heap}{mg:Ye}{N:Addr}(X:K.In h)(G:h.Ns mainGlobals mg)(L:mg "law" = some (.ref N))
 {a:Addr}
 (d:vW K wF tbl) (z:Nn K bl) (dl:vi K "law" (wF 60))
 (b:W.nsIn K mainGlobals "TooMany" = some (some (.ref a))) (i:W.excIn K a [.type "ValueError",.type "Exception",.type "BaseException",.type "object"] "ValueError.__new__" = true)
 (x:I1 K "Book" "Book.__init__" ["plans"] (Aw (wF 33) 0))
 (y:I1 K "Plan" "Plan.__init__" ["name", "givens", "rows"] (Aw (wF 32) 0)):
 ∃O:FuncData,(∀(s:Shared) (v:Value),BindsTo s O ⟨[v],[]⟩ [("script",v)])/\∀c:Heap,K.In c->c.Ns mainGlobals mg->FnOk l.prog w K mg c yp 19 N O ["script"] (Ce K):=by
 obtain⟨M,A,E,vx⟩:=dl;cases L.symm.trans (W.mg_of X G E);obtain⟨B,I,F,f,j,m,o,p⟩:=x;obtain⟨C,J,H,g,q,r,t,u⟩:=y;exact⟨A,(by obtain⟨_,_,_,_,_,_,_,_,_,rfl,_,_⟩:=id vx.ex;exact λs v=>.of_eq rfl),λc _ _=>(tJ (e:=⟨l.prog,w,K,mg,c,λn=>[a,B,C].getD n 0,λn=>[].getD n default⟩) ⟨⟨⟨h,X,G⟩,d,IN X G z⟩,⟨b,W.mg_of X G b,i⟩,⟨f,W.mg_of X G f,j,m⟩,⟨_,_,o,p⟩,⟨g,W.mg_of X G g,q,r⟩,⟨_,_,t,u⟩⟩ vx).imp (dc K)⟩
def walk {l:W.OpenLaw}{q:Program}{c:Yk}{m:(Ye)->Heap->Prop}{g:World->Heap->Prop}{d:DefRec}{K:Params->W.Frag}(o:l.most=some 63)(e:d.params.defaults=[])
 (p:∀(w:World) (h:Heap),g w h->(K w.params).In h)
 (F:∀(w:World) (mg:Ye) (i:Addr) (h:Heap),(K w.params).In h->h.Ns mainGlobals mg->mg d.name=some (.ref i) ->
  ∃j:FuncData,(∀(s:Shared) (u:Value),BindsTo s j ⟨[u],[]⟩ [("script",u)])/\∀b:Heap,(K w.params).In b->b.Ns mainGlobals mg->FnOk l.prog w (K w.params) mg b yp 19 i j ["script"] (Ce (K w.params))):
 W.WalkO q c m g l.row.toRowW d [] (λf r=>PySem.call f r):=
 L2.walk_of (n:=63) (k:=19) (x:= "script") (CX:=λ_=>yp) (sp:=λw=>Ce (K w.params)) o (by decide) e ⟨rfl,by decide,by decide⟩ p F (λ_ _ a ns t _ v=>⟨a,ns,rfl,v,t,λ_=>rfl⟩) λ_ _ _ _ _ z=>z
end My
end
open PySem PySem.W PyProof.Rows
namespace PySem.W.Fast
def tw7342154281470992842:=()
def tw15634553577026117605:=()
def tw6760046366158526737:=()
def tw4809797699208665248:=()
def tw4436784159511400362:=()
def tw898711863241268505:=()
def tw16380228044373969521:=()
def tw9434219859904703200:=()
def tw15526809320824375558:=()
def tw17964535883798895543:=()
def tw14176171366997399946:=()
def tw1220201093627006358:=()
def tw10386949380965106382:=()
def tw357912565379648957:=()
def tw2928490549851380678:=()
def tw8997869237259880281:=()
def tw126663670992855643:=()
def tw12171258207777438774:=()
def tw6489961303199131639:=()
def tw3382555843178718092:=()
def tw16662260640263220484:=()
def tw10197786898145588304:=()
def tw3118589890702433987:=()
def tw14721376094058962511:=()
def tw204865650546086862:=()
def tw2695697214386498374:=()
def tw7295981768922853176:=()
def tw4036309407072342425:=()
def tw8090406395421267391:=()
def tw8749710401707836006:=()
def tw10016901703785134820:=()
def tw12740161055454491096:=()
def tw9102250663052010834:=()
def tw918126741254362877:=()
def tw3535733306863758416:=()
def tw18069620878223670934:=()
def tw17079320954750793756:=()
def tw16870453167963109046:=()
def tw11910653131384315234:=()
def tw3338951092410839007:=()
def tw18333460946099611801:=()
def tw733505073669599955:=()
def tw8163442806737310236:=()
def tw2479125631841510824:=()
def tw3408697190673146340:=()
def tw15158234472823967010:=()
def tw15098502953625691501:=()
def tw16621419117259003296:=()
def tw5125425307157951446:=()
def tw12406949425472336049:=()
def tw9109320494401387966:=()
def tw2987461254823767192:=()
def tw7143170844981055762:=()
def tw5990879599930209067:=()
def tw6948048736714792651:=()
def tw15856713831175429707:=()
def tw12054152624292595647:=()
def tw10810467049427464702:=()
def tw15816173778525522795:=()
def tw11201737692241989824:=()
def tw13775455750970265356:=()
def tw575211955311223524:=()
def tw4513631443963237956:=()
def tw3829379116989644767:=()
def tw12007544622803449236:=()
def tw7131857920454615918:=()
def tw8970156688589383652:=()
def tw17042686067096294152:=()
def tw12929330280317015497:=()
def tw14311705522287882536:=()
def tw18436720639002572522:=()
def tw807804558171556776:=()
def tw7783452342838560352:=()
def tw15327618252290415042:=()
def tw3894101774627256630:=()
def tw8143773263344713207:=()
def tw2993845169955880012:=()
def tw5685270067522426368:=()
def tw4664732624303418110:=()
def tw10758610259068969222:=()
def tw13117477763707661119:=()
def tw5632711502751914302:=()
def tw4396311223047780559:=()
def tw18284636566515578501:=()
def tw1836896548440569809:=()
def tw16519272077129297758:=()
def tw5512352092985698909:=()
def tw18156586089928937618:=()
def tw17826853026190027773:=()
def tw6211616796725245886:=()
def tw2001540964346572239:=()
def tw6089557682731746921:=()
def tw7458780423145777620:=()
def tw13833314715913267032:=()
def tw1415328116449669669:=()
def tw12513573120857657700:=()
def tw3118685695600170480:=()
def tw3444868422398839666:=()
def tw14621164172354025764:=()
def tw11728412112233990069:=()
def tw8460798512368156904:=()
def tw2933226631375288324:=()
def tw14595375650199776263:=()
def tw11831495354883619496:=()
def tw17210967069523247239:=()
def tw8110159204605563697:=()
def tw15562776731398161827:=()
def tw13857467374780614881:=()
def tw15239716659049815330:=()
def tw1458140918604206573:=()
def tw9756184392556975867:=()
def tw15622530387992438894:=()
def tw16714387239257872153:=()
def tw16277342367915509729:=()
def tw6390877339361609966:=()
def tw16595270521980219127:=()
def tw7884807966677764304:=()
def tw2162430125273030951:=()
def tw7683023366071652261:=()
def tw17331799071029573946:=()
def tw1952887764436951996:=()
def tw12812679071607995225:=()
def tw13886127725513225394:=()
def tw16144467568527702313:=()
def tw14194215686854016901:=()
def tw1857002579546208557:=()
def tw15957533118287264835:=()
def tw3986938046610338607:=()
def tw15177436841810367416:=()
def tw18412026265493594363:=()
def tw11137517184976912825:=()
def tw4035928696318181197:=()
def tw13573088064236667152:=()
def tw14188259906353304629:=()
def tw4133832701928283244:=()
def tw9968369839727328077:=()
def tw6266507527771388769:=()
def tw11911371461260200638:=()
def tw3447095935874365681:=()
def tw785881131538745916:=()
def tw2931990109281033300:=()
def tw18383504707293185185:=()
def tw1329852077633875200:=()
def tw4481151814256672270:=()
def tw17202222657711269225:=()
def tw10566841484217512868:=()
def tw3070523602058173695:=()
def tw7552442596884710807:=()
def tw7211794680809479462:=()
def tw18248879099169117194:=()
def tw8834843172610043569:=()
def tw15015610555942127070:=()
def tw8409926971448388295:=()
def tw8542204425108715275:=()
def tw5917235803718289528:=()
def tw15555447739464481629:=()
def tw5673084940872392233:=()
def tw672065551435344599:=()
def tw3381296479119073552:=()
def tw17660261324429543860:=()
def tw13374679108240011109:=()
def tw3160793114510094744:=()
def tw18402716605268195402:=()
def tw2967067311961292010:=()
def tw12862804938327813931:=()
def tw6979883564110310396:=()
def tw2130165418018467446:=()
def tw12646399718549496164:=()
def tw9470677536989058233:=()
def tw6867229654396790682:=()
def tw8161927707351313197:=()
def tw15041547243803661584:=()
def tw13312719452958628130:=()
def tw17843637509903779520:=()
def tw10774036967037347146:=()
def tw387550597375864853:=()
def tw15699978375146557699:=()
def tw18227733391253979509:=()
def tw18158027044293844390:=()
def tw898749218044001893:=()
def tw11130089312795551838:=()
def tw13806949128106301133:=()
def tw832462748907390588:=()
def tw10526926825399927313:=()
def tw11662642889201804777:=()
def tw417276941661613146:=()
def tw12095938678055427283:=()
def tw13506066454857761720:=()
def tw11730383169544980611:=()
def tw4340277538957965912:=()
def tw4819436932672890474:=()
def tw11437421871166771578:=()
def tw11915120505399250481:=()
def tw17848481046599539920:=()
def tw4602602793987976903:=()
def tw7231793171998250903:=()
def tw12565998706688669621:=()
def tw10288949451806724948:=()
def tw1952059344731046275:=()
def tw17534137624419685128:=()
def tw10763298326045581203:=()
def tw12201716100154222066:=()
def tw1653417911081402316:=()
def tw5187767475656238669:=()
def tw2403446513111200260:=()
def tw15504368433029003762:=()
def tw7931553770334598088:=()
def tw14669195074149721730:=()
def tw8781404709332732554:=()
def tw14047072791754062896:=()
def tw16343562705013642308:=()
def tw3863797217646872299:=()
def tw7734109071646497745:=()
def tw13955211080475971135:=()
end PySem.W.Fast
set_option maxRecDepth 100000 in
set_option maxHeartbeats 0 in
theorem PySem.Challenge.cw_allfirst_k70_whole_windows_by_runs_holds : PySem.Challenge.rw_allfirst_k70_whole_windows_by_runs.Holds := by
 w_on;o_law;k_head;(case hw=>w_witness2)
 k_fill
 refine My.walk (l:=PySem.Challenge.rw_allfirst_k70_whole_windows_by_runs) rfl rfl (fun w h Y=>PySem.W.kIn_of Y) ?F
 case F =>
  intro w mg fa h KX G hmg;refine' My.all_mk KX G hmg ?d ?z ?dl ?a_TooMany ?q_TooMany ?l_Book ?l_Plan
  (case d =>
   repeat (apply L2.DL.dfs_cons;focus (refine' ⟨_,_,?a,L2.fun_mk ?l ?c ?k⟩;(case a=>k_is);(case l=>k_is);(case c=>k_is);(case k=>k_is)))
   exact True.intro)
  (case z =>
   repeat (apply L2.DL.nn_cons;focus k_is)
   exact True.intro)
  (case dl=>refine' ⟨_,_,?a,L2.fun_mk ?l ?c ?k⟩;(case a=>k_is);(case l=>k_is);(case c=>k_is);(case k=>k_is))
  (case a_TooMany=>k_is)
  (case q_TooMany=>k_exc)
  (case l_Book=>refine' ⟨_,_,_,?ua,⟨?up,?uh,?uo,?us⟩,List.forall_mem_cons.mpr ⟨?uf0,List.forall_mem_nil _⟩,⟨?um,?ui,?un,?ue⟩,L2.fun_mk ?ul ?uc ?uk⟩;(case ua=>k_is);(case ui=>k_is);(case ul=>k_is);(case uc=>k_is);(case uk=>k_is);(case up=>k_is);(case uh=>k_is);(case uo=>k_is);(case us=>k_is);(case um=>k_is);(case un=>k_is);(case ue=>k_is);(case uf0=>show PySem.W.findIn _ _ _=_;k_is))
  (case l_Plan=>refine' ⟨_,_,_,?ua,⟨?up,?uh,?uo,?us⟩,List.forall_mem_cons.mpr ⟨?uf0,List.forall_mem_cons.mpr ⟨?uf1,List.forall_mem_cons.mpr ⟨?uf2,List.forall_mem_nil _⟩⟩⟩,⟨?um,?ui,?un,?ue⟩,L2.fun_mk ?ul ?uc ?uk⟩;(case ua=>k_is);(case ui=>k_is);(case ul=>k_is);(case uc=>k_is);(case uk=>k_is);(case up=>k_is);(case uh=>k_is);(case uo=>k_is);(case us=>k_is);(case um=>k_is);(case un=>k_is);(case ue=>k_is);(case uf0=>show PySem.W.findIn _ _ _=_;k_is);(case uf1=>show PySem.W.findIn _ _ _=_;k_is);(case uf2=>show PySem.W.findIn _ _ _=_;k_is))
