import PyProof.Rows.All
import Wide.All
import OpenK.AllK
import Wide.FinOn
import Lean
import PyProof.EqAt
import PyProof.EqKinds
import PyProof.TupleCall
import PyProof.P3Eq
import PyProof.NeData
import PySem.Challenge.RW_allfirst_k66_whole_deadlines_by_runs
set_option autoImplicit true
set_option relaxedAutoImplicit true
set_option Elab.async false
set_option linter.all false
set_option maxRecDepth 100000
open PySem PySem.Spec PyProof.Rows
theorem Zqi.{u} {α:Type u}{a b:α}(h:some a=some b):a=b:=Option.some.inj h
theorem Zqg.{u} {α:Type u}{l:List α}{i:Nat}(h:i<l.length):l[i]? = some l[i]:=List.getElem?_eq_getElem h
theorem Zqs.{u} {α:Type u}{a:α}{l:List α}:a∈a::l:=List.mem_cons_self
theorem Zqm.{u} {α:Type u}(y:α){a:α}{l:List α}(h:a∈l):a∈y::l:=List.mem_cons_of_mem y h
theorem Zql.{u,v} {α:Type u}{β:Type v}{l:List α}(f:α->β):(l.map f).length=l.length:=List.length_map f
abbrev Za:=@wpAny_bind
abbrev Zb:=@wpAny_pure
abbrev Zc:=@wpAny_mono
abbrev Zd:=@if_pos
abbrev Ze:=@if_neg
abbrev Zf:=@Nat.le_refl
abbrev Zg:=@Nat.lt_of_lt_of_le
abbrev Zh:=@Nat.le_trans
abbrev Zi:=@Nat.ne_of_lt
abbrev Zj:=@Bool.false_ne_true
abbrev Zk:=@Heap.lt_size
abbrev Zl:=@List.map_cons
abbrev Zm:=@List.size_toArray
abbrev Zn:=@absurd
abbrev Zo:=@decide_eq_false
abbrev Zp:=@decide_eq_true
abbrev Zq:=@Heap.get?_push_of_some
abbrev Zr:=@Heap.get?_push_size
abbrev Zs:=@iff_of_false
abbrev Zt:=@congrArg
abbrev Zu:=@List.length_cons
abbrev Zv:=@List.getElem?_map
abbrev Zw:=@List.map_map
abbrev Zx:=@List.getElem?_set_ne
abbrev Zy:=@Nat.lt_irrefl
abbrev Zz:=@Nat.le_of_lt
abbrev ZB:=@List.append_nil
abbrev ZC:=@List.length_range
abbrev ZD:=@List.length_nil
set_option maxHeartbeats 4000000
abbrev Ya:=PySem.Value->PySem.Shared->Prop
abbrev Yb:=List (PySem.Addr×PySem.Obj)
abbrev Yc:=List (Nat×Nat×Nat)
abbrev Yd:=Nat->Nat->Bool
abbrev Ye:=PySem.Str->Option PySem.Value
abbrev Yf:=List PySem.Value
abbrev Yg:=Option PySem.Value
abbrev Yh:=List Int
abbrev Yi:=Array Nat
abbrev Yj:=List Nat
abbrev Yk:=List PySem.Str
abbrev Yl:=List PySem.Addr
abbrev Ym:=List PySem.Expr
abbrev Yn:=Array PySem.Value
abbrev Yo:=@PyProof.Rows.wpS_bind
abbrev Yp:=@PyProof.Rows.wpS_pure
abbrev Yq:=@PyProof.Rows.wpS_mono
abbrev Yr:=@PyProof.Rows.wpS_forRange
abbrev Ys:=@beq_iff_eq
abbrev Yt:=@Unit.unit
abbrev Yu:=@Bool.eq_false_iff
abbrev Yv:=@Nat.lt_of_not_le
abbrev Yw:=@Nat.one_pos
abbrev Yx:=@Nat.le_of_eq
abbrev Yy:=@PySem.F.plainAttrs_list
abbrev Yz:=@PySem.F.slot_list_append
abbrev YA:=@PySem.F.type_list_append
abbrev YB:=PyProof.Rows.SortSt->Prop
abbrev YC:=PySem.Shared->Prop
abbrev YD:=PySem.SetTable
noncomputable section
local macro_rules | `(tactic| trivial) => `(tactic| first|exact .inl rfl|exact .inr rfl|assumption)
local macro_rules | `(()) => `(by first|lia|omega|(simp;done)|grind|simp_all)
abbrev Ua:=@Nat.zero_le
abbrev Ub:=@List.length_append
abbrev Uc:=@List.map_append
abbrev Ud:=@Sum.inl
abbrev Ue:=@Bool.and_eq_true
abbrev Uf:=@List.mem_of_getElem?
abbrev Ug:=@Nat.lt_trans
abbrev Uh:=@List.append_assoc
abbrev Ui:=@Array.length_toList
abbrev Uj:=@Nat.le_add_right
abbrev Ul:=@Array.size_map
abbrev Uo:=@Nat.le_of_lt_succ
abbrev Uq:=@List.mem_cons
abbrev Ur:=@List.mem_append_right
abbrev Us:=@List.length_singleton
abbrev Ut:=@List.getD_eq_getElem?_getD
abbrev Uu:=@List.drop_eq_getElem_cons
abbrev Uv:=@List.getElem_mem
abbrev Uw:=@List.not_mem_nil
abbrev Uy:=@List.length_take
abbrev Uz:=@Nat.le_of_succ_le
abbrev UA:=@Array.getElem?_eq_getElem
abbrev UB:=@List.getElem_of_mem
abbrev UC:=@Nat.mod_lt
abbrev UD:=@Nat.lt_of_le_of_ne
abbrev UE:=@Nat.lt_succ_of_lt
abbrev UF:=@Bool.false_eq_true
abbrev UG:=@List.length_set
abbrev UH:=@List.all_cons
abbrev UI:=@Nat.blt
abbrev UJ:=@Nat.blt_eq
abbrev UK:=@Nat.lt_succ_self
abbrev UL:=@Nat.lt_of_le_of_lt
abbrev UM:=@List.take_append_drop
abbrev UN:=@Nat.succ.inj
abbrev UO:=@List.getElem?_append_left
abbrev UP:=@Sum.inr
abbrev UQ:=@Array.getElem?_map
abbrev UR:=@Nat.not_lt_zero
abbrev US:=@List.getElem?_append_right
abbrev UT:=@Nat.mod_eq_of_lt
abbrev UU:=@List.take_length
abbrev UV:=@List.filterMap_cons
abbrev UW:=@List.getElem?_set_self
abbrev UX:=@List.take_of_length_le
abbrev UY:=@Nat.lt_of_succ_lt
abbrev UZ:=@List.map_congr_left
abbrev U0:=@List.pairwise_map
abbrev U4:=@Int.le_refl
abbrev U5:=@Int.emod_nonneg
abbrev U6:=@Int.emod_lt_of_pos
abbrev U7:=@Nat.ne_of_gt
abbrev U8:=@Bool.or_eq_true
abbrev U9:=@Nat.sub_le
abbrev Va:=@Nat.exists_eq_add_of_le
abbrev Vb:=@List.drop_length
abbrev Vc:=@List.all_eq_true
abbrev Vd:=@Nat.succ_pos
abbrev Ve:=@Nat.lt_trichotomy
abbrev Vf:=@Nat.lt_or_ge
abbrev Vg:=@Bool.eq_iff_iff
abbrev Vh:=@List.drop_eq_nil_of_le
abbrev Vi:=@List.foldl_cons
abbrev Vj:=@Nat.min_eq_left
abbrev Vk:=@Array.ext'
abbrev Vl:=@Nat.le_succ_of_le
abbrev Vm:=@Array.getElem?_toList
abbrev Vn:=@Nat.eq_zero_or_pos
abbrev Vo:=@Array.forIn_toList
abbrev Vp:=@List.foldl_append
abbrev Vq:=@List.getElem?_eq_none
abbrev Vr:=@List.take_add_one
abbrev Vs:=@Int.zero_add
abbrev Vt:=@List.getElem?_replicate
abbrev Vu:=@List.zip_cons_cons
abbrev Vv:=@List.take_succ
abbrev Vw:=@Nat.add_sub_of_le
abbrev Vx:=@List.Perm.trans
abbrev Vy:=@Nat.succ_le_succ
abbrev Vz:=@List.Perm.refl
abbrev VA:=@Nat.lt_of_add_lt_add_left
abbrev VB:=@List.any_eq_true
abbrev VC:=@List.nodup_nil
abbrev VD:=@List.length_filter_le
abbrev VE:=@List.any_eq_false
abbrev VF:=@List.mem_append_left
abbrev VG:=@Array.swapIfInBounds_def
abbrev VH:=@List.pairwise_append
abbrev VI:=@Array.size_extract
abbrev VJ:=@Nat.add_sub_cancel_left
abbrev VL:=@List.getElem_map
abbrev VM:=@Array.mem_toList_iff
abbrev VN:=@Array.getElem_mem
abbrev VO:=@List.ext_getElem?
abbrev VP:=@Int.ediv_le_self
abbrev VQ:=@List.getLastD_concat
abbrev VR:=@List.getElem?_take_of_lt
abbrev VS:=@List.getElem?_zip_eq_some
abbrev VT:=@List.extract_eq_drop_take
abbrev VU:=@Nat.le_of_add_le_add_left
abbrev VV:=@Array.getElem?_eq_none
abbrev VW:=@List.pairwise_singleton
abbrev VX:=@Array.getD_eq_getD_getElem?
abbrev VY:=@List.Nodup.length_le_of_subset
abbrev Ja:=@List.mem_map
abbrev Jb:=@List.mem_append
abbrev Jc:=@List.getElem?_eq_some_iff
abbrev Jd:=@List.mem_singleton
abbrev Je:=@List.mem_filter
abbrev Jf:=@List.map_eq_nil_iff
abbrev Jg:=@Option.bind_eq_some_iff
abbrev Jh:=@List.mem_range
abbrev Ji:=@List.pairwise_cons
abbrev Jj:=@List.pairwise_iff_getElem
abbrev Jk:=@Option.map_eq_some_iff
abbrev Jl:=@List.nodup_cons
abbrev Jm:=@List.mem_iff_getElem?
abbrev Jn:=@Nat.lt_succ_iff
abbrev Jo:=@List.length_eq_zero_iff
abbrev Jp:=@List.length_pos_iff
abbrev Jq:=@Array.perm_iff_toList_perm
abbrev Jr:=@List.mem_filterMap
abbrev Js:=@Option.isSome_iff_exists
abbrev Jt:=@Bool.and_eq_true_iff
abbrev Ju:=@List.mem_iff_getElem
abbrev Jv:=@Array.getElem?_eq_some_iff
abbrev Jw:=@List.find?_range_eq_none
abbrev Jx:=@List.append_eq_nil_iff
abbrev Jy:=List (Int×Int)
abbrev Jz:=List Jy
namespace L2
abbrev jA:=Sum Int Str
def Wy:jA->Value->Bool
 | .inl k,v=>Value.isInt k v
 | .inr x,v=>Value.isStrOf x v
def mW (w:World):jA->Int
 | .inl k=>hashInt k
 | .inr x=>hashStr w x
def KF:∀{k:jA} {v:Value},Wy k v=true->(∃i t,k=Ud i/\v=Value.int i t)\/(∃x t,k=UP x/\v=Value.str x t)
 | .inl i,v,h=>by
  obtain⟨t,e⟩:=Value.isInt_shape h;exact .inl ⟨i,t,rfl,e⟩
 | .inr x,v,h=>by
  obtain⟨t,e⟩:=Value.isStrOf_shape h;exact .inr ⟨x,t,rfl,e⟩
def DN (i)(t):Wy (.inl i) (.int i t)=true:=by simp[Wy,Value.isInt]
def LK (x)(t):Wy (.inr x) (.str x t)=true:=by simp[Wy,Value.isStrOf]
def LL (a b):decide ((Ud a:jA)=Ud b)=(a == b):=()
def LM (a b):decide ((UP a:jA)=UP b)=decide (a=b):=()
def LN (a)(b):decide ((Ud a:jA)=UP b)=false:=rfl
def LO (a)(b):decide ((UP a:jA)=Ud b)=false:=rfl
def Q2 (prog:Program)(w:World):PySem.KeyKind prog w jA where
 is:=Wy
 hash:=mW w
 inj:=λv a b g f=>by
  rcases KF g with ⟨i,t,rfl,rfl⟩|⟨x,t,rfl,rfl⟩
  .rcases KF f with ⟨j,u,rfl,e⟩|⟨y,u,rfl,e⟩
   .injection e with e1 _;rw[e1]
   .exact nomatch e
  .rcases KF f with ⟨j,u,rfl,e⟩|⟨y,u,rfl,e⟩
   .exact nomatch e
   .injection e with e1 _;rw[e1]
 byValue:=λk v h=>by
  rcases KF h with ⟨i,t,rfl,rfl⟩|⟨x,t,rfl,rfl⟩<;>rfl
 pyHash:=λc h=>by
  rcases KF c with ⟨i,t,rfl,rfl⟩|⟨x,t,rfl,rfl⟩
  .exact wpAny_pyHash_int h
  .exact wpAny_pyHash_str h
 eqBool:=λl c h=>by
  rcases KF l with ⟨i,t,rfl,rfl⟩|⟨x,t,rfl,rfl⟩
  .rcases KF c with ⟨j,u,rfl,rfl⟩|⟨y,u,rfl,rfl⟩
   .rw[LL] at h;exact wpAny_eqBool_int h
   .rw[LN] at h;exact SeqAt.EqAt.int_str i t y u _ _ _ _ h
  .rcases KF c with ⟨j,u,rfl,rfl⟩|⟨y,u,rfl,rfl⟩
   .rw[LO] at h;exact SeqAt.EqAt.str_int x t j u _ _ _ _ h
   .rw[LM] at h;exact wpAny_eqBool_str h
 «strs»:=λk x t v h=>by
  rcases KF h with ⟨i,u,rfl,e⟩|⟨y,u,rfl,e⟩
  .exact nomatch e
  .injection e with e1 _
   subst e1;cases v<;>rfl
def LQ (prog)(w)(i)(t):(Q2 prog w).is (.inl i) (.int i t)=true:=DN i t
def LR (prog)(w)(x)(t):(Q2 prog w).is (.inr x) (.str x t)=true:=LK x t
inductive V where
 |non|bl (b:Bool)|int (i:Int)|str (x:Str)|byt (b:Array UInt8)|flt (b:UInt64)|ref (a:Addr)|ty (n:String)
 deriving DecidableEq
abbrev _root_.YE:=List V
abbrev _root_.YF:=Option V
def js:V->Value->Prop
 | .non,u=>u=Value.none
 | .bl b,u=>u=Value.bool b
 | .int i,u=>∃t,u=Value.int i t
 | .str x,u=>∃t,u=Value.str x t
 | .byt b,u=>∃t,u=Value.bytes b t
 | .flt b,u=>∃t,u=Value.float b t
 | .ref a,u=>u=Value.ref a
 | .ty n,u=>u=Value.type n
abbrev jv:YE->List Value->Prop:=Paired js
theorem jv.length {a:YE}{b:Yf}(r:jv a b):a.length=b.length:=Paired.length r
theorem jv.get:∀{a:YE} {b:Yf} {i:Nat} {x:V},jv a b->a[i]? = some x->∃u,b[i]? = some u/\js x u
 |_,_,_,_,.nil,e=>by simp at e
 |_,_,0,_,.cons r _,e=>by simp_all
 |_,_,i+1,x,.cons _ t,e=>by
  obtain⟨u,c,f⟩:=jv.get t (by simpa using e)
  simp_all
theorem jv.set {x:V}{u:Value}(r:js x u):∀{a:YE} {b:Yf} i,jv a b->jv (a.set i x) (b.set i u)
 |_,_,_,.nil=>.nil
 |_,_,0,.cons _ t=>.cons r t
 |_,_,i+1,.cons q t=>.cons q (jv.set r i t)
def jv.append:∀{a ys:YE} {b c:Yf},jv a b->jv ys c->jv (a++ys) (b++c):=λh s=>by
 induction h with
 |nil=>exact s
 |cons r _ e=>exact .cons r e
def jv.none_of:∀{a:YE} {b:Yf} {i:Nat},jv a b->a[i]? = none->b[i]? = none:=λ{a b i} r e=>by
 have c:=r.length
 simp_all
def xi:YF->Option Value->Prop
 |some v,some u=>js v u
 |none,none=>True
 |_,_=>False
def KV {κ: Type}:List (κ × V)->List (κ × Value)->Prop:=Paired λ(p:κ × V) (q:κ × Value)=>p.1=q.1/\js p.2 q.2
def kV:jA->V
 | .inl i=>.int i
 | .inr x=>.str x
inductive HO where
 |lst (xs:YE)
 |tup (xs:YE)
 |dK (kvs:List (jA×V))|dT (kvs:List (List jA×V))
 |set (S:Int->Bool) (n:Nat)
 |ins (C dx:Addr) (fs:List (Str×V))
 |own (x:Addr)
 |xd (fs:List (Str×V))
 |met (f x:Addr)
 |rng (lo hi:Int)
 |frz (o:Obj) (u:HO)
 |tbl (ps:Yn)
 |ext (φ: Heap->Prop)
abbrev Hp:=Addr->Option HO
def upd (H:Hp)(a:Addr)(o:HO):Hp:=λb=>if b=a then some o else H b
def JL {H:Hp}{a:Addr}{o:HO}:upd H a o a=some o:=by simp_all [upd]
def JH {H:Hp}{a b:Addr}{o:HO}(h:b≠a):upd H a o b=H b:=by simp_all [upd]
def Ke {H:Hp}{a b:Addr}{o:HO}(h:H a=some o)(h':H b=none):a≠b:=()
section
variable (P:Program)(w:World)
def xT (H:Hp)(h:Heap)(a:Addr):HO->Prop
 | .lst b=>b.length<=sizeLine/\∃(its:Yf) (n:Nat),jv b its/\h.get? a=some { cls:=.type "list",data:=.seq its.toArray n }
 | .tup b=>(b.length<=sizeLine/\∃o,h.get? a=some o/\o.dict=none)/\∃its:Yf,jv b its/\IsTup h a its.toArray
 | .dK kvs=>kvs.length<=sizeLine/\(a == sysModules)=false/\∃c,KV kvs c/\h.DictOf (Q2 P w) a c
 | .dT kvs=>kvs.length<=sizeLine/\(a == sysModules)=false/\∃b:List (List jA×Addr×Value),
  Paired (λ(p:List jA×V) (q:List jA×Addr×Value)=>p.1=q.1/\H q.2.1=some (.tup (p.1.map kV))/\js p.2 q.2.2) kvs b /\
  ∃o es ep,h.get? a=some o/\o.ExactDict/\o.data=.dict es ep/\es.toList=b.map (entryOfKey (tupleKind (Q2 P w)))/\(b.map (·.1)).Nodup
 | .set S n=>h.SetOf (intKind P w) a S n
 | .ins C dx fs=>H dx=some (.own a)/\fs.length<=1000/\dx≠a/\h.get? a=some (W.instObj C dx) /\
  ∃mA,h.Ns1 dx mA/\(∀f,xi (fs.lookup f) (mA f))/\PySem.Within mA (fs.map (·.1))
 | .own _=>∃o,h.get? a=some o
 | .xd fs=>∃mA,h.Ns1 a mA/\∀f,xi (fs.lookup f) (mA f)
 | .rng lo hi=>∃t u v,h.get? a=some { cls:=.type "range",data:=.fields #[.int lo t,.int hi u,.int 1 v] }
 | .frz o u=>h.get? a=some o/\xT H h a u
 | .tbl ps=>h.get? a=some { cls:=.none,data:=.fields ps }
 | .met f x=>h.get? a=some (W.methodObj (.ref f) (.ref x))
 | .ext φ => φ h/\(∃o,h.get? a=some o)/\∀e g:Heap,φ e->(∀o,e.get? a=some o->g.get? a=some o) -> φ g
def qL (H:Hp)(h:Heap):Prop:=∀a o,H a=some o->xT P w H h a o
end
section
variable {P:Program}{w:World}{H H':Hp}{h h':Heap}{a:Addr}{o:HO}
theorem xT.lt (x:xT P w H h a o):a<h.objs.size:=by
 cases o with
 |lst c=>obtain⟨_,_,_,_,e⟩:=x;exact Zk e
 |tup c=>obtain⟨_,_,_,p⟩:=x;exact p.lt
 |dK b=>obtain⟨_,_,_,_,o,_,_,e,_⟩:=x;exact Zk e
 |dT b=>obtain⟨_,_,_,_,o,_,_,e,_⟩:=x;exact Zk e
 |set S n=>obtain⟨o,_,_,_,e,_⟩:=x;exact Zk e
 |ins C g fs=>exact Zk x.2.2.2.1
 |own y=>obtain⟨_,e⟩:=x;exact Zk e
 |xd fs=>obtain⟨_,⟨_,_,_,e,_⟩,_⟩:=x;exact Zk e
 |rng lo i=>obtain⟨_,_,_,e⟩:=x;exact Zk e
 |frz j u=>exact Zk x.1
 |tbl ps=>exact Zk (x)
 |met f y=>exact Zk (x)
 |ext φ => obtain⟨_,⟨_,e⟩,_⟩:=x;exact Zk e
def xB {α β: Type}{F G:α -> β -> Prop}:∀{l₁:List α} {l₂:List β},Paired F l₁ l₂->(∀a b,F a b->G a b)->Paired G l₁ l₂:=λh f=>by
 induction h with
 |nil=>exact .nil
 |cons r _ c=>exact .cons (f _ _ r) c
def xT.stay (x:xT P w H h a o)(k:∀b u,(b=a\/H b=some (.own a))->h.get? b=some u->h'.get? b=some u)
 (m:∀b,H b=some (.own a)->H' b=some (.own a)) (E:∀b i,H b=some (.tup i)->H' b=some (.tup i)):xT P w H' h' a o:=by
 induction o with
 |lst i=>obtain⟨z,its,n,r,e⟩:=x;exact⟨z,its,n,r,k _ _ (.inl rfl) e⟩
 |tup i=>obtain⟨⟨z,j,F,dd⟩,its,r,g,e,c⟩:=x;exact⟨(),its,r,g,k _ _ (.inl rfl) e,c⟩
 |dK l=>have ⟨z,y,s,r,g,es,ep,e,c⟩:=x;exact⟨z,y,s,r,g,es,ep,k _ _ (.inl rfl) e,c⟩
 |dT l =>
  obtain⟨z,y,i,r,g,es,ep,e,c⟩:=x;exact⟨z,y,i,xB r (),g,es,ep,k _ _ (.inl rfl) e,c⟩
 |set S n=>have ⟨g,es,ep,t,e,c⟩:=x;exact⟨g,es,ep,t,k _ _ (.inl rfl) e,c⟩
 |ins C G fs =>
  obtain⟨d,z,ne,e,mA,⟨j,es,ep,A,c⟩,r⟩:=x;exact⟨m _ d,z,ne,k _ _ (.inl rfl) e,mA,⟨j,es,ep,k _ _ (.inr d) A,c⟩,r⟩
 |own y=>have ⟨g,e⟩:=x;exact⟨g,k _ _ (.inl rfl) e⟩
 |xd fs=>obtain⟨mA,⟨j,es,ep,e,c⟩,r⟩:=x;exact⟨mA,⟨j,es,ep,k _ _ (.inl rfl) e,c⟩,r⟩
 |rng lo I=>have ⟨t,u,v,e⟩:=x;exact⟨t,u,v,k _ _ (.inl rfl) e⟩
 |frz g u B=>exact⟨k _ _ (.inl rfl) x.1,B x.2⟩
 |tbl ps =>
  exact k a _ (.inl rfl) x
 |met f y =>
  exact k a _ (.inl rfl) x
 |ext φ => have ⟨p,⟨o,e⟩,st⟩:=x;exact⟨st _ _ p λo q=>k _ _ (.inl rfl) q,⟨o,k _ _ (.inl rfl) e⟩,st⟩
theorem qL.lt (x:qL P w H h)(e:H a=some o):a<h.objs.size:=(x a o e).lt
def qL.fresh (x:qL P w H h)(e:h.objs.size<=a):H a=none:=by
 cases q:H a with
 |none=>rfl
 |some u=>exact Zn (Zg (x.lt q) e) (Zy _)
def qL.kept (x:qL P w H h)(k:∀b u,h.get? b=some u->h'.get? b=some u):qL P w H h':=λa o e =>
 (x a o e).stay () (λ_ q=>q) λ_ _ q=>q
def qL.laid (x:qL P w H h)(k:∀b u,h.get? b=some u->h'.get? b=some u)(hp:h.objs.size<=a)(new:xT P w (upd H a o) h' a o):qL P w (upd H a o) h':=λb u e=>by
 have f:=x.fresh hp;by_cases g:b=a
 .simp_all [JL]
 .rw[JH g] at e;exact(x b u e).stay () (λc q=>by rwa [JH (Ke q f)]) λc i q=>by rwa [JH (Ke q f)]
end
def Rd (H:Hp)(a:Addr)(u:HO):Prop:=H a=some u\/∃o,H a=some (.frz o u)
def Rd.ok {P:Program}{w:World}{H:Hp}{h:Heap}{a:Addr}{u:HO}(r:Rd H a u)(x:qL P w H h):xT P w H h a u:=by
 rcases r with r|⟨o,r⟩
 .exact x a u r
 .obtain⟨_,q⟩:=x a _ r;exact q
def fJ:Option HO->Prop
 |some (.lst _)=>True
 |some (.dK _)=>True
 |some (.dT _)=>True
 |some (.set _ _)=>True
 |some (.ins _ _ _)=>True
 |some (.ext _)=>True
 |_=>False
section
variable {P:Program}{w:World}{H:Hp}{h h':Heap}{x e:Addr}{o':HO}
def qL.write (ok:qL P w H h)(l:fJ (H x))(o:e=x\/H e=some (.own x))(k:∀b u,b≠e->h.get? b=some u->h'.get? b=some u)(i:∃u,h'.get? e=some u)
 (new:xT P w (upd H x o') h' x o'):qL P w (upd H x o') h':=λb u q=>by
 have a:∀c y,H c=some (.own y)->c≠x:=λc y r z=>by subst z;rwa [r] at l
 have f:∀c g,H c=some (.tup g)->c≠x:=λc g r z=>by subst z;rwa [r] at l
 by_cases n:b=x
 .simp_all [JL]
 .rw[JH n] at q;by_cases j:b=e
  .have m:H b=some (.own x):=by
    simp_all
   rw[q] at m;cases m;obtain⟨v,p⟩:=i;exact⟨v,by rwa [j]⟩
  .refine(ok b u q).stay (λc v s r=>k c v ?_ r) (λc r=>by rwa [JH (a c b r)]) λc g r=>by rwa [JH (f c g r)]
   grind
end
structure Un (fs ex:Yl)(H H':Hp)(h h':Heap):Prop where
 keep:∀b o,h.get? b=some o->H b=none->b∉fs->b∉ex->h'.get? b=some o
 slot:∀b o,h.get? b=some o->H b=none->b∈fs->b∉ex->∃sl,h'.get? b=some { o with slots:=sl }
 free:∀b o,h.get? b=some o->H b=none->b∉ex->H' b=none
 there:∀b o,h.get? b=some o->b∉ex->∃o',h'.get? b=some o'
 tups:∀b xs,H b=some (.tup xs)->H' b=some (.tup xs)
 frzs:∀b o u,H b=some (.frz o u)->H' b=some (.frz o u)
 tbls:∀b ps,H b=some (.tbl ps)->∃more,H' b=some (.tbl (ps++more))
section
variable {fs fs' ex ex':Yl}{H H1 H2:Hp}{h h1 h2 h':Heap}{a x e:Addr}{o:HO}
def Un.any (u:Un fs ex H H1 h h1){b:Addr}{c:Obj}(q:h.get? b=some c)(n:H b=none)(f:b∉ex):∃i,h1.get? b=some { c with slots:=i }:=by
 by_cases g:b∈fs
 .exact u.slot b c q n g f
 .exact⟨c.slots,u.keep b c q n g f⟩
def Un.kept (k:∀b u,h.get? b=some u->h'.get? b=some u):Un fs ex H H h h':=
 ⟨(),λb c q _ _ _=>⟨c.slots,k b c q⟩,λ_ _ _ n _=>n,(),λ_ _ q=>q,λ_ _ _ q=>q,λ_ ps q=>⟨#[],by rw[q];simp⟩⟩
theorem Un.refl:Un fs ex H H h h:=Un.kept λ_ _ q=>q
def Un.laid (k:∀b u,h.get? b=some u->h'.get? b=some u)(hp:h.objs.size<=a)(c:H a=none):Un fs ex H (upd H a o) h h' where
 keep:=by grind
 slot:=λb u q _ _ _=>⟨u.slots,k b u q⟩
 free:=λb u q n _=>by rwa [JH (Zi (Zg (Zk q) hp))]
 there:=by grind
 tups:=λb f q=>by rwa [JH (Ke q c)]
 frzs:=λb u f q=>by rwa [JH (Ke q c)]
 tbls:=λb ps q=>⟨#[],by rw[JH (Ke q c),q];simp⟩
def Un.write (f:fJ (H x))(m:e=x\/H e=some (.own x))(k:∀b u,b≠e->h.get? b=some u->h'.get? b=some u)(g:∃u,h'.get? e=some u):Un fs ex H (upd H x o) h h':=by
 have i:∀b,H b=none->b≠x:=λb n z=>by subst z;rwa [n] at f
 have j:∀b,H b=none->b≠e:=by grind
 have c:∀b u,H b=some u->¬fJ (some u)->b≠x:=by grind
 refine⟨(),λb u q n _ _=>⟨u.slots,k b u (j b n) q⟩,λb u q n _=>by rwa [JH (i b n)],λb u q _=>?_,
  λb l q=>by rwa [JH (c b _ q λz=>z)],λb u l q=>by rwa [JH (c b _ q λz=>z)],λb ps q=>⟨#[],by rw[JH (c b _ q λz=>z),q];simp⟩⟩
 grind
end
def trk (h:Heap)(H:Hp):Yl:=(List.range h.objs.size).filter λa=>(H a).isSome
def yq (h:Heap)(H:Hp):Heap:=W.hideAll h (trk h H)
def LS (h)(H):(yq h H).objs.size=h.objs.size:=W.hideAll_size _ _
def LU {h:Heap}{H:Hp}{b:Addr}{o:Obj}(e:h.get? b=some o)(n:H b=none):(yq h H).get? b=some o:=
 W.hideAll_get _ e λa=>by
  have q:=(Je.mp a).2
  simp_all
def LV {h:Heap}{H:Hp}{b:Addr}{o:Obj}(e:(yq h H).get? b=some o):h.get? b=some o/\H b=none:=by
 have a:=W.of_hideAll (trk h H) e;refine⟨a,?_⟩;cases q:H b with
 |none=>rfl
 |some x =>
  have c:b∈trk h H:=Je.mpr ⟨Jh.mpr (Zk a),by simp[q]⟩;have z:(yq h H).get? b=none:=W.hideAll_none (trk h H) c
  simp_all
structure Mod (K:W.Frag)(mg:Ye)(base:Heap):Prop where
 kin:K.In base
 glob:base.Ns mainGlobals mg
 blt:∃mb,base.Ns builtinsNs mb/\∀x:Str,x ≠ "__name__" -> mb x=bootBuiltins x
 nolimit:base.NoLimit
structure Cx where
 prog:Program
 w:World
 K:W.Frag
 mg:Ye
 base:Heap
 A:Around
 N:Yk
 s₀:Shared
 H₀:Hp
 env:Env
 outer:List Env
 stack:List Env
 ex:Yl
 fn:Str->Bool
 calm:Bool
 pn:Yb
 xe:Ya
abbrev _root_.YI(X:Cx){α:Type}(m:Sem α):=wpAny (model X.prog X.w) X.A m
abbrev _root_.YJ(P:Program)(w:World)(A:Around){α:Type}(m:Sem α):=wpAny (model P w) A m
abbrev _root_.YK(P:Program)(w:World)(A:Around)(E:Value->Shared->Prop)(s:Shared){α:Type}(m:StateT PyProof.Rows.SortSt Sem α):=PyProof.Rows.wpS (model P w) A E s m
def xb (l:List Env):Yl:=l.filterMap (·.frame)
abbrev Cx.fs (X:Cx):Yl:=xb X.outer
def bJ (a:Scope)(x:Str):Prop:=a.names.lookup x=some .local\/a.names.lookup x=some .cell\/a.names.lookup x=some .free
def yM (a:Scope)(x:Str):Prop:=a.names.lookup x=some .local\/a.names.lookup x=some .cell
def rk (env:Env)(h:Heap)(m:Ye)(x:Str)(u:Value):Prop:=
 (env.kindOf x=some .local/\m x=some u)\/((env.kindOf x=some .cell\/env.kindOf x=some .free)/\∃c,env.cells.lookup x=some c/\h.IsCell c (some u))
structure Cx.Ok (X:Cx):Prop where
 mod:Mod X.K X.mg X.base
 kind:X.env.scope.kind=.function
 glob:X.env.globals=mainGlobals
 blt:X.env.builtins=builtinsNs
 above:X.s₀.heap.objs.size<=X.env.locals
 inj:∀x y c,X.env.cells.lookup x=some c->X.env.cells.lookup y=some c->x=y
 has:∀x,(X.env.kindOf x=some .cell\/X.env.kindOf x=some .free)->∃c,X.env.cells.lookup x=some c
 cab:∀x c,X.fn x=true->X.env.cells.lookup x=some c->X.s₀.heap.objs.size<=c
 hd:X.calm=true->X.A.handled=none
 frames:X.A.frames=some X.stack
 stk:X.stack=X.outer\/(X.stack=X.env::X.outer/\X.env.frame=some X.env.locals)
 exf:∀b∈X.ex,b≠X.env.locals/\∀x c,X.env.cells.lookup x=some c->c≠b
 bs:∀b o,X.base.get? b=some o->X.s₀.heap.get? b=some o/\X.H₀ b=none
 bsz:X.base.objs.size<=X.s₀.heap.objs.size
 noex:∀b o,X.base.get? b=some o->b∉X.ex
 exfs:∀b∈X.ex,b∉X.fs
 funs:X.s₀.heap.FunFrames X.base X.outer
 frf:∀b∈X.fs,X.H₀ b=none
structure Inv (X:Cx)(Y:Yb)(Z: List YF)(H:Hp)(s:Shared):Prop where
 ok:X.Ok
 os:s.os=X.s₀.os
 bare:AllBare s.gens
 base:Un X.fs X.ex X.H₀ H X.s₀.heap s.heap
 loc:∃m,s.heap.Ns X.env.locals m/\∀(i:Nat) (x:Str) (v:V),X.N[i]? = some x -> Z[i]? = some (some v)->bJ X.env.scope x->∃u,js v u/\rk X.env s.heap m x u
 cell:∀x c,X.env.cells.lookup x=some c->∃v,s.heap.IsCell c v
 free:H X.env.locals=none
 freeC:∀x c,X.env.cells.lookup x=some c->H c=none
 pin:∀p∈X.pn++Y,s.heap.get? p.1=some p.2/\H p.1=none/\p.1≠X.env.locals/\p.1∉X.fs/\∀v,p.2.data ≠ .cell v
 hok:qL X.prog X.w H s.heap
 len:Z.length=X.N.length
section
variable {X:Cx}{Y:Yb}{Z: List YF}{H H':Hp}{s:Shared}{h':Heap}
def Cx.Ok.nofr (ok:X.Ok){b:Addr}{o:Obj}(e:X.base.get? b=some o):b∉X.fs:=λa=>by
 have:=(ok.funs.mem a).1
 simp_all
theorem Inv.bs (I:Inv X Y Z H s):∀b o,X.base.get? b=some o->s.heap.get? b=some o/\H b=none:=λb o e =>
 ⟨I.base.keep b o (I.ok.bs b o e).1 (I.ok.bs b o e).2 (I.ok.nofr e) (I.ok.noex b o e),I.base.free b o (I.ok.bs b o e).1 (I.ok.bs b o e).2 (I.ok.noex b o e)⟩
def Inv.bk (I:Inv X Y Z H s):∀b o,X.base.get? b=some o->s.heap.get? b=some o:=λb o e=>(I.bs b o e).1
theorem Inv.mod (I:Inv X Y Z H s):Mod X.K X.mg X.base:=I.ok.mod
def Inv.kIn (I:Inv X Y Z H s):X.K.In s.heap:=I.ok.mod.kin.keeps I.bk
theorem Inv.lt (I:Inv X Y Z H s):X.env.locals<s.heap.objs.size:=let ⟨_,hn,_⟩:=I.loc;hn.lt
theorem Inv.sz (I:Inv X Y Z H s):X.s₀.heap.objs.size<=s.heap.objs.size:=Zh I.ok.above (Zz I.lt)
def Inv.nofs (I:Inv X Y Z H s){a:Addr}(h:s.heap.objs.size<=a):a∉X.fs:=λb=>by
 obtain⟨_,o,c,_⟩:=I.ok.funs.mem b;exact Zn (Zg (Zk c) (Zh I.sz h)) (Zy _)
def Inv.cne (I:Inv X Y Z H s):∀x c,X.env.cells.lookup x=some c->c≠X.env.locals:=λx c e z=>by
 obtain⟨v,o,f,g⟩:=I.cell x c e;obtain⟨m,⟨h,es,ep,a,b,_⟩,_⟩:=I.loc
 simp_all
theorem Inv.funs (I:Inv X Y Z H s):s.heap.FunFrames X.base X.outer:=by
 have all:∀l,(∀b∈xb l,b∈X.fs)->X.s₀.heap.FunFrames X.base l->s.heap.FunFrames X.base l:=by
  intro l
  induction l with
  |nil=>intro _ _;trivial
  |cons env r f =>
   intro hs g;obtain⟨h,⟨L,o,i,j,m,n⟩,p⟩:=g;have a:L∈X.fs:=hs L (by simp_all [xb,UV]);obtain⟨q,e⟩:=I.base.slot L o m (I.ok.frf L a) a λz=>I.ok.exfs L z a;exact⟨h,⟨L,_,i,j,e,n⟩,f (λb c=>hs b (by simp_all [xb,UV])) p⟩
 exact all X.outer (λ_ c=>c) I.ok.funs
theorem Inv.stack (I:Inv X Y Z H s):s.heap.FunFrames X.base X.stack:=by
 rcases I.ok.stk with e|⟨e,hf⟩
 .rw[e];exact I.funs
 .rw[e];have ⟨m,a,_⟩:=I.loc;exact .cons (by rw[I.ok.kind];decide) hf a (Heap.get?_none_of_le (Zh I.ok.bsz I.ok.above)) I.funs
def Inv.stkSub (I:Inv X Y Z H s):∀b∈xb X.stack,b∈X.env.locals::X.fs:=λb a=>by
 rcases I.ok.stk with e|⟨e,hf⟩
 .simp_all
 simp_all [xb]
def Inv.stkFree (I:Inv X Y Z H s):∀b∈xb X.stack,H b=none:=λb hb=>by
 rcases Uq.mp (I.stkSub b hb) with e|hb
 .rw[e];exact I.free
 .obtain⟨_,o,a,_⟩:=I.ok.funs.mem hb;exact I.base.free b o a (I.ok.frf b hb) λz=>I.ok.exfs b z hb
def Inv.step {P:Array GenState}{t':Nat}{T:Drawn}{ch:Yl}(I:Inv X Y Z H s)
 (y:∀b∈ch,(b∈X.ex\/X.s₀.heap.objs.size<=b)/\b≠X.env.locals/\(∀x c,X.env.cells.lookup x=some c->c≠b)/\∀p∈X.pn++Y,p.1≠b)
 (keep:∀b o,b≠X.env.locals->b∉X.fs->b∉ch->s.heap.get? b=some o->H b=none->h'.get? b=some o)
 (j:∀b o,b≠X.env.locals->b∈X.fs->b∉ch->s.heap.get? b=some o->H b=none->∃K,h'.get? b=some { o with slots:=K }) (free:∀b o,b∉ch->s.heap.get? b=some o->H b=none->H' b=none)
 (A:∀b o,b∉ch->s.heap.get? b=some o->∃E,h'.get? b=some E)
 (F:∀b t,H b=some (.tup t)->H' b=some (.tup t)) (G:∀b o u,H b=some (.frz o u)->H' b=some (.frz o u)) (Q:∀b ps,H b=some (.tbl ps)->∃more,H' b=some (.tbl (ps++more)))
 (ns:∀m,s.heap.Ns X.env.locals m->h'.Ns X.env.locals m) (L:qL X.prog X.w H' h') (U:AllBare P):
 Inv X Y Z H' { s with heap:=h',gens:=P,drawn:=T,toks:=t' }:=by
 have J:∀b o,X.s₀.heap.get? b=some o->b≠X.env.locals:=λb o e=>Zi (Zg (Zk e) I.ok.above);have h:∀b o,X.s₀.heap.get? b=some o->b∉X.ex->b∉ch:=λb o e a B=>by
  rcases(y b B).1 with z|z
  .exact a z
  .exact Zn (Zg (Zk e) z) (Zy _)
 have f:∀x c,X.env.cells.lookup x=some c->∀v,s.heap.IsCell c v->h'.IsCell c v:=λx c e v zh=>by
  obtain⟨o,C,M⟩:=zh;have g:c∉ch:=by grind
  by_cases R:c∈X.fs
  .obtain⟨K,q⟩:=j c o (I.cne x c e) R g C (I.freeC x c e);exact⟨_,q,M⟩
  .exact⟨o,keep c o (I.cne x c e) R g C (I.freeC x c e),M⟩
 refine⟨I.ok,I.os,U,⟨λb o e n B a=>?_,λb o e n B a=>?_,λb o e n a=>?_,λb o e a=>?_,λb t e=>F b t (I.base.tups b t e),λb o t e=>G b o t (I.base.frzs b o t e),λb ps e=>?_⟩,?_,λx c e=>?_,?_,λx c e=>?_,λp hp=>?_,L,I.len⟩
 .exact keep b o (J b o e) B (h b o e a) (I.base.keep b o e n B a) (I.base.free b o e n a)
 .obtain⟨K,w⟩:=I.base.slot b o e n B a;obtain⟨N,O⟩:=j b _ (J b o e) B (h b o e a) w (I.base.free b o e n a);exact⟨N,O⟩
 .obtain⟨E,w⟩:=I.base.there b o e a;exact free b E (h b o e a) w (I.base.free b o e n a)
 .obtain⟨E,w⟩:=I.base.there b o e a;exact A b E (h b o e a) w
 .obtain⟨m1,w⟩:=I.base.tbls b ps e
  grind
 .obtain⟨m,hn,hl⟩:=I.loc;refine⟨m,ns m hn,λi x v w O e3=>?_⟩;obtain⟨u,r,l⟩:=hl i x v w O e3;refine⟨u,r,?_⟩;rcases l with l|⟨k,c,e,z⟩
  .exact .inl l
  .exact .inr ⟨k,c,e,f x c e _ z⟩
 .obtain⟨v,z⟩:=I.cell x c e;exact⟨v,f x c e v z⟩
 .obtain⟨m,⟨o,_,_,C,_⟩,_⟩:=I.loc;exact free _ o (λz=>(y _ z).2.1 rfl) C I.free
 .obtain⟨v,o,C,M⟩:=I.cell x c e;exact free c o () C (I.freeC x c e)
 .obtain⟨e,n,ne,S,d⟩:=I.pin p hp;have g:=λz=>(y p.1 z).2.2.2 p hp rfl;exact⟨keep p.1 p.2 ne S g e n,free p.1 p.2 g e n,ne,S,d⟩
def Inv.un {t':Nat}(I:Inv X Y Z H s)(u:Un X.fs [] H H' s.heap h')(c:qL X.prog X.w H' h'):Inv X Y Z H' { s with heap:=h',toks:=t' }:=have ⟨m,⟨o,es,ep,h,r⟩,_⟩:=id I.loc;have ⟨p,i⟩:=u.any h I.free ();I.step (ch:=[]) () (λb o _ f _ e n=>u.keep b o e n f ()) (λb o _ f _ e n=>u.slot b o e n f ()) (λb o _ e n=>u.free b o e n ()) (λb o _ e=>u.there b o e ()) u.tups u.frzs u.tbls (λq j=>by
 obtain⟨t,es',g,a,l⟩:=j;rw[h] at a;cases a;exact⟨_,es',g,i,l⟩) c I.bare
def Inv.call {l:Array GenState}{t':Nat}{t:Drawn}{ch:Yl}(I:Inv X Y Z H s)(u:Un (xb X.stack) ch H H' s.heap h')(g:qL X.prog X.w H' h')(v:AllBare l)
 (h:∀b∈ch,(b∈X.ex\/X.s₀.heap.objs.size<=b)/\b≠X.env.locals/\(∀x c,X.env.cells.lookup x=some c->c≠b)/\∀p∈X.pn++Y,p.1≠b):
 Inv X Y Z H' { s with heap:=h',gens:=l,drawn:=t,toks:=t' }:=have ⟨m,⟨o,es,ep,q,r⟩,_⟩:=id I.loc;have ⟨B,i⟩:=u.any q I.free ();I.step h (λb o i w a e n=>u.keep b o e n (λz=>(Uq.mp (I.stkSub b z)).elim i w) a) (λb o _ _ a e n=>u.any e n a) (λb o a e n=>u.free b o e n a) (λb o a e=>u.there b o e a) u.tups u.frzs u.tbls (λC y=>by
 obtain⟨E,es',j,f,A⟩:=y;rw[q] at f;cases f;exact⟨_,es',j,i,A⟩) g v
def Inv.turned {t':Nat}{it:Addr}(I:Inv X Y Z H s)(k:∀b o,b≠it->s.heap.get? b=some o->h'.get? b=some o)(i:H it=none)(f:it≠X.env.locals)
 (j:it∈X.ex\/X.s₀.heap.objs.size<=it) (l:∀x c,X.env.cells.lookup x=some c->c≠it) (t:∀p∈X.pn++Y,p.1≠it):Inv X Y Z H { s with heap:=h',toks:=t' }:=by
 refine I.step (ch:=[it]) (λb w=>?_) () (λb o _ _ a e _=>⟨o.slots,k b o (λz=>a (by simp[z])) e⟩) (λ_ _ _ _ n=>n)
  () (λ_ _ e=>e) (λ_ _ _ e=>e) (λb ps e=>⟨#[],by rw[e];simp⟩) (λm g=>?_) (λb u e=>?_) I.bare
 .grind
 .have ⟨o,es,ep,h,r⟩:=g;exact⟨o,es,ep,k _ o (Ne.symm f) h,r⟩
 .refine(I.hok b u e).stay (λc v a q=>k c v ?_ q) (λ_ q=>q) λ_ _ q=>q
  grind
def Inv.tok (I:Inv X Y Z H s)(t):Inv X Y Z H { s with toks:=t }:=I.un Un.refl I.hok
theorem Inv.kept {t':Nat}(I:Inv X Y Z H s)(k:∀b u,s.heap.get? b=some u->h'.get? b=some u):Inv X Y Z H { s with heap:=h',toks:=t' }:=I.un (Un.kept k) (I.hok.kept k)
theorem Inv.laid {a:Addr}{o:HO}{t':Nat}(I:Inv X Y Z H s)(k:∀b u,s.heap.get? b=some u->h'.get? b=some u)(hp:s.heap.objs.size<=a)(new:xT X.prog X.w (upd H a o) h' a o):
 Inv X Y Z (upd H a o) { s with heap:=h',toks:=t' }:=I.un (Un.laid k hp (I.hok.fresh hp)) (I.hok.laid k hp new)
theorem Inv.write {x e:Addr}{o:HO}{t':Nat}(I:Inv X Y Z H s)(c:fJ (H x))(f:e=x\/H e=some (.own x))(k:∀b u,b≠e->s.heap.get? b=some u->h'.get? b=some u)(a:∃u,h'.get? e=some u)
 (new:xT X.prog X.w (upd H x o) h' x o):Inv X Y Z (upd H x o) { s with heap:=h',toks:=t' }:=I.un (Un.write c f k a) (I.hok.write c f k a new)
def Inv.pins_of {Y':Yb}(I:Inv X Y Z H s)(h:∀p∈Y',s.heap.get? p.1=some p.2/\H p.1=none/\p.1≠X.env.locals/\p.1∉X.fs/\∀v,p.2.data ≠ .cell v):Inv X Y' Z H s:=
 ⟨I.ok,I.os,I.bare,I.base,I.loc,I.cell,I.free,I.freeC,λp hp=>(Jb.mp hp).elim (λz=>I.pin p ()) (h p),I.hok,I.len⟩
def DO {N:Yk}(c:N.Nodup){i j:Nat}{x:Str}(a:N[i]? = some x)(b:N[j]? = some x):i=j:=by
 obtain⟨g,e⟩:=Jc.mp a;obtain⟨h,f⟩:=Jc.mp b;exact(List.getElem_inj c).mp (e.trans f.symm)
def LW {M:Model}{A:Around}{E:Ya}{i:Nat}{x:Str}{v:V}{u:Value}{Q:Unit->YC}(I:Inv X Y Z H s)(hN:X.N.Nodup)(B:X.N[i]? = some x)(l:yM X.env.scope x)(r:js v u)
 (h:∀s',Inv X Y (Z.set i (some v)) H s'->(∃a,Heap.SameBut a s.heap s'.heap/\(a=X.env.locals\/X.env.cells.lookup x=some a))->Q Yt s') (hf:X.fn x=true\/X.env.scope.names.lookup x=some .local:=by trivial):wpAny M A (storeName X.env x u) Q E s:=by
 obtain⟨m,R,hl⟩:=id I.loc;have J:(X.env.scope.kind == .class||(X.env.scope.kind == .module&&X.env.locals != X.env.globals))=false:=by rw[I.ok.kind];rfl
 have hiσ: i < Z.length:=by rw[I.len];exact(Jc.mp B).1
 have cne:=I.cne;have f:∀{a:Addr} {h':Heap},(∃o,s.heap.get? a=some o/\H a=none)->Heap.SameBut a s.heap h'->qL X.prog X.w H h':=λ{a h'} ha hs b ob e=>by
  obtain⟨_,_,S⟩:=ha;refine(I.hok b ob e).stay (λc O t q=>(hs.2 c ?_).trans q) (λ_ q=>q) λ_ _ q=>q
  grind
 rcases l with hk|hk
 .refine wpAny_storeName_local hk R (λh' T hs=>?_) J;obtain⟨oL,_,_,U,_⟩:=id R;refine h _ ⟨I.ok,I.os,I.bare,⟨λb o e n C l=>?_,λb o e n C l=>?_,I.base.free,λb o e l=>?_,I.base.tups,I.base.frzs,I.base.tbls⟩,⟨_,T,λj y v' g w e3=>?_⟩,λy c e=>?_,I.free,I.freeC,λp hp=>?_,f ⟨oL,U,I.free⟩ hs,by simpa using I.len⟩ ⟨_,hs,.inl rfl⟩
  .exact(hs.2 b (Zi (Zg (Zk e) I.ok.above))).trans (I.base.keep b o e n C l)
  .obtain⟨sl,g⟩:=I.base.slot b o e n C l;exact⟨sl,(hs.2 b (Zi (Zg (Zk e) I.ok.above))).trans g⟩
  .obtain⟨o',g⟩:=I.base.there b o e l;exact⟨o',(hs.2 b (Zi (Zg (Zk e) I.ok.above))).trans g⟩
  .by_cases F:j=i
   .subst F;rw[B] at g;cases g;rw[UW hiσ] at w;cases w;exact⟨u,r,.inl ⟨hk,()⟩⟩
   .rw[Zx (Ne.symm F)] at w;obtain⟨u',r',q⟩:=hl j y v' g w e3;refine⟨u',r',?_⟩;rcases q with ⟨k,e⟩|⟨k,c,e,z⟩
    .refine .inl ⟨k,?_⟩;have:y≠x:=λe=>F (DO hN g (e ▸ B));simp[this,e]
    .exact .inr ⟨k,c,e,z.sameBut hs (cne y c e)⟩
  .obtain⟨O,z⟩:=I.cell y c e;exact⟨O,z.sameBut hs (cne y c e)⟩
  .obtain⟨e,n,ne,nf,d⟩:=I.pin p hp;exact⟨(hs.2 p.1 ne).trans e,n,ne,nf,d⟩
 .have G:X.fn x=true:=by
   rcases hf with z|z
   .exact z
   .rw[z] at hk;cases hk
  obtain⟨c,t⟩:=I.ok.has x (.inl hk);obtain⟨O,z⟩:=I.cell x c t;refine wpAny_storeName_cell I.ok.kind hk t z (λh' K hs=>?_);obtain⟨oc,L,hocd⟩:=id z;refine h { s with heap:=h' } ⟨I.ok,I.os,I.bare,⟨λb o e n C l=>?_,λb o e n C l=>?_,I.base.free,λb o e l=>?_,I.base.tups,I.base.frzs,I.base.tbls⟩,⟨m,R.sameBut hs (Ne.symm (cne x c t)),λj y v' g w e3=>?_⟩,λy P e=>?_,I.free,I.freeC,λp hp=>?_,f ⟨oc,L,I.freeC x c t⟩ hs,by simpa using I.len⟩ ⟨c,hs,.inr t⟩
  .exact(hs.2 b (Zi (Zg (Zk e) (I.ok.cab x c G t)))).trans (I.base.keep b o e n C l)
  .obtain⟨sl,g⟩:=I.base.slot b o e n C l;exact⟨sl,(hs.2 b (Zi (Zg (Zk e) (I.ok.cab x c G t)))).trans g⟩
  .obtain⟨o',g⟩:=I.base.there b o e l;exact⟨o',(hs.2 b (Zi (Zg (Zk e) (I.ok.cab x c G t)))).trans g⟩
  .by_cases F:j=i
   .subst F;rw[B] at g;cases g;rw[UW hiσ] at w;cases w;exact⟨u,r,.inr ⟨.inl hk,c,t,K⟩⟩
   .rw[Zx (Ne.symm F)] at w;obtain⟨u',r',q⟩:=hl j y v' g w e3;refine⟨u',r',?_⟩;rcases q with q|⟨k,P,e,z'⟩
    .exact .inl q
    .refine .inr ⟨k,P,e,z'.sameBut hs ?_⟩;rintro rfl;exact F (DO hN g (I.ok.inj _ _ _ e t ▸ B))
  .by_cases N:P=c
   .subst N;exact⟨_,K⟩
   .obtain⟨w2,z2⟩:=I.cell y P e;exact⟨w2,z2.sameBut hs N⟩
  .obtain⟨e,n,ne,nf,d⟩:=I.pin p hp;refine⟨(hs.2 p.1 ?_).trans e,n,ne,nf,d⟩;intro q;rw[q,L] at e;have q':=Zqi e;exact d O (by rwa [<- q'])
def ZT {M:Model}{A:Around}{E:Ya}{i:Nat}{x:Str}{v:V}{u:Value}{Q:Unit->YC}(I:Inv X Y Z H s)(a:X.N.Nodup)(b:X.N[i]? = some x)(c:yM X.env.scope x)(r:js v u)
 (h:∀s',Inv X Y (Z.set i (some v)) H s'->Q Yt s') (e:X.fn x=true\/X.env.scope.names.lookup x=some .local:=by trivial):wpAny M A (storeName X.env x u) Q E s:=
 LW I a b c r (λs' f _=>h s' f) e
def Inv.call' {s':Shared}{ch:Yl}(I:Inv X Y Z H s)(f:s'.os=s.os)(u:Un (xb X.stack) ch H H' s.heap s'.heap)(a:qL X.prog X.w H' s'.heap)(g:AllBare s'.gens)
 (e:∀b∈ch,(b∈X.ex\/X.s₀.heap.objs.size<=b)/\b≠X.env.locals/\(∀x c,X.env.cells.lookup x=some c->c≠b)/\∀p∈X.pn++Y,p.1≠b):Inv X Y Z H' s':=by
 obtain⟨h',h,i,t',j⟩:=s';subst f;exact I.call u a g e
end
abbrev XK:=Value->Option Addr->Hp->Prop
abbrev St:=List YF
abbrev VK:=V->Hp->Prop
abbrev TE:=St->Hp->VK->Prop
abbrev TT:=St->Hp->(Bool->Hp->Prop)->Prop
abbrev TA:=St->Hp->(YE->Hp->Prop)->Prop
structure Ends where
 nx:St->Hp->Prop
 rt:VK
 bk:St->Hp->Prop:=λ_ _=>False
 ct:St->Hp->Prop:=λ_ _=>False
abbrev TS:=Ends->St->Hp->Prop
def EP (X:Cx)(Y:Yb)(Z: St)(Q:VK)(u:Value)(s':Shared):Prop:=∃v a,Inv X Y Z a s'/\js v u/\Q v a
def TP (X:Cx)(Y:Yb)(Z: St)(Q:Bool->Hp->Prop)(b:Bool)(s':Shared):Prop:=∃a,Inv X Y Z a s'/\Q b a
def AP (X:Cx)(Y:Yb)(Z: St)(Q:YE->Hp->Prop)(c:Yf)(s':Shared):Prop:=∃a b,Inv X Y Z b s'/\jv a c/\Q a b
def SP (X:Cx)(Y:Yb)(D:Ends)(f:Flow)(s':Shared):Prop:=
 match f with
 | .next=>∃b a,Inv X Y b a s'/\D.nx b a
 | .brk=>∃b a,Inv X Y b a s'/\D.bk b a
 | .cont=>∃b a,Inv X Y b a s'/\D.ct b a
 | .ret u=>∃v b a,Inv X Y b a s'/\js v u/\D.rt v a
def PE (X:Cx)(e:Expr)(t:TE):Prop:=
 ∀(Y:Yb) (s:Shared) (Z: St) (H:Hp) (Q:VK),Inv X Y Z H s->t Z H Q->YI X (eval e X.env) (EP X Y Z Q) X.xe s
def PT (X:Cx)(e:Expr)(t:TT):Prop:=
 ∀(Y:Yb) (s:Shared) (Z: St) (H:Hp) (Q:Bool->Hp->Prop),Inv X Y Z H s->t Z H Q->YI X (isTrue e X.env (eval e X.env)) (TP X Y Z Q) X.xe s
def PW (X:Cx)(e:Expr)(t:TT):Prop:=
 ∀(a:Sem Value) (Y:Yb) (s:Shared) (Z: St) (H:Hp) (Q:Bool->Hp->Prop),Inv X Y Z H s->t Z H Q->YI X (isTrue e X.env a) (TP X Y Z Q) X.xe s
def fG {X:Cx}{e:Expr}{t:TT}(h:PW X e t):PT X e t:=h _
def PA (X:Cx)(es:Ym)(t:TA):Prop:=
 ∀(a:Pos) (Y:Yb) (s:Shared) (Z: St) (H:Hp) (Q:YE->Hp->Prop),Inv X Y Z H s->t Z H Q->YI X (spliced (backTo a (starEach es X.env))) (AP X Y Z Q) X.xe s
def PS (X:Cx)(st:Stmt)(t:TS):Prop:=
 ∀(Y:Yb) (s:Shared) (Z: St) (H:Hp) (D:Ends),Inv X Y Z H s->t D Z H->YI X (exec st X.env) (SP X Y D) X.xe s
def qK (X:Cx)(st:List Stmt)(t:TS):Prop:=
 ∀(Y:Yb) (s:Shared) (Z: St) (H:Hp) (D:Ends),Inv X Y Z H s->t D Z H->YI X (execs st X.env) (SP X Y D) X.xe s
def jH {α: Type}{t:Sem α}{Q b: α -> YC}{M:Model}{A:Around}{E:Ya}{s:Shared}(h:wpAny M A t Q E s)(c:∀a s,Q a s->b a s):wpAny M A t b E s:=Zc h c λ_ _ x=>x
section
variable {X:Cx}
def xM (i:Nat):TE:=λZ H Q=>∃v,Z[i]? = some (some v)/\Q v H
def tC (v:V):TE:=λ_ H Q=>Q v H
def LX {i:Nat}{x:Str}{f:Pos}(o:X.N[i]? = some x)(p:bJ X.env.scope x)(g:(x == ("__debug__" : Str))=false:=by decide)(j:(x == ("__classdict__" : Str))=false:=by decide):PE X (.Name x f) (xM i):=by
 intro Y s Z H Q I h;obtain⟨v,e,h⟩:=h;obtain⟨m,q,t⟩:=I.loc;obtain⟨u,r,l⟩:=t i x v o e p;have b:EP X Y Z Q u s:=⟨v,H,I,r,h⟩;rcases l with ⟨hk,w⟩|⟨hk,c,n,a⟩
 .exact wpAny_Name (wpAny_loadName_local I.ok.kind hk q w b) g
 .rcases hk with hk|hk
  .exact wpAny_Name (wpAny_loadName_cell I.ok.kind hk n a b) g
  .exact wpAny_Name (wpAny_loadName_free I.ok.kind hk n a b j) g
def LY {i j pos}:PE X (.Constant (.int i) j pos) (tC (.int i)):=λ_ _ _ H _ I h=>wpAny_Constant_int ⟨.int i,H,I.tok _,⟨_,rfl⟩,h⟩
def uU {b j pos}:PE X (.Constant (.bool b) j pos) (tC (.bl b)):=λ_ _ _ H _ I h=>Constant_bool ⟨.bl b,H,I,rfl,h⟩
def LZ {j pos}:PE X (.Constant .none j pos) (tC .non):=λ_ _ _ H _ I h=>Constant_none ⟨.non,H,I,rfl,h⟩
def DP {x j pos}:PE X (.Constant (.str x) j pos) (tC (.str x)):=λ_ _ _ H _ I h=>Calls.Constant_str ⟨.str x,H,I.tok _,⟨_,rfl⟩,h⟩
def Gl (X:Cx)(x:Str):Prop:=X.env.kindOf x=some .globalImplicit
def Xa {E:Ya}{Y:Yb}{s:Shared}{Z: St}{H:Hp}{x:Str}{u:Value}{a:Pos}{Q:Ya}(I:Inv X Y Z H s)(b:Gl X x)(c:X.mg x=some u)(h:Q u s)
 (e:(x == ("__debug__" : Str))=false:=by decide):YI X (eval (.Name x a) X.env) Q E s:=
 Calls.Name_function_global I.ok.kind b (Calls.loadGlobal_global (by rw[I.ok.glob];exact I.mod.glob.keeps I.bk) c h) e
def Wz {E:Ya}{Y:Yb}{s:Shared}{Z: St}{H:Hp}{x:Str}{u:Value}{a:Pos}{Q:Ya}(I:Inv X Y Z H s)(b:Gl X x)(c:X.mg x=none)(e:bootBuiltins x=some u)(h:Q u s)
 (f:x ≠ "__name__" := by decide) (g:(x == ("__debug__" : Str))=false:=by decide):YI X (eval (.Name x a) X.env) Q E s:=by
 obtain⟨l,i,j⟩:=I.mod.blt;exact Calls.Name_function_global I.ok.kind b (Calls.loadGlobal_builtin (by rw[I.ok.glob];exact I.mod.glob.keeps I.bk) c (by rw[I.ok.blt];exact i.keeps I.bk) ((j x f).trans e) h) g
def Ma {x:Str}{v:V}{u:Value}{a:Pos}(b:Gl X x)(c:X.mg x=none)(e:bootBuiltins x=some u)(r:js v u)(f:x ≠ "__name__" := by decide)(g:(x == ("__debug__" : Str))=false:=by decide):PE X (.Name x a) (tC v):=
 λ_ _ _ H _ I h=>Wz I b c e ⟨v,H,I,r,h⟩ f g
variable {a b:Expr}{ta tb:TE}{pos:Pos}
def PC (X:Cx)(op:CmpOp)(a b:Expr)(t:TE):Prop:=
 ∀(Y:Yb) (s:Shared) (Z: St) (H:Hp) (Q:VK),Inv X Y Z H s->t Z H Q ->
  YI X (eval a X.env) (λv s₁=>YI X (eval b X.env) (λu s₂=>YI X (compareOp op v u) (EP X Y Z Q) X.xe s₂) X.xe s₁) X.xe s
def Mb (b){op:CmpOp}(h:op ≠ .In)(c:op ≠ .NotIn):behindInMarks op b=false:=by
 cases b<;>first|rfl|(show(_&&(_||_)&&_)=false;simp_all)
def DQ (ta:TE):TE:=λZ H Q=>ta Z H λx c=>Q (.bl (!decide (x=.non))) c
def js.none_iff {x:V}{v:Value}(r:js x v):(v == Value.none)=decide (x=.non):=by
 cases x with
 |non=>cases r;rfl
 |bl _=>cases r;rfl
 |int _=>obtain⟨t,rfl⟩:=r;rfl
 |str _=>obtain⟨t,rfl⟩:=r;rfl
 |byt _=>obtain⟨t,rfl⟩:=r;rfl
 |flt _=>obtain⟨t,rfl⟩:=r;rfl
 |ref _=>cases r;rfl
 |ty _=>cases r;rfl
def Mc {j pos'}(c:PE X a ta):PC X .IsNot a (.Constant .none j pos') (DQ ta):=λY s Z H Q I h=>jH (c Y s Z H _ I h) λv l ⟨x,e,f,g,i⟩=>(Constant_none (isnot_none_gen ⟨.bl _,e,f,by rw[g.none_iff];rfl,i⟩))
def tB (t:TE):TT:=λZ H Q=>t Z H λx e=>∃c,x=.bl c/\Q c e
def DR {op:CmpOp}{t:TE}(h:PC X op a b t)(e:behindInMarks op b=false:=by first|exact Mb _ (by decide) (by decide)|rfl):PT X (.Compare a [op] [b] pos) (tB t):=by
 intro Y s Z H Q I f;refine wpAny_isTrue_Compare1 (jH (h Y s Z H _ I f) λv n e=>jH e λu o g=>jH g λc p ⟨x,i,j,l,m⟩=>?_) e;obtain⟨d,rfl,q⟩:=m;cases l;exact wpAny_truthy_bool ⟨i,j,q⟩
def Md {e:Expr}{t:TE}(h:PE X e t)(f:∀c,isTrue e X.env c=(do let v <- c;standAt e.pos;holding [v] (truthy v)):=by intro _;rfl):PT X e (tB t):=by
 intro Y s Z H Q I g;refine isTrue_plain (jH (h Y s Z H _ I g) λv n ⟨x,i,j,l,m⟩=>?_) (f _);obtain⟨d,rfl,q⟩:=m;cases l;exact wpAny_truthy_bool ⟨i,j,q⟩
variable {tA tB':TT}{rest:Ym}
def mt (t u:TT):TT:=λZ H Q=>t Z H λc e=>if c=true then u Z e Q else Q false e
def c0 (t u:TT):TT:=λZ H Q=>t Z H λc e=>if c=true then Q true e else u Z e Q
def ml (t:TT):TT:=λZ H Q=>t Z H λc e=>Q (!c) e
def Me (f:PT X a tA):PW X (.BoolOp .And [a] pos) tA:=by
 intro g Y s Z H Q I h;refine isTrue_and (jH (f Y s Z H Q I h) λc i e=>?_)
 grind[isTrue_and_nil]
def Mf (f:PT X a tA):PW X (.BoolOp .Or [a] pos) tA:=by
 intro g Y s Z H Q I h;refine isTrue_or (jH (f Y s Z H Q I h) λc i e=>?_)
 grind[isTrue_or_nil]
def Mg (i:PT X a tA)(j:PW X (.BoolOp .And (b::rest) pos) tB'):PW X (.BoolOp .And (a::b::rest) pos) (mt tA tB'):=by
 intro l Y s Z H Q I h;refine isTrue_and (jH (i Y s Z H _ I h) λc m ⟨e,f,g⟩=>?_);cases c with
 |true=>exact j l Y m Z e Q f g
 |false=>exact⟨e,f,g⟩
def uN (i:PT X a tA)(j:PW X (.BoolOp .Or (b::rest) pos) tB'):PW X (.BoolOp .Or (a::b::rest) pos) (c0 tA tB'):=by
 intro l Y s Z H Q I h;refine isTrue_or (jH (i Y s Z H _ I h) λc m ⟨e,f,g⟩=>?_);cases c with
 |true=>exact⟨e,f,g⟩
 |false=>exact j l Y m Z e Q f g
def Mh (e:PT X a tA):PT X (.UnaryOp .Not a pos) (ml tA):=λY s Z H Q I h=>isTrue_not (e Y s Z H (λc f=>Q (!c) f) I h)
def ut (ta tb:TE):TE:=λZ H Q=>ta Z H λx e=>∃c,x=.bl c/\if c=true then tb Z e Q else Q (.bl false) e
def mj (ta tb:TE):TE:=λZ H Q=>ta Z H λx e=>∃c,x=.bl c/\if c=true then Q (.bl true) e else tb Z e Q
def vV (ta:TE):TE:=λZ H Q=>ta Z H λx e=>∃c,x=.bl c/\Q (.bl (!c)) e
def Mi {op}{t:TE}(h:PE X a t):PE X (.BoolOp op [a] pos) t:=λY s Z H Q I c=>BoolOp_one (h Y s Z H Q I c)
def Mj (i:PE X a ta)(j:PE X (.BoolOp .And (b::rest) pos) tb):PE X (.BoolOp .And (a::b::rest) pos) (ut ta tb):=by
 intro Y s Z H Q I h;refine BoolOp_and (jH (i Y s Z H _ I h) λv l ⟨x,f,g,m,e⟩=>?_);obtain⟨c,rfl,e⟩:=e;cases m;refine wpAny_truthy_bool ?_;cases c with
 |true=>exact j Y l Z f Q g e
 |false=>exact⟨.bl false,f,g,rfl,e⟩
def uT (i:PE X a ta)(j:PE X (.BoolOp .Or (b::rest) pos) tb):PE X (.BoolOp .Or (a::b::rest) pos) (mj ta tb):=by
 intro Y s Z H Q I h;refine BoolOp_or (jH (i Y s Z H _ I h) λv l ⟨x,f,g,m,e⟩=>?_);obtain⟨c,rfl,e⟩:=e;cases m;refine wpAny_truthy_bool ?_;cases c with
 |false=>exact j Y l Z f Q g e
 |true=>exact⟨.bl true,f,g,rfl,e⟩
def Ml (f:PE X a ta):PE X (.UnaryOp .Not a pos) (vV ta):=by
 intro Y s Z H Q I h;refine UnaryOp_ (jH (f Y s Z H _ I h) λv l ⟨x,g,i,j,e⟩=>?_);obtain⟨c,rfl,e⟩:=e;cases j;exact not_of (wpAny_truthy_bool ⟨.bl (!c),g,i,rfl,e⟩)
end
def qs (K:W.Frag)(H:Hp)(a:Addr)(b:YE):Prop:=
 Rd H a (.lst b) \/
  ∃(o:Obj) (its:Yn) (n:Nat),K.lookup a=some o/\o.cls=.type "list" /\ o.dict=none/\o.data=.seq its n/\its.size<=sizeLine/\jv b its.toList
def yw (K:W.Frag)(H:Hp)(a:Addr)(b:YE):Prop:=
 Rd H a (.tup b) \/
  ∃(o:Obj) (its:Yn) (n:Nat),K.lookup a=some o/\o.cls=.type "tuple" /\ o.data=.seq its n/\its.size<=sizeLine/\jv b its.toList
def rb:Value->YF
 | .none=>some .non
 | .bool b=>some (.bl b)
 | .int i _=>some (.int i)
 | .str x _=>some (.str x)
 | .bytes b _=>some (.byt b)
 | .float b _=>some (.flt b)
 | .ref a=>some (.ref a)
 | .type n=>some (.ty n)
 |_=>none
def js.abs {x:V}{u:Value}(r:js x u):rb u=some x:=by
 cases x with
 |non=>cases r;rfl
 |bl _=>cases r;rfl
 |int _=>obtain⟨t,rfl⟩:=r;rfl
 |str _=>obtain⟨t,rfl⟩:=r;rfl
 |byt _=>obtain⟨t,rfl⟩:=r;rfl
 |flt _=>obtain⟨t,rfl⟩:=r;rfl
 |ref _=>cases r;rfl
 |ty _=>cases r;rfl
def js.inj {x y:V}{u:Value}(r:js x u)(q:js y u):x=y:=Zqi (r.abs.symm.trans q.abs)
theorem jv.inj:∀{a ys:YE} {b:Yf},jv a b->jv ys b->a=ys:=λ{a ys b} g h=>by
 induction g generalizing ys with
 |nil=>cases h;rfl
 |cons r _ c =>
  cases h with
  |cons e t'=>rw[r.inj e,c t']
section
variable {X:Cx}{Y:Yb}{Z: St}{H:Hp}{s:Shared}{a:Addr}{xs ys:YE}
def qs.of {K:W.Frag}(h:H a=some (.lst xs)):qs K H a xs:=.inl (.inl h)
def yw.of {K:W.Frag}(h:H a=some (.tup xs)):yw K H a xs:=.inl (.inl h)
def Inv.list (I:Inv X Y Z H s)(h:qs X.K H a xs):∃its:Yf,jv xs its/\PlainL s.heap a its.toArray/\xs.length<=sizeLine:=by
 rcases h with h|⟨o,its,n,hk,hc,hd,hs,hz,r⟩
 .obtain⟨z,its,n,r,e⟩:=h.ok I.hok;exact⟨its,r,⟨_,n,e,rfl,rfl,rfl⟩,z⟩
 .refine⟨its.toList,r,⟨o,n,I.kIn a o hk,hc,hd,()⟩,?_⟩;have e:=r.length
  simp_all
def Inv.tuple (I:Inv X Y Z H s)(h:yw X.K H a xs):∃its:Yf,jv xs its/\IsTup s.heap a its.toArray/\xs.length<=sizeLine:=by
 rcases h with h|⟨o,its,n,hk,hc,hs,hz,r⟩
 .obtain⟨z,its,r,p⟩:=h.ok I.hok;exact⟨its,r,p,z.1⟩
 .refine⟨its.toList,r,⟨o,I.kIn a o hk,hc,n,()⟩,?_⟩;have e:=r.length
  simp_all
def Inv.list_inj (I:Inv X Y Z H s)(h:qs X.K H a xs)(h':qs X.K H a ys):xs=ys:=by
 obtain⟨its,r,⟨o,n,e,_,_,d⟩,_⟩:=I.list h;obtain⟨b,c,⟨f,g,i,_,_,j⟩,_⟩:=I.list h';have:its=b:=by simp_all
 subst this;exact r.inj c
def Inv.tuple_inj (I:Inv X Y Z H s)(h:yw X.K H a xs)(h':yw X.K H a ys):xs=ys:=by
 obtain⟨its,r,⟨o,e,_,n,d⟩,_⟩:=I.tuple h;obtain⟨b,c,⟨f,g,_,i,j⟩,_⟩:=I.tuple h';have:its=b:=by simp_all
 subst this;exact r.inj c
end
abbrev Cx.wish (X:Cx)(E:Ya):Cx:={ X with xe:=E }
abbrev Cx.nox (X:Cx):Cx:=X.wish λ_ _=>False
theorem Cx.Ok.wish {X:Cx}(ok:X.Ok)(E:Ya):(X.wish E).Ok:=
 ⟨ok.mod,ok.kind,ok.glob,ok.blt,ok.above,ok.inj,ok.has,ok.cab,ok.hd,ok.frames,ok.stk,ok.exf,ok.bs,ok.bsz,ok.noex,ok.exfs,ok.funs,ok.frf⟩
def Cx.Ok.unwish {X:Cx}{E:Ya}(ok:(X.wish E).Ok):X.Ok:=
 ⟨ok.mod,ok.kind,ok.glob,ok.blt,ok.above,ok.inj,ok.has,ok.cab,ok.hd,ok.frames,ok.stk,ok.exf,ok.bs,ok.bsz,ok.noex,ok.exfs,ok.funs,ok.frf⟩
section
variable {X:Cx}{Y:Yb}{Z: St}{H:Hp}{s:Shared}{E:Ya}
theorem Inv.wish (I:Inv X Y Z H s)(E):Inv (X.wish E) Y Z H s:=⟨I.ok.wish E,I.os,I.bare,I.base,I.loc,I.cell,I.free,I.freeC,I.pin,I.hok,I.len⟩
theorem Inv.unwish (I:Inv (X.wish E) Y Z H s):Inv X Y Z H s:=⟨I.ok.unwish,I.os,I.bare,I.base,I.loc,I.cell,I.free,I.freeC,I.pin,I.hok,I.len⟩
theorem SP.unwish {D:Ends}{f:Flow}{s':Shared}(h:SP (X.wish E) Y D f s'):SP X Y D f s':=by
 cases f with
 |next=>obtain⟨a,b,I,q⟩:=h;exact⟨a,b,I.unwish,q⟩
 |brk=>obtain⟨a,b,I,q⟩:=h;exact⟨a,b,I.unwish,q⟩
 |cont=>obtain⟨a,b,I,q⟩:=h;exact⟨a,b,I.unwish,q⟩
 |ret u=>obtain⟨v,a,b,I,r,q⟩:=h;exact⟨v,a,b,I.unwish,r,q⟩
theorem qK.nox {st:List Stmt}{t:TS}(h:qK X.nox st t):qK X st t:=λY s Z H D I a =>
 Zc (h Y s Z H D (I.wish _) a) (λ_ _ q=>q.unwish) ()
end
section
variable {X:Cx}{st:Stmt}{rest:List Stmt}{t u:TS}{e:Expr}{te:TE}{pos:Pos}
def vW:TS:=λD Z H=>D.nx Z H
def mh (t u:TS):TS:=λD Z H=>t { D with nx:=u D } Z H
def ZU:qK X [] vW:=λ_ _ Z H _ I h=>wpAny_execs_nil ⟨Z,H,I,h⟩
def XD (a:PS X st t)(b:qK X rest u):qK X (st::rest) (mh t u):=by
 intro Y s Z H D I h;refine wpAny_execs_cons (jH (a Y s Z H { D with nx:=u D } I h) λf c q=>?_);cases f with
 |next =>
  obtain⟨g,i,j,q⟩:=q;exact b Y c g i D j q
 |ret v=>exact q
 |brk=>exact q
 |cont=>exact q
def BB (a:PS X st t):qK X [st] t:=by
 intro Y s Z H D I h;refine wpAny_execs_cons (jH (a Y s Z H D I h) λf b q=>?_)
 grind[wpAny_execs_nil]
def Mm:TS:=λD Z H=>D.bk Z H
def Mn:PS X (.Break pos) Mm:=λ_ _ Z H _ I h=>wpAny_Break ⟨Z,H,I,h⟩
def Inv.quiet {Y:Yb}{Z: St}{H:Hp}{s:Shared}(I:Inv X Y Z H s):interactive X.env=false:=by simp[interactive,I.ok.kind]
def vY (te:TE):TS:=λD Z H=>te Z H λ_ a=>D.nx Z a
def BC (a:PE X e te)(hs:swapsWith e none pos.line X.env=pure false:=by rfl):PS X (.Expr e pos) (vY te):=λY s Z H D I h=>wpAny_Expr_any (jH (a Y s Z H _ I h) λv g ⟨x,b,c,i,f⟩=>⟨Z,b,c,f⟩) I.quiet hs
def mi (te:TE):TS:=λD Z H=>te Z H D.rt
def ZV (a:PE X e te):PS X (.Return (some e) pos) (mi te):=λY s Z H D I h=>wpAny_Return_some (jH (a Y s Z H _ I h) λv i ⟨x,b,c,f,g⟩=>⟨x,Z,b,c,f,g⟩)
def mn (c:TT)(t u:TS):TS:=λD Z H=>c Z H λb a=>if b=true then t D Z a else u D Z a
def BD {c:Expr}{a b:List Stmt}{f:TT}(m:PT X c f)(n:qK X a t)(o:qK X b u):PS X (.If c a b pos) (mn f t u):=by
 intro Y s Z H D I h;refine wpAny_If (jH (m Y s Z H _ I h) λd g ⟨i,j,l⟩=>?_);cases d with
 |true=>exact n Y g Z i D j l
 |false=>exact o Y g Z i D j l
end
abbrev TG:=V->St->Hp->(St->Hp->Prop)->Prop
abbrev vb:=YE->St->Hp->(St->Hp->Prop)->Prop
def PG (X:Cx)(a:Expr)(t:TG):Prop:=
 ∀(Y:Yb) (s:Shared) (Z: St) (H:Hp) (v:V) (u:Value) (Q:St->Hp->Prop),Inv X Y Z H s->js v u->t v Z H Q ->
  YI X (assign a X.env u) (λ_ s'=>∃b c,Inv X Y b c s'/\Q b c) X.xe s
def bK (X:Cx)(ts:Ym)(t:vb):Prop:=
 ∀(Y:Yb) (s:Shared) (Z: St) (H:Hp) (a:YE) (b:Yf) (Q:St->Hp->Prop),Inv X Y Z H s->jv a b->t a Z H Q ->
  YI X (assignInOrder ((assignEach ts X.env).map (·.2)) b) (λ_ s'=>∃c e,Inv X Y c e s'/\Q c e) X.xe s
abbrev vx:=V->V->V->Hp->(Hp->Prop)->Prop
def fH (X:Cx)(t:vx):Prop:=
 ∀(Y:Yb) (s:Shared) (Z: St) (H:Hp) (o i v:V) (a b u:Value) (Q:Hp->Prop),Inv X Y Z H s->js o a->js i b->js v u->t o i v H Q ->
  YI X (setItem a b u) (λ_ s'=>∃c,Inv X Y Z c s'/\Q c) X.xe s
section
variable {X:Cx}{pos:Pos}
def KG (i:Nat):TG:=λv Z H Q=>Q (Z.set i (some v)) H
def JX {i:Nat}{x:Str}(a:X.N.Nodup)(b:X.N[i]? = some x)(c:yM X.env.scope x)(e:X.fn x=true\/X.env.scope.names.lookup x=some .local:=by trivial):PG X (.Name x pos) (KG i):=λY s Z H v u Q I r h=>wpAny_assign_Name (ZT I a b c r (λs' f=>⟨_,H,f,h⟩) e)
def kU:vb:=λa Z H Q=>a=[]/\Q Z H
def DS (t:TG)(u:vb):vb:=λa Z H Q=>∃v r,a=v::r/\t v Z H λb c=>u r b c Q
def K2:bK X [] kU:=λY s Z H a b Q I r h=>have ⟨e,h⟩:=h;assignInOrder_nil ⟨Z,H,I,h⟩
def Qm {e:Expr}{es:Ym}{t:TG}{u:vb}(a:PG X e t)(b:bK X es u)
 (hs:(assignEach (e::es) X.env).map (·.2)=assign e X.env::(assignEach es X.env).map (·.2):=by rfl):bK X (e::es) (DS t u):=by
 intro Y s Z H n o Q I r h;obtain⟨v,p,c,h⟩:=h;subst c;cases r with
 |cons r f =>
  rw[hs];exact assignInOrder_cons (jH (a Y s Z H _ _ _ I r h) λ_ g ⟨i,j,l,m⟩=>(b Y g i j _ _ Q l f m))
def kQ (K:W.Frag)(n:Nat)(t:vb):TG:=λv Z H Q=>∃a b,v=.ref a/\yw K H a b/\b.length=n/\t b Z H Q
def K3 {es:Ym}{k:Nat}{t:vb}{n:Nat}(g:X.calm=true)(h:bK X es t)
 (i:(assignEach es X.env).length=n:=by rfl) (c:(assignEach es X.env).findIdx? (·.1)=none:=by rfl):PG X (.Tuple es k pos) (kQ X.K n t):=by
 intro Y s Z H v u Q I r f;obtain⟨a,j,l,m,p,f⟩:=f;subst l;cases r;obtain⟨its,q,w,hz⟩:=I.tuple m;refine assign_Tuple_tuple (I.ok.hd g) w (by simp[i,<- p,q.length]) c λh' x=>?_;have y:Inv X Y Z H { s with heap:=h' }:=I.kept λb o e=>x b o (Zi (Zk e)) e;exact h Y _ Z H j _ Q y () f
def yb (a b:TE)(t:vx):TG:=λv Z H Q=>a Z H λo c=>b Z c λi e=>t o i v e λf=>Q Z f
def Mo {o i:Expr}{c e:TE}{t:vx}(f:PE X o c)(g:PE X i e)(hs:fH X t)
 (G:∀v,assign (.Subscript o i pos) X.env v=(do
  let a <- holding [v] (eval o X.env)
  let b <- holding [v,a] (eval i X.env)
  standAt pos
  holding [v,a,b] (setItem a b v)
  release [v,a,b] []):=by intro _;rfl):PG X (.Subscript o i pos) (yb c e t):=λY s Z H v u Q I r h=>Za (wpAny_holding (jH (f Y s Z H _ I h) λa j ⟨x,l,m,n,p⟩=>(Za (wpAny_holding (jH (g Y j Z l _ m p) λb q ⟨y,w,z,A,B⟩=>(Za (wpAny_standAt (Za (wpAny_holding (jH (hs Y q Z w x y v a b u _ z n A r B) λ_ J ⟨C,E,F⟩=>(wpAny_release ⟨Z,C,E,F⟩)))))))))))
def zd (a:TE)(g:TG):TS:=λD Z H=>a Z H λx b=>g x Z b D.nx
def Mp {tg e:Expr}{a:TE}{g:TG}(b:PE X e a)(c:PG X tg g)(hs:swapsWithSole [tg] e pos.line X.env=pure false:=by rfl)(f:swappedStores [tg] e X.env=pure none:=by rfl)
 (i:(assignEach [tg] X.env).map (·.2)=[assign tg X.env]:=by rfl):PS X (.Assign [tg] e pos) (zd a g):=by
 intro Y s Z H D I h;refine wpAny_Assign_stores (jH (b Y s Z H _ I h) λv j ⟨x,l,m,n,o⟩=>?_) hs f;rw[i];exact jH (c Y j Z l x v _ m n o) λ_ p q=>q
def DT {i:Nat}{x:Str}{e:Expr}{b:TE}{a:Pos}(c:X.N.Nodup)(f:X.N[i]? = some x)(g:yM X.env.scope x)(j:PE X e b)(hs:swapsWith e (some (.Name x a)) pos.line X.env=pure false:=by rfl)(l:X.fn x=true\/X.env.scope.names.lookup x=some .local:=by trivial):
 PS X (.Assign [.Name x a] e pos) (zd b (KG i)):=λY s Z H D I h=>wpAny_Assign_Name (jH (j Y s Z H _ I h) λv r ⟨y,m,n,o,p⟩=>(ZT n c f g o (λt q=>⟨_,m,q,p⟩) l)) hs
end
structure It where
 go:Nat->Hp->Prop
 yld:Nat->Hp->V->Hp->Prop
 stop:Nat->Hp->Prop
def xa (X:Cx)(Y:Yb)(H:Hp)(b:Addr):Prop:=
 H b=none/\b≠X.env.locals/\b∉X.fs/\(b∈X.ex\/X.s₀.heap.objs.size<=b)/\(∀x c,X.env.cells.lookup x=some c->c≠b)/\∀p∈X.pn++Y,p.1≠b
def Inv.fpOk {X:Cx}{Y:Yb}{Z: St}{H f:Hp}{s:Shared}{b:Addr}(I:Inv X Y Z H s)(a:s.heap.objs.size<=b)(g:f b=none):xa X Y f b:=by
 refine⟨g,U7 (Zg I.lt a),I.nofs a,.inr (Zh I.sz a),λx c e z=>?_,λp hp z=>?_⟩
 .obtain⟨v,q⟩:=I.cell x c e;exact Zn (Zg q.lt (by rwa [z])) (Zy _)
 .exact Zn (Zg (Zk (I.pin p hp).1) (by rwa [z])) (Zy _)
structure Turn (P:Program)(w:World)(K:W.Frag)(tg:Expr)(J:It)(fp:Yl)(it:Addr)(tn:Nat->Heap->Prop):Prop where
 mem:it∈fp
 obj:∀i h,tn i h->∀b∈fp,∃o,h.get? b=some o/\∀v,o.data ≠ .cell v
 keep:∀i h h',tn i h->(∀b∈fp,∀o,h.get? b=some o->h'.get? b=some o)->tn i h'
 item:∀(X:Cx),X.prog=P->X.w=w->X.K=K->X.calm=true->∀(i:Nat) (Y:Yb) (s:Shared) (Z: St) (H:Hp) (E:Ya),Inv X Y Z H s->(∀b∈fp,xa X Y H b)->tn i s.heap->J.go i H ->
  wpAny (model P w) X.A (pyNext (.ref it)) (λr s1=>∃u,r=some u /\
   wpAny (model P w) X.A (letOwnedTupleGo tg (.ref it) u) (λ_ s2=>∃x H',Inv X Y Z H' s2/\js x u/\J.yld i H x H'/\tn (i+1) s2.heap/\∀b∈fp,H' b=none) E s1) E s
 done:∀(X:Cx),X.prog=P->X.w=w->X.K=K->X.calm=true->∀(i:Nat) (Y:Yb) (s:Shared) (Z: St) (H:Hp) (E:Ya),Inv X Y Z H s->(∀b∈fp,xa X Y H b)->tn i s.heap->J.stop i H ->
  wpAny (model P w) X.A (pyNext (.ref it)) (λr s1=>r=none/\Inv X Y Z H s1) E s
 self:∀(A:Around) (i:Nat) (s:Shared) (Q:Ya) (E:Ya),tn i s.heap->Q (.ref it) s->wpAny (model P w) A (pyIter (.ref it)) Q E s
abbrev TI:=St->Hp->(It->Hp->Prop)->Prop
def sw (X:Cx)(Y:Yb)(Z: St)(tg:Expr)(R:It->Hp->Prop)(a:Value)(e:Shared):Prop:=
 ∃(it:Addr) (f:Yl) (g:Nat->Heap->Prop) (J:It) (c:Hp),a=.ref it/\Inv X Y Z c e/\Turn X.prog X.w X.K tg J f it g/\g 0 e.heap/\(∀b∈f,xa X Y c b)/\R J c
def PI (X:Cx)(tg a:Expr)(wi:TI):Prop:=
 ∀(Y:Yb) (s:Shared) (Z: St) (H:Hp) (R:It->Hp->Prop),Inv X Y Z H s->wi Z H R ->
  YI X (eval a X.env) (λv b=>YI X (pyIter v) (sw X Y Z tg R) X.xe b) X.xe s
def BE {M:Model}{A:Around}{E:Ya}{s:Shared}{tg:Expr}{it:Addr}{u:Value}{o:Obj}{n:String}{b:Yn}{Q:Unit->YC}(c:s.heap.get? it=some o)(e:o.cls=.type n)(f:o.data=.fields b)
 (g: ["enumerate", "zip", "dict_itemiterator", "dict_reverseitemiterator", "odict_iterator", "itertools.zip_longest", "itertools.pairwise"].contains n=false) (a:Q Yt s):wpAny M A (letOwnedTupleGo tg (.ref it) u) Q E s:=by
 cases tg<;>first
  |exact Zb a
  | (cases u<;>first
   |exact Zb a
   | (
    refine Za (wpAny_load c ?_);rw[e,f];show wpAny M A (if(["enumerate", "zip", "dict_itemiterator", "dict_reverseitemiterator", "odict_iterator", "itertools.zip_longest", "itertools.pairwise"].contains n&&b[0]? == some (rawInt _))=true then _ else _) Q E s;rw[Ze (by intro h;rw[g,Bool.false_and] at h;cases h)];exact Zb a))
def sB (K:W.Frag)(a:Addr):It:=
 ⟨λi H=>∃b x,qs K H a b/\b[i]? = some x,λi H x c=>c=H/\∀b,qs K H a b->b[i]? = some x,λi H=>∃b,qs K H a b/\b.length<=i⟩
def sA (K:W.Frag)(a:Addr):It:=
 ⟨λi H=>∃b x,yw K H a b/\b[i]? = some x,λi H x c=>c=H/\∀b,yw K H a b->b[i]? = some x,λi H=>∃b,yw K H a b/\b.length<=i⟩
def bM (lo:Int)(n:Nat):It:=⟨λi _=>i<n,λi H x a=>a=H/\x=.int (lo+i),λi _=>n<=i⟩
def Mq {P:Program}{w:World}{K:W.Frag}{tg:Expr}(a it):Turn P w K tg (sB K a) [it] it (λi h=>h.IsListIter it a i) where
 mem:=by simp
 obj:=λi h st b f=>by
  obtain⟨o,e,c,d⟩:=st
  simp_all
 keep:=λi h h' st k=>st.at λo e=>k it () o e
 item:=by
  intro X m n q C i Y s Z H E I j st r;subst m n q;obtain⟨G,x,l,F⟩:=r;obtain⟨its,t,p,hz⟩:=I.list l;obtain⟨u,R,J⟩:=t.get F;obtain⟨v,y,L,z,A,B⟩:=j it ();refine wpAny_pyNext_list_item st p.isList (x:=u) () λh' g M=>?_;have N:Inv X Y Z H { s with heap:=h' }:=I.turned (λb o f e=>(M.2 b f).trans e) v y z A B;obtain⟨o,e,c,d⟩:=id g;exact⟨u,rfl,BE e c d (by decide) ⟨x,H,N,J,⟨rfl,λys O=>by rwa [I.list_inj O l]⟩,g,λb f=>(j b f).1⟩⟩
 done:=by
  intro X m n q C i Y s Z H E I j st r;subst m n q;obtain⟨G,l,F⟩:=r;obtain⟨its,t,p,hz⟩:=I.list l;obtain⟨v,y,L,z,A,B⟩:=j it ();have S:=t.length;exact wpAny_pyNext_list_end (I.ok.hd C) st p.isList (by simp;lia) λh' Q=>⟨rfl,I.turned (λb o f e=>Q b o f e) v y z A B⟩
 self:=λ_ _ _ _ _ st h=>wpAny_pyIter_listiter st h
def Mr {P:Program}{w:World}{K:W.Frag}{tg:Expr}(a it):Turn P w K tg (sA K a) [it] it (λi h=>h.IsTupleIter it a i) where
 mem:=by simp
 obj:=λi h st b g=>by
  obtain⟨o,e,c,d⟩:=st
  simp_all
 keep:=λi h h' st k=>st.at ()
 item:=by
  intro X l m n C i Y s Z H E I q st r;subst l m n;obtain⟨G,x,j,F⟩:=r;obtain⟨its,t,p,hz⟩:=I.tuple j;obtain⟨u,J,L⟩:=t.get F;obtain⟨v,y,M,z,A,B⟩:=q it ();refine wpAny_pyNext_tuple_item st (p) (by simpa using J) λh' f N=>?_;have O:Inv X Y Z H { s with heap:=h' }:=I.turned (λb o g e=>(N.2 b g).trans e) v y z A B;obtain⟨o,e,c,d⟩:=id f;exact⟨u,rfl,BE e c d (by decide) ⟨x,H,O,L,⟨rfl,λys Q=>by rwa [I.tuple_inj Q j]⟩,f,()⟩⟩
 done:=by
  intro X l m n C i Y s Z H E I q st r;subst l m n;have ⟨G,j,F⟩:=r;have ⟨its,t,p,hz⟩:=I.tuple j;have ⟨v,y,M,z,A,B⟩:=q it ();have S:=t.length;exact wpAny_pyNext_tuple_end (I.ok.hd C) st (p) (by simp;lia) λh' R=>⟨rfl,I.turned (λb o g e=>R b o g e) v y z A B⟩
 self:=λ_ _ _ _ _ st h=>wpAny_pyIter_tupleiter st h
def Ms {P:Program}{w:World}{K:W.Frag}{tg:Expr}(it)(lo)(n):Turn P w K tg (bM lo n) [it] it (λi h=>IsRangeIter h it (lo+(i:Nat)*1) ((n:Int)-(i:Nat)) 1) where
 mem:=by simp
 obj:=by grind
 keep:=by grind
 item:=by
  intro X r u x c i Y s Z H E I f st g;obtain⟨j,l,y,m,p,q⟩:=f it ();refine(Walks.range (I.ok.hd c) it lo 1 n).item i s _ _ g st λv h' tk z a F=>?_;obtain⟨t,rfl⟩:=z;have A:Inv X Y Z H { s with heap:=h',toks:=tk }:=I.turned () j l m p q;refine⟨_,rfl,BE a rfl rfl (by decide) ⟨.int (lo+i),H,A,⟨t,?_⟩,⟨rfl,rfl⟩,a,()⟩⟩;simp
 done:=by
  intro X r u x c i Y s Z H E I f st g;obtain⟨j,l,y,m,p,q⟩:=f it ();exact wpAny_pyNext_range_end (I.ok.hd c) st (by have:n<=i:=g;lia) λh' B=>⟨rfl,I.turned (λb o C e=>B b o C e) j l m p q⟩
 self:=λ_ _ _ _ _ st h=>wpAny_pyIter_rangeiter st h
section
variable {X:Cx}{tg:Expr}
def kI (K:W.Frag)(c:TE):TI:=λZ H R=>c Z H λx b=>∃a,x=.ref a/\(∃e,qs K b a e)/\R (sB K a) b
def mZ (K:W.Frag)(c:TE):TI:=λZ H R=>c Z H λx b=>∃a,x=.ref a/\(∃e,yw K b a e)/\R (sA K a) b
def Mt {l:Expr}{g:TE}(i:PE X l g):PI X tg l (kI X.K g):=by
 intro Y s Z H R I h;refine jH (i Y s Z H _ I h) λv f ⟨x,j,c,m,n⟩=>?_;obtain⟨a,e,⟨u,r⟩,q⟩:=n;subst e;cases m;obtain⟨its,w,p,hz⟩:=c.list r;refine wpAny_pyIter_list p.isList (⟨f.heap.objs.size,[f.heap.objs.size],_,_,j,rfl,c.kept λb o e=>Zq _ e,Mq a _,⟨_,Zr _ rfl,rfl,rfl⟩,λb t=>?_,q⟩);have e:b=f.heap.objs.size:=by simpa using t
 subst e;exact c.fpOk (Zf _) (c.hok.fresh (Zf _))
def Mu {l:Expr}{g:TE}(i:PE X l g):PI X tg l (mZ X.K g):=by
 intro Y s Z H R I h;refine jH (i Y s Z H _ I h) λv f ⟨x,j,c,m,n⟩=>?_;obtain⟨a,e,⟨u,r⟩,q⟩:=n;subst e;cases m;obtain⟨its,w,p,hz⟩:=c.tuple r;refine wpAny_pyIter_tuple (p) (⟨f.heap.objs.size,[f.heap.objs.size],_,_,j,rfl,c.kept λb o e=>Zq _ e,Mr a _,⟨_,Zr _ rfl,rfl,rfl⟩,λb t=>?_,q⟩);have e:b=f.heap.objs.size:=by simpa using t
 subst e;exact c.fpOk (Zf _) (c.hok.fresh (Zf _))
def Mv {Y:Yb}{Z: St}{H:Hp}{s:Shared}{R:It->Hp->Prop}{E:Ya}{lo a:Int}{t u v:Tok}{tk:Nat}(I:Inv X Y Z H s)(f: -(2 ^ 62)<=lo)(g:lo<2 ^ 62)(h: -(2 ^ 62)<=a)(i:a<2 ^ 62)
 (q:R (bM lo (a-lo).toNat) H):YI X (pyIter (.ref s.heap.objs.size)) (sw X Y Z tg R) E { s with heap:=s.heap.push { cls:=.type "range",data:=.fields #[.int lo t,.int a u,.int 1 v] },toks:=tk }:=by
 refine wpAny_pyIter_range (IsRange.new ..) (small_one f g h i) ?_;have c:Inv X Y Z H { s with heap:=s.heap.push { cls:=.type "range",data:=.fields #[.int lo t,.int a u,.int 1 v] },toks:=tk }:=I.kept λb o e=>Zq _ e;refine⟨(s.heap.push { cls:=.type "range",data:=.fields #[.int lo t,.int a u,.int 1 v] }).objs.size,[(s.heap.push { cls:=.type "range",data:=.fields #[.int lo t,.int a u,.int 1 v] }).objs.size],_,_,H,rfl,
  c.kept λb o e=>Zq _ e,Ms _ lo (a-lo).toNat,?_,λb m=>?_,q⟩
 .have j:lo+((0:Nat):Int)*1=lo:=by simp
  have l:(((a-lo).toNat:Nat):Int)-((0:Nat):Int)=Builtin.Range.rangeSize lo a 1:=by grind[rangeSize_one]
  rw[j,l];exact Zr _ rfl
 .have e:b=(s.heap.push { cls:=.type "range",data:=.fields #[.int lo t,.int a u,.int 1 v] }).objs.size:=by simp_all
  subst e;exact c.fpOk (Zf _) (c.hok.fresh (Zf _))
def kH (a:TA):TI:=λZ H R=>a Z H λb c=>∃j:Int,b=[.int j] /\ -(2 ^ 62)<=j/\j<2 ^ 62/\R (bM 0 j.toNat) c
def Mw {a:Expr}{f:TA}{p b:Pos}(g:Gl X "range")(i:X.mg "range" = none)(l:PA X [a] f)(hs:starEach [a] X.env=[(false,eval a X.env)]:=by rfl):PI X tg (.Call (.Name "range" p) [a] [] b) (kH f):=by
 intro Y s Z H R I h;refine Call_ (Wz I g i boot_range (PyProof.Rows.callWith_type1 (jH (l b Y s Z H _ I h) λv w ⟨x,y,m,n,c⟩=>?_) hs rfl));obtain⟨j,e,c,o,q⟩:=c;subst e;cases n with
 |cons r u =>
  cases u;obtain⟨t,rfl⟩:=r;exact call_range_1 (Mv m () () c o (by simpa using q))
def mo (wi:TI)(g:TG)(e:TS):TS:=λD Z H=>wi Z H λJ f=>∃W:Nat->Nat->St->Hp->Prop,(∃m,W 0 m Z f)/\∀i m Z H,W i m Z H ->
 (J.stop i H/\D.nx Z H)\/(J.go i H/\∃N:St->Hp->Prop,(∀b a,N b a->∃c,c<m/\W (i+1) c b a)/\∀x a,J.yld i H x a->g x Z a λh j=>e { D with nx:=N,ct:=N,bk:=D.nx } h j)
def XE (a:Yl)(h:Heap):Yb:=a.filterMap λb=>(h.get? b).map λo=>(b,o)
def ZW {a:Yl}{h:Heap}{b:Addr}{o:Obj}(c:b∈a)(e:h.get? b=some o):(b,o)∈XE a h:=Jr.mpr ⟨b,c,by rw[e];rfl⟩
def Mx {a:Yl}{h:Heap}{p:Addr×Obj}(hp:p∈XE a h):p.1∈a/\h.get? p.1=some p.2:=by
 obtain⟨b,c,e⟩:=Jr.mp hp;cases q:h.get? b with
 |none=>simp_all
 |some o =>
  grind
def Inv.pinned {Y:Yb}{Z: St}{H:Hp}{s:Shared}{a:Yl}(I:Inv X Y Z H s)(c:∀b∈a,xa X Y H b)(g:∀b∈a,∃o,s.heap.get? b=some o/\∀v,o.data ≠ .cell v):Inv X (Y++XE a s.heap) Z H s:=
 I.pins_of λp hp=>(Jb.mp hp).elim (λz=>I.pin p ()) λz=>by
  obtain⟨f,e⟩:=Mx z;obtain⟨h,i,j,_⟩:=c p.1 f
  grind
def Inv.unpinned {Y pl:Yb}{Z: St}{H:Hp}{s:Shared}(I:Inv X (Y++pl) Z H s):Inv X Y Z H s:=I.pins_of λp hp=>I.pin p ()
def DU {a:Expr}{t:List Stmt}{wi:TI}{g:TG}{S:TS}{L:Pos}(hp:PassesOwn (model X.prog X.w) X.A X.env X.xe)(U:X.calm=true)(hi:PI X tg a wi)(hg:PG X tg g)(c:qK X t S)
 (hs:∀x,foldedSetIterable a X.env x=pure x:=by intro _;rfl):PS X (.For tg a t [] L) (mo wi g S):=by
 intro Y s Z H D I h;refine wpAny_For (jH (hi Y s Z H _ I h) λv s1 h1=>jH h1 λitv s2 h2=>?_) hs;obtain⟨it,y,tn,J,H2,e,I2,T,M,f2,W,⟨m0,w0⟩,z⟩:=h2;subst e;have j:∀{q:Hp},(∀b∈y,q b=none)->∀b∈y,xa X Y q b:=λhn b c=>⟨hn b c,(f2 b c).2⟩;refine codeAny_forLoop_any (λn s'=>∃i A q,Inv X Y A q s'/\tn i s'.heap/\(∀b∈y,q b=none)/\W i n A q) ?_ m0 ⟨0,Z,H2,I2,M,λb c=>(f2 b c).1,w0⟩;rintro n s3 ⟨i,B,K,I3,C,E,w3⟩;rcases z i n B K w3 with ⟨F,qn⟩|⟨go,N,hN,step⟩
 .refine wpAny_passesOwn hp (jH (T.done X rfl rfl rfl U i Y s3 B K X.xe I3 (j E) C F) λr s4 ⟨O,I4⟩=>?_);subst O;exact wpAny_execs_nil ⟨B,K,I4,qn⟩
 .refine wpAny_passesOwn hp (jH (T.item X rfl rfl rfl U i Y s3 B K X.xe I3 (j E) C go) λr s4 ⟨u,O,h4⟩=>?_);subst O;refine wpAny_passesOwn hp (jH h4 λ_ s5 ⟨x,H5,I5,r5,y5,wq,P⟩=>?_);have Q:=I5.pinned (j P) (T.obj _ _ wq);refine wpAny_passesOwn hp (jH (hg _ s5 B H5 x u _ Q r5 (step x H5 y5)) λ_ s6 ⟨Z6,H6,I6,q6⟩=>?_);refine wpAny_passesOwn hp (jH (c _ s6 Z6 H6 _ I6 q6) λf R w=>?_);have again:∀{l:St} {H7:Hp},Inv X (Y++XE y s5.heap) l H7 R->N l H7->∃m,m<n/\∃i A q,Inv X Y A q R/\tn i R.heap/\(∀b∈y,q b=none)/\W i m A q:=λ{l H7} p G=>by
   obtain⟨m',hm,w7⟩:=hN l H7 G;refine⟨m',hm,i+1,l,H7,p.unpinned,T.keep _ _ _ wq λb c o e=>(p.pin (b,o) (Ur _ (Ur _ (ZW c e)))).1,λb c=>?_,w7⟩;obtain⟨o,e,d⟩:=T.obj _ _ wq b c;exact(p.pin (b,o) (Ur _ (Ur _ (ZW c e)))).2.1
  cases f with
  |next=>obtain⟨l,H7,p,G⟩:=w;exact again p G
  |cont=>obtain⟨l,H7,p,G⟩:=w;exact again p G
  |brk=>obtain⟨l,H7,p,w⟩:=w;exact⟨l,H7,p.unpinned,w⟩
  |ret v=>obtain⟨x7,l,H7,p,r7,w⟩:=w;exact⟨x7,l,H7,p.unpinned,r7,w⟩
end
abbrev R2:=V->V->Hp->VK->Prop
def qY (X:Cx)(f:Value->Value->Sem Value)(r:R2):Prop:=
 ∀(Y:Yb) (s:Shared) (Z: St) (H:Hp) (x y:V) (v u:Value) (Q:VK),Inv X Y Z H s->js x v->js y u->r x y H Q ->
  YI X (f v u) (EP X Y Z Q) X.xe s
def wF (X:Cx)(f:Value->Sem Value)(r:V->Hp->VK->Prop):Prop:=
 ∀(Y:Yb) (s:Shared) (Z: St) (H:Hp) (x:V) (v:Value) (Q:VK),Inv X Y Z H s->js x v->r x H Q ->
  YI X (f v) (EP X Y Z Q) X.xe s
def jU (X:Cx)(f:Value)(r:YE->Hp->VK->Prop):Prop:=
 ∀(Y:Yb) (s:Shared) (Z: St) (H:Hp) (a:YE) (b:Yf) (Q:VK),Inv X Y Z H s->jv a b->r a H Q ->
  YI X (call f b) (EP X Y Z Q) X.xe s
def wW (r:R2)(a b:TE):TE:=λZ H Q=>a Z H λx c=>b Z c λy e=>r x y e Q
def rA (r:V->Hp->VK->Prop)(a:TE):TE:=λZ H Q=>a Z H λx b=>r x b Q
def rI (C:Int->Int->Prop)(g:Int->Int->V):R2:=λx y H Q=>∃i j,x=.int i/\y=.int j/\C i j/\Q (g i j) H
def wX (g:Int->Int->V):R2:=λx y H Q=>∃i j,x=.int i/\y=.int j/\Q (g i j) H
def rU (g:Int->V):V->Hp->VK->Prop:=λx H Q=>∃i,x=.int i/\Q (g i) H
section
variable {X:Cx}{a b c:Expr}{ta tb tc:TE}{pos:Pos}
def vw (j:PE X a ta)(l:PE X b tb){Y:Yb}{s:Shared}{Z: St}{H:Hp}{R:V->V->Hp->Prop}(I:Inv X Y Z H s)
 (h:ta Z H λx i=>tb Z i λy e=>R x y e) {Q:Ya} {f:Value->Value->Sem Value}
 (m:∀v u g x y e,Inv X Y Z e g->js x v->js y u->R x y e->YI X (f v u) Q X.xe g):
 YI X (eval a X.env) (λv s₁=>YI X (eval b X.env) (λu s₂=>YI X (f v u) Q X.xe s₂) X.xe s₁) X.xe s:=jH (j Y s Z H _ I h) λv n ⟨x,i,o,p,q⟩=>(jH (l Y n Z i _ o q) λu g ⟨y,e,r,t,w⟩=>(m v u g x y e r p t w))
def DV {op:Operator}{r:R2}(e:qY X (binaryOp op) r)(f:PE X a ta)(g:PE X b tb):PE X (.BinOp a op b pos) (wW r ta tb):=λY s Z H Q I h=>wpAny_BinOp (vw f g I h λv u i x y j l m n q=>e Y i Z j x y v u Q l m n q)
def uS {op:UnaryOp}{r:V->Hp->VK->Prop}(e:wF X (unaryOp op) r)(f:PE X a ta):PE X (.UnaryOp op a pos) (rA r ta):=λY s Z H Q I h=>UnaryOp_ (jH (f Y s Z H _ I h) λv g ⟨x,i,j,l,m⟩=>e Y g Z i x v Q j l m)
def hB {f:Value->Value->Sem Value}{C:Int->Int->Prop}{g:Int->Int->Int}
 (rule:∀i j t u s Q E,C i j->Q (.int (g i j) s.toks) { s with toks:=s.toks+1 }->YI X (f (.int i t) (.int j u)) Q E s):
 qY X f (rI C λi j=>.int (g i j)):=by
 intro Y s Z H x y v u Q I e l h;obtain⟨i,j,rfl,rfl,m,q⟩:=h;obtain⟨t,rfl⟩:=e;obtain⟨t',rfl⟩:=l;exact rule i j t t' s _ _ m ⟨.int (g i j),H,I.tok _,⟨_,rfl⟩,q⟩
def kh {f:Value->Value->Sem Value}{g:Int->Int->Int}
 (rule:∀i j t u s Q E,Q (.int (g i j) s.toks) { s with toks:=s.toks+1 }->YI X (f (.int i t) (.int j u)) Q E s):
 qY X f (wX λi j=>.int (g i j)):=by
 intro Y s Z H x y v u Q I e l h;obtain⟨i,j,rfl,rfl,q⟩:=h;obtain⟨t,rfl⟩:=e;obtain⟨t',rfl⟩:=l;exact rule i j t t' s _ _ ⟨.int (g i j),H,I.tok _,⟨_,rfl⟩,q⟩
def vq {f:Value->Value->Sem Value}{g:Int->Int->Bool}
 (rule:∀i j t u s Q E,Q (.bool (g i j)) s->YI X (f (.int i t) (.int j u)) Q E s):
 qY X f (wX λi j=>.bl (g i j)):=by
 intro Y s Z H x y v u Q I e l h;obtain⟨i,j,rfl,rfl,q⟩:=h;obtain⟨t,rfl⟩:=e;obtain⟨t',rfl⟩:=l;exact rule i j t t' s _ _ ⟨.bl (g i j),H,I,rfl,q⟩
def fP (i j:Int):Prop:=0<j/\j<1073741824
def fO (i j:Int):Prop:=0<=j/\j<=1000000/\i.natAbs<2 ^ 64
def Mz:qY X (binaryOp .Add) (wX λi j=>.int (i+j)):=kh λ_ _ _ _ _ _ _ q=>add_int q
def M0:qY X (binaryOp .Sub) (wX λi j=>.int (i-j)):=kh λ_ _ _ _ _ _ _ q=>sub_int q
def M3:qY X (binaryOp .FloorDiv) (rI fP λi j=>.int (i / j)):=hB λi j _ _ _ _ _ e q=>have f:=e.1;have g:=e.2;floordiv_int () (by rwa [Int.fdiv_eq_ediv_of_nonneg i ()]) (.inl (PyProof.noPylong_small ()))
def M4:qY X (binaryOp .Mod) (rI (λ_ j=>0<j) λi j=>.int (i % j)):=hB λi j _ _ _ _ _ e q=>mod_int' () (by rwa [Int.fmod_eq_emod_of_nonneg i ()])
def M5:qY X (binaryOp .Pow) (rI fO λi j=>.int (i ^ j.toNat)):=hB λ_ _ _ _ _ _ _ e q=>pow_int_small e.1 e.2.1 e.2.2 q
def cz {f:Value->Sem Value}{g:Int->Int}
 (rule:∀i t s Q E,Q (.int (g i) s.toks) { s with toks:=s.toks+1 }->YI X (f (.int i t)) Q E s):
 wF X f (rU λi=>.int (g i)):=by
 intro Y s Z H x v Q I e h;obtain⟨i,rfl,q⟩:=h;obtain⟨t,rfl⟩:=e;exact rule i t s _ _ ⟨.int (g i),H,I.tok _,⟨_,rfl⟩,q⟩
def M6:wF X (unaryOp .USub) (rU λi=>.int (-i)):=cz λ_ _ _ _ _ q=>neg_int q
end
def scal:V->V->Bool
 | .non,.non=>true | .non,.int _=>true | .int _,.non=>true | .non,.bl _=>true | .bl _,.non=>true | .non,.str _=>true | .str _,.non=>true
 | .int _,.int _=>true | .bl _,.bl _=>true | .str _,.str _=>true | .byt _,.byt _=>true
 | .int _,.str _=>true | .str _,.int _=>true | .bl _,.str _=>true | .str _,.bl _=>true
 |_,_=>false
def cF:R2:=λx y H Q=>scal x y=true/\Q (.bl (decide (x=y))) H
def cD:R2:=λx y H Q=>scal x y=true/\Q (.bl (!decide (x=y))) H
def DW {i j:Int}:decide (V.int i=V.int j)=(i == j):=by
 rw[Vg];simp
def DX {i j:Bool}:decide (V.bl i=V.bl j)=(i == j):=by
 rw[Vg];simp
def DY {i j:Str}:decide (V.str i=V.str j)=(i == j):=by
 rw[Vg];simp
def DZ {i j:Array UInt8}:decide (V.byt i=V.byt j)=(i.toList == j.toList):=by
 rw[Vg];simp
section
variable {X:Cx}{a b c:Expr}{ta tb tc:TE}{pos:Pos}
def Qa {Y:Yb}{Z: St}{H:Hp}{s:Shared}{Q:VK}{k f:Bool}(I:Inv X Y Z H s)(q:Q (.bl k) H)(e:k=f):EP X Y Z Q (.bool f) s:=by
 subst e;exact⟨.bl k,H,I,rfl,q⟩
def kg:qY X (compareOp .Eq) cF:=by
 intro Y s Z H x y v u Q I f e h;obtain⟨hs,q⟩:=h;cases x with
 |non =>
  cases f;cases y with
  |non=>cases e;exact PySem.EqNone.eq_none_none (Qa I q ())
  |bl j=>cases e;exact PySem.EqNone.eq_none_bool (Qa I q ())
  |int j=>obtain⟨t',rfl⟩:=e;exact PySem.EqNone.eq_none_int (Qa I q ())
  |str j=>obtain⟨t',rfl⟩:=e;exact PySem.EqNone.eq_none_str (Qa I q ())
  |_=>exact Zn (show false=true from hs) Zj
 |bl i =>
  cases f;cases y with
  |non=>cases e;exact PySem.EqNone.eq_bool_none (Qa I q ())
  |bl j=>cases e;exact eq_bool (Qa I q DX)
  |str j=>obtain⟨t',rfl⟩:=e;exact PySem.EqMixed.eq_bool_str (Qa I q ())
  |_=>exact Zn (show false=true from hs) Zj
 |int i =>
  obtain⟨t,rfl⟩:=f;cases y with
  |non=>cases e;exact PySem.EqNone.eq_int_none (Qa I q ())
  |int j=>obtain⟨t',rfl⟩:=e;exact eq_int (Qa I q DW)
  |str j=>obtain⟨t',rfl⟩:=e;exact PySem.EqMixed.eq_int_str (Qa I q ())
  |_=>exact Zn (show false=true from hs) Zj
 |str i =>
  obtain⟨t,rfl⟩:=f;cases y with
  |non=>cases e;exact PySem.EqNone.eq_str_none (Qa I q ())
  |bl j=>cases e;exact PySem.EqMixed.eq_str_bool (Qa I q ())
  |int j=>obtain⟨t',rfl⟩:=e;exact PySem.EqMixed.eq_str_int (Qa I q ())
  |str j=>obtain⟨t',rfl⟩:=e;exact eq_str (Qa I q DY)
  |_=>exact Zn (hs) Zj
 |byt i =>
  obtain⟨t,rfl⟩:=f;cases y with
  |byt j=>obtain⟨t',rfl⟩:=e;exact W.eq_bytes (Qa I q DZ)
  |_=>exact Zn (show false=true from hs) Zj
 |_=>cases y<;>exact Zn (show false=true from hs) Zj
def kb:qY X (compareOp .NotEq) cD:=by
 intro Y s Z H x y v u Q I f e h;obtain⟨hs,q⟩:=h;cases x with
 |non =>
  cases f;cases y with
  |non=>cases e;exact PySem.EqNone.ne_none_none (Qa I q ())
  |bl j=>cases e;exact PySem.EqNone.ne_none_bool (Qa I q ())
  |int j=>obtain⟨t',rfl⟩:=e;exact PySem.EqNone.ne_none_int (Qa I q ())
  |str j=>obtain⟨t',rfl⟩:=e;exact PySem.EqNone.ne_none_str (Qa I q ())
  |_=>exact Zn (show false=true from hs) Zj
 |bl i =>
  cases f;cases y with
  |non=>cases e;exact PySem.EqNone.ne_bool_none (Qa I q ())
  |bl j=>cases e;exact ne_bool (Qa I q (Zt not DX))
  |str j=>obtain⟨t',rfl⟩:=e;exact PySem.EqMixed.ne_bool_str (Qa I q ())
  |_=>exact Zn (show false=true from hs) Zj
 |int i =>
  obtain⟨t,rfl⟩:=f;cases y with
  |non=>cases e;exact PySem.EqNone.ne_int_none (Qa I q ())
  |int j=>obtain⟨t',rfl⟩:=e;exact ne_int (Qa I q (Zt not DW))
  |str j=>obtain⟨t',rfl⟩:=e;exact PySem.EqMixed.ne_int_str (Qa I q ())
  |_=>exact Zn (show false=true from hs) Zj
 |str i =>
  obtain⟨t,rfl⟩:=f;cases y with
  |non=>cases e;exact PySem.EqNone.ne_str_none (Qa I q ())
  |bl j=>cases e;exact PySem.EqMixed.ne_str_bool (Qa I q ())
  |int j=>obtain⟨t',rfl⟩:=e;exact PySem.EqMixed.ne_str_int (Qa I q ())
  |str j=>obtain⟨t',rfl⟩:=e;exact ne_str (Qa I q (Zt not DY))
  |_=>exact Zn (show false=true from hs) Zj
 |byt i =>
  obtain⟨t,rfl⟩:=f;cases y with
  |byt j=>obtain⟨t',rfl⟩:=e;exact W.ne_bytes (Qa I q (Zt not DZ))
  |_=>exact Zn (hs) Zj
 |_=>cases y<;>exact Zn (show false=true from hs) Zj
def kc:qY X (compareOp .Lt) (wX λi j=>.bl (decide (i<j))):=vq λ_ _ _ _ _ _ _ q=>lt_int q
def ke:qY X (compareOp .LtE) (wX λi j=>.bl (decide (i<=j))):=vq λ_ _ _ _ _ _ _ q=>le_int q
def kf:qY X (compareOp .Gt) (wX λi j=>.bl (decide (j<i))):=vq λ_ _ _ _ _ _ _ q=>gt_int q
def Qs (b){op:CmpOp}(h:op ≠ .In:=by decide)(e:op ≠ .NotIn:=by decide):behindInMarks op b=false:=by
 cases b<;>first|rfl|(show(_&&(_||_)&&_)=false;simp_all)
def M7 {op:CmpOp}{r:R2}(e:qY X (compareOp op) r)(f:PE X a ta)(g:PE X b tb)(i:behindInMarks op b=false):PE X (.Compare a [op] [b] pos) (wW r ta tb):=λY s Z H Q I h=>wpAny_Compare1 (vw f g I h λv u j x y l m n o q=>e Y j Z l x y v u Q m n o q) i
def vT (t:TE):TT:=λZ H Q=>t Z H λx e=>∃k,x=.bl k/\Q k e
def Ea {op:CmpOp}{r:R2}(f:qY X (compareOp op) r)(g:PE X a ta)(i:PE X b tb)(j:behindInMarks op b=false):PT X (.Compare a [op] [b] pos) (vT (wW r ta tb)):=by
 intro Y s Z H Q I h;refine wpAny_isTrue_Compare1 (jH (g Y s Z H _ I h) λv l ⟨x,m,n,o,p⟩=>jH (i Y l Z m _ n p) λu q ⟨y,t,w,A,B⟩ =>
  jH (f Y q Z t x y v u _ w o A B) λc J ⟨z,C,E,F,k,e,G⟩=>?_) j
 subst e;cases F;exact wpAny_truthy_bool ⟨C,E,G⟩
def Xb:(sizeLine:Nat)<2 ^ 63:=by decide
def M8:qY X (binaryOp .Add) (λx y H Q=>∃i j,x=.str i/\y=.str j/\i.length+j.length<=sizeLine/\Q (.str (i++j)) H):=by
 intro Y s Z H x y v u Q I e f h;obtain⟨i,j,rfl,rfl,hz,q⟩:=h;obtain⟨t,rfl⟩:=e;obtain⟨t',rfl⟩:=f;exact add_str (λt' tk=>⟨.str (i++j),H,I.tok _,⟨_,rfl⟩,q⟩) hz
def QX {x:V}{e:Yf}(r:jv [x] e):∃u,e=[u]/\js x u:=by
 cases r with
 |cons f g=>cases g;exact⟨_,rfl,f⟩
def ZX {x y:V}{e:Yf}(r:jv [x,y] e):∃u f,e=[u,f]/\js x u/\js y f:=by
 cases r with
 |cons g h =>
  cases h with
  |cons i j=>cases j;exact⟨_,_,rfl,g,i⟩
def M9 (g:X.calm=true):jU X (.builtin "max") (λf H Q=>∃i j,f=[.int i,.int j]/\Q (.int (if j > i then j else i)) H):=by
 intro Y s Z H f l Q I r h;obtain⟨i,j,rfl,q⟩:=h;obtain⟨u,m,rfl,⟨t,rfl⟩,⟨t',rfl⟩⟩:=ZX r;refine max_two_ints (I.ok.hd g) λh' tk k=>⟨_,H,I.kept k,?_,q⟩;by_cases e:j > i
 .rw[Zd e,Zd e];exact⟨_,rfl⟩
 .rw[Ze e,Ze e];exact⟨_,rfl⟩
def MA:jU X (.type "str") (λe H Q=>∃i,e=[.int i]/\i.natAbs.log2<1920/\Q (.str (toString i)) H):=by
 intro Y s Z H e f Q I r h;obtain⟨i,rfl,hz,q⟩:=h;obtain⟨u,rfl,t,rfl⟩:=QX r;exact PySem.P.str_of_int hz ⟨.str _,H,I.tok _,⟨_,rfl⟩,q⟩
end
structure ObjM (h:Heap)(x dx C:Addr)(mA:Ye):Prop where
 obj:h.get? x=some (W.instObj C dx)
 ns:h.Ns1 dx mA
 ne:dx≠x
def MB {h:Heap}{c:Addr}{mA:Ye}(n:h.Ns1 c mA):∃f,h.get? c=some f/\∀name,W.lookIn name f=some (mA name):=by
 obtain⟨o,es,ep,g,i,j,_,l⟩:=n;refine⟨o,g,λname=>?_⟩;have e:=l name;unfold nsFind findBy at e;rw[<- Array.find?_toList] at e;unfold W.lookIn;rw[i];dsimp only
 split
 .simp_all
 .have a:es.toList.any (·.refKey)=false:=by
   rw[VE];intro y m;have ⟨z,t,b⟩:=j y ();simp[DictEntry.refKey,b]
  simp_all
def ObjM.look {h:Heap}{x b C:Addr}{mA:Ye}(I:ObjM h x b C mA):∃a,W.InstAt h x (W.instObj C b) C (some a)/\∀name,W.lookIn name a=some (mA name):=
 let ⟨a,ho,hl⟩:=MB I.ns
 ⟨a,⟨I.obj,rfl,rfl,ho⟩,hl⟩
section
variable {prog:Program}{w:World}{A:Around}{E:Ya}{s:Shared}{K:W.Frag}{x dx C f:Addr}{mA:Ye}{name:Str}{v:Value}
def MC {a:Bool}{Q:Ya}(X:K.In s.heap)(I:ObjM s.heap x dx C mA)(c:W.plainGet K C name=true)(e:W.hasDictIn K C=true)
 (g:W.findIn K (.ref C) name=some none) (i:mA name=some v) (b:W.handedIn v=true) (h:Q v { s with toks:=s.toks+1 }):
 YJ prog w A (getAttr (.ref x) name a) Q E s:=by
 obtain⟨l,J,j⟩:=I.look;exact W.get_value X J (W.plainGet_of c).1 (W.findObj_own e g rfl (by rw[j,i])) b h
def ME {ns:Yk}{Q:Unit->YC}(X:K.In s.heap)(I:ObjM s.heap x dx C mA)
 (hs:W.findIn K (.ref C) "__setattr__" = some (some (.builtin "object.__setattr__"))) (hp:W.plainOver K C=true) (j:W.takerIn K C name=some none) (l:W.hasDictIn K C=true)
 (m:PySem.Within mA ns) (hsz:ns.length<=sizeLine)
 (h:∀h',ObjM h' x dx C (λy=>if y=name then some v else mA y)->Heap.SameBut dx s.heap h'->Q Yt { s with heap:=h',toks:=s.toks+2 }):
 YJ prog w A (setAttr (.ref x) name v) Q E s:=by
 obtain⟨r,J,t⟩:=I.look;refine W.set_plain X J hs (W.osa_open X J hp j λb=>?_);obtain⟨u,n,e⟩:=W.any_some l;refine Za (Zb (Za (Za (wpAny_loadPart I.obj (Za (W.Looks.here (W.looks_clsIn X n) ?_))))));rw[e];refine Zb (Za (Zb (Za (wpAny_nsSet1 I.ns λh' a c=>?_))));obtain⟨z,o,p,g,i,q⟩:=a.count (PySem.Within.cons name v m);exact Za (wpAny_lookBehind g (by rw[i];exact pastItsLine_dict ()) (Zb (h _ ⟨(c.2 _ (Ne.symm I.ne)).trans I.obj,a,I.ne⟩ c)))
def MF {R:Result->YC}{b:Yf}{c:List (Str×Value)}(X:K.In s.heap)(e:W.makesIn K C=true)
 (g:W.findIn K (.ref C) "__init__" = some (some (.ref f))) (i:W.typeIn K (.ref f)=some (.type "function"))
 (h:codeAny (model prog w) (A.under (.builtin "type.__call__" ⟨.ref C::b,c⟩)) (.call (.ref f) ⟨.ref (s.heap.objs.size+1)::b,c⟩) (W.InitBack (s.heap.objs.size+1) R)
  { s with heap:=(s.heap.push W.emptyDict).push (W.instObj C s.heap.objs.size) }):
 codeAny (model prog w) A (.call (.ref C) ⟨b,c⟩) R s:=W.make_core (W.makes_of X e) (W.looks_findIn X g) (λa=>W.bind_fn X a i) (.inl rfl) h
end
def qM (f:Str)(v:V):List (Str×V)->List (Str×V)
 | []=>[(f,v)]
 | (g,x)::r=>if g=f then(g,v)::r else(g,x)::qM f v r
theorem Eb (f g)(v):∀fs:List (Str×V),(qM f v fs).lookup g=if g=f then some v else fs.lookup g
 | []=>by
  show List.lookup g [(f,v)]=_
  grind
 | (k,x)::r=>by
  have a:=Eb f g v r;rw[show qM f v ((k,x)::r)=(if k=f then(k,v)::r else(k,x)::qM f v r) from rfl]
  grind
theorem BF (f)(v):∀fs:List (Str×V),f∈(qM f v fs).map (·.1)/\∀g,g∈fs.map (·.1)->g∈(qM f v fs).map (·.1)
 | []=>⟨by simp[qM],()⟩
 | (k,x)::r=>by
  have ⟨a,b⟩:=BF f v r;rw[show qM f v ((k,x)::r)=(if k=f then(k,v)::r else(k,x)::qM f v r) from rfl]
  grind
theorem Ec (f)(v):∀fs:List (Str×V),(qM f v fs).length<=fs.length+1
 | []=>by simp[qM]
 | (k,x)::r=>by
  have a:=Ec f v r;rw[show qM f v ((k,x)::r)=(if k=f then(k,v)::r else(k,x)::qM f v r) from rfl]
  grind
def q9 {v:V}{o:Yg}(r:xi (some v) o):∃u,o=some u/\js v u:=by
 cases o with
 |none=>exact(r).elim
 |some u=>exact⟨u,rfl,r⟩
def MG {v:V}{u:Value}(r:js v u):W.handedIn u=true:=by
 cases v with
 |non=>cases (r);rfl
 |bl b=>cases (r);rfl
 |int i=>have ⟨t,e⟩:=(r);cases e;rfl
 |str x=>have ⟨t,e⟩:=(r);cases e;rfl
 |byt b=>have ⟨t,e⟩:=(r);cases e;rfl
 |flt b=>have ⟨t,e⟩:=(r);cases e;rfl
 |ref a=>cases (r);rfl
 |ty n=>cases (r);rfl
section
variable {P:Program}{w:World}{H H':Hp}{h h':Heap}{a C dx:Addr}{fs fs':List (Str×V)}
def BG (b:qL P w H h)(e:H a=some (.ins C dx fs)):∃mA,ObjM h a dx C mA/\(∀f,xi (fs.lookup f) (mA f))/\PySem.Within mA (fs.map (·.1))/\fs.length<=1000/\H dx=some (.own a):=have ⟨d,z,ne,c,mA,n,r,q⟩:=(b a _ e);⟨mA,⟨c,n,ne⟩,r,q,z,d⟩
end
structure Cls (K:W.Frag)(C:Addr):Prop where
 pg:W.plainGet K C Str.empty=true
 hd:W.hasDictIn K C=true
 po:W.plainOver K C=true
 sa:W.findIn K (.ref C) "__setattr__" = some (some (.builtin "object.__setattr__"))
def Cls.get {K:W.Frag}{C:Addr}(c:Cls K C)(f):W.plainGet K C f=true:=c.pg
def wV (K:W.Frag)(C:Addr)(f:Str):Prop:=W.findIn K (.ref C) f=some none
def wV.taker {K:W.Frag}{C:Addr}{f:Str}(n:wV K C f):W.takerIn K C f=some none:=by
 unfold W.takerIn;rw[n];rfl
section
variable {X:Cx}{Y:Yb}{Z: St}{H:Hp}{s:Shared}{a C dx:Addr}{fs:List (Str×V)}{f:Str}{v:V}{A:Around}{E:Ya}
def MI {b:Bool}{Q:Ya}(I:Inv X Y Z H s)(e:H a=some (.ins C dx fs))(c:Cls X.K C)(n:wV X.K C f)(l:fs.lookup f=some v)
 (h:∀u s',Inv X Y Z H s'->js v u->Q u s'):wpAny (model X.prog X.w) A (getAttr (.ref a) f b) Q E s:=by
 obtain⟨mA,O,r,_,_,_⟩:=BG I.hok e;obtain⟨u,i,g⟩:=q9 (by rw[<- l];exact r f);exact MC I.kIn O (c.get f) c.hd n i (MG g) (h u _ (I.tok _) g)
def MJ {y:V}{u:Value}{Q:Unit->YC}(I:Inv X Y Z H s)(e:H a=some (.ins C dx fs))(c:Cls X.K C)(n:wV X.K C f)(w:fs.length<1000)(x:js y u)
 (h:∀s',Inv X Y Z (upd H a (.ins C dx (qM f y fs))) s'->Q Yt s'):wpAny (model X.prog X.w) A (setAttr (.ref a) f u) Q E s:=by
 obtain⟨mA,O,r,wi,_,j⟩:=BG I.hok e;have hz:(fs.map (·.1)).length<=sizeLine:=by rw[Zql,sizeLine_eq];lia
 refine ME I.kIn O c.sa c.po n.taker c.hd wi hz λh' i l=>h _ ?_;have m:∃o,h'.get? dx=some o:=let ⟨o,_,_,e',_⟩:=i.ns;⟨o,e'⟩
 refine I.write (by rw[e];exact True.intro) (.inr j) (λb q p z=>(l.2 b p).trans z) m ⟨by rwa [JH O.ne],?_,O.ne,i.obj,_,i.ns,λg=>?_,λg t=>?_⟩
 .have:=Ec f y fs;lia
 .rw[Eb];by_cases q:g=f
  .rwa [Zd q,Zd q]
  simp_all
 .by_cases q:g=f
  .rw[q];exact(BF f y fs).1
  .refine(BF f y fs).2 g (wi g λz=>t ?_)
   simp_all
def Inv.made (I:Inv X Y Z H s):Inv X Y Z (upd (upd H s.heap.objs.size (.own (s.heap.objs.size+1))) (s.heap.objs.size+1) (.ins C s.heap.objs.size []))
 { s with heap:=(s.heap.push W.emptyDict).push (W.instObj C s.heap.objs.size) }:=by
 have c:(s.heap.push W.emptyDict).get? s.heap.objs.size=some W.emptyDict:=Zr s.heap rfl;have g:((s.heap.push W.emptyDict).push (W.instObj C s.heap.objs.size)).get? (s.heap.objs.size+1)=some (W.instObj C s.heap.objs.size):=by
  have:=Zr (s.heap.push W.emptyDict) (o:=W.instObj C s.heap.objs.size) rfl
  simp_all
 have h:(s.heap.push W.emptyDict).Ns s.heap.objs.size (λ_=>none):=⟨W.emptyDict,#[],_,c,rfl,(λe i=>Zn i ()),λ_=>rfl⟩;refine(I.laid (o:=.own (s.heap.objs.size+1)) (t':=s.toks) (λb u q=>Zq _ q) (Zf _) ⟨_,c⟩).laid (λb u q=>Zq _ q) () ?_;have ne:s.heap.objs.size≠s.heap.objs.size+1:=()
 refine⟨by rw[JH ne,JL],Ua _,ne,g,λ_=>none,(Heap.Ns1.of_empty h).at λo q=>Zq _ q,λ_=>True.intro,λy j=>Zn rfl j⟩
def MK {prog:Program}{w:World}{env:Env}{e:Expr}{f:Str}{b:Pos}{s:Shared}{Q:Ya}(c:attributeBase e f env (eval e env)=eval e env)
 (h:YJ prog w A (eval e env) (λo s₁=>YJ prog w A (getAttr o f true) Q E s₁) E s):YJ prog w A (eval (.Attribute e f b) env) Q E s:=
 Attribute_any_ h (by rw[arm_eval_Attribute,c])
end
def mr (K:W.Frag)(c:TE)(f:Str):TE:=λZ H Q=>c Z H λx b=>∃a C e fs v,x=.ref a/\b a=some (.ins C e fs)/\Cls K C/\wV K C f/\fs.lookup f=some v/\Q v b
def mv (K:W.Frag)(e g:TE)(f:Str):TS:=λD Z H=>g Z H λy h=>e Z h λx b=>∃a C c fs,x=.ref a/\b a=some (.ins C c fs)/\Cls K C/\wV K C f/\fs.length<1000 /\
 D.nx Z (upd b a (.ins C c (qM f y fs)))
section
variable {X:Cx}{o e value:Expr}{f:Str}{pos pos' tpos:Pos}{ta tv:TE}
def ML (b:PE X e ta)(g:attributeBase e f X.env (eval e X.env)=eval e X.env):PE X (.Attribute e f pos) (mr X.K ta f):=by
 intro Y s Z H Q I h;refine MK g (jH (b Y s Z H _ I h) λu y ⟨x,i,j,m,a,C,z,fs,v,p,r,c,n,l,q⟩=>?_);subst p;obtain rfl:=m;exact MI j r c n l λA B t w=>⟨v,i,t,w,q⟩
def MM (b:PE X o ta)(g:PE X value tv)(hs:swapsWith value (some (.Attribute o f pos')) pos.line X.env=pure false):PS X (.Assign [.Attribute o f pos'] value pos) (mv X.K ta tv f):=by
 intro Y s Z H D I h;refine plainObj_wpAny_Assign_Attribute (jH (g Y s Z H _ I h) λu i ⟨y,j,m,p,q⟩=>jH (b Y i Z j _ m q) λB E ⟨x,F,r,t,a,C,G,fs,v,w,c,n,l,z⟩=>?_) hs;subst v;obtain rfl:=t;exact MJ r w c n l p λJ A=>⟨Z,_,A,z⟩
end
section
variable {X:Cx}{Y:Yb}{Z: St}{H:Hp}{s:Shared}{A:Around}{E:Ya}{Q:Ya}{c:Value}{b:Bool}
inductive TyOf (K:W.Frag)(H:Hp):V->Value->Prop where
 |non:TyOf K H .non (.type "NoneType")
 |bl (x:Bool):TyOf K H (.bl x) (.type "bool")
 |int (i:Int):TyOf K H (.int i) (.type "int")
 |str (x:Str):TyOf K H (.str x) (.type "str")
 |flt (x:UInt64):TyOf K H (.flt x) (.type "float")
 |lst {a:Addr} {xs:YE} (e:H a=some (.lst xs)):TyOf K H (.ref a) (.type "list")
 |frz {a:Addr} {o:Obj} {xs:YE} (e:H a=some (.frz o (.lst xs))):TyOf K H (.ref a) (.type "list")
 |tup {a:Addr} {xs:YE} (e:H a=some (.tup xs)):TyOf K H (.ref a) (.type "tuple")
 |dK {a:Addr} {kvs:List (jA×V)} (e:H a=some (.dK kvs)):TyOf K H (.ref a) (.type "dict")
 |dT {a:Addr} {kvs:List (List jA×V)} (e:H a=some (.dT kvs)):TyOf K H (.ref a) (.type "dict")
 |ins {a C dx:Addr} {fs:List (Str×V)} (e:H a=some (.ins C dx fs)) (cl:Cls K C) (ha:W.findIn K (.ref C) "__class__" = some (some (.builtin "object.__class__")))
  (hn:W.specialIn K (.builtin "object.__class__") "__get__" = some (some (.builtin "getset_descriptor.__get__"))) (htk:W.takesIn K (.builtin "object.__class__")=some true)
  (hm:W.mroIn K C (.type "object")=some true):TyOf K H (.ref a) (.ref C)
def MN {x:V}{u t:Value}(I:Inv X Y Z H s)(f:js x u)(B:TyOf X.K H x t)(e:W.kitOne X.K t c=some b)(h:∀tk,Q (.bool b) { s with toks:=tk }):
 wpAny (model X.prog X.w) A (call (.builtin "isinstance") [u,c]) Q E s:=by
 cases B with
 |non=>cases (f);exact W.kia_one W.kitx_none I.kIn True.intro e (λz=>nomatch z) h
 |bl y=>cases (f);exact W.kia_one W.kitx_bool I.kIn True.intro e (λz=>nomatch z) h
 |int i=>have ⟨t,q⟩:=(f);cases q;exact W.kia_one W.kitx_int I.kIn True.intro e (λz=>nomatch z) h
 |str y=>have ⟨t,q⟩:=(f);cases q;exact W.kia_one W.kitx_str I.kIn True.intro e (λz=>nomatch z) h
 |flt y=>have ⟨t,q⟩:=(f);cases q;exact W.kia_one W.kitx_float I.kIn True.intro e (λz=>nomatch z) h
 | @lst a m g =>
  cases (f);obtain⟨_,_,n,_,j⟩:=(I.hok a _ g);exact W.kia_one W.kitx_list I.kIn ⟨_,j,rfl⟩ e (λz=>nomatch z) h
 | @frz a L m g =>
  cases (f);obtain⟨_,_,_,n,_,j⟩:=(I.hok a _ g);exact W.kia_one W.kitx_list I.kIn ⟨_,j,rfl⟩ e (λz=>nomatch z) h
 | @tup a m g =>
  cases (f);obtain⟨_,_,_,p⟩:=(I.hok a _ g);obtain⟨o,j,l,_⟩:=p;exact W.kia_one W.kitx_tuple I.kIn ⟨o,j,l⟩ e (λz=>nomatch z) h
 | @dK a r g =>
  cases (f);obtain⟨_,_,M,_,p⟩:=(I.hok a _ g);obtain⟨o,es,ep,j,l,_⟩:=p;exact W.kia_one W.kitx_dict I.kIn ⟨o,j,l.1⟩ e (λz=>nomatch z) h
 | @dT a r g =>
  cases (f);obtain⟨_,_,m,_,o,es,ep,j,l,_⟩:=(I.hok a _ g);exact W.kia_one W.kitx_dict I.kIn ⟨o,j,l.1⟩ e (λz=>nomatch z) h
 | @ins a C N fs g w F G v K =>
  cases (f);obtain⟨mA,O,_⟩:=BG I.hok g;obtain⟨P,J,_⟩:=O.look;exact W.kia_one (W.kitx_own (w.get _) w.hd F G v K) I.kIn J e (λz=>nomatch z) h
end
structure Room (k:Nat)(A:Around):Prop where
 hd:A.handled=none
 dp:A.depth+3*k+5<recursionLimit
 un:A.units+16*k+200<cLine
def Room.mono {j k:Nat}{A:Around}(r:Room k A)(h:j<=k):Room j A:=⟨r.hd,by have:=r.dp;lia,by have:=r.un;lia⟩
theorem Room.deeper {k:Nat}{A:Around}(r:Room (k+1) A)(env):Room k (A.deeper env):=
 ⟨r.hd,by have:=r.dp;show A.depth+1+3*k+5<_;lia,by have:=r.un;show A.units+3+16*k+200<_;lia⟩
def MO {A:Around}{C:Addr}{a:Yf}{b:List (Str×Value)}:(A.under (.builtin "type.__call__" ⟨.ref C::a,b⟩)).depth=A.depth+1:=by
 rfl
def MP {A:Around}{C:Addr}{a:Yf}{b:List (Str×Value)}:(A.under (.builtin "type.__call__" ⟨.ref C::a,b⟩)).units=A.units+1:=by
 rfl
def Room.make {k:Nat}{A:Around}(r:Room (k+1) A)(C)(us)(kw):Room k (A.under (.builtin "type.__call__" ⟨.ref C::us,kw⟩)):=
 ⟨r.hd,by have:=r.dp;rw[MO];lia,by have:=r.un;rw[MP];lia⟩
theorem Room.depth {k:Nat}{A:Around}(r:Room k A):A.depth<recursionLimit:=by have:=r.dp;lia
theorem Room.units {k:Nat}{A:Around}(r:Room k A):A.units+64<cLine:=by have:=r.un;lia
def vi:TA:=λ_ H Q=>Q [] H
def BH (a:TE)(b:TA):TA:=λZ H Q=>a Z H λx c=>b Z c λe f=>Q (x::e) f
section
variable {X:Cx}{e:Expr}{es:Ym}{te:TE}{t:TA}{pos:Pos}
def W0:PA X [] vi:=λ_ _ _ _ H Q I h=>Calls.spliced_nil ⟨[],H,I,.nil,h⟩
def KS (a:PE X e te)(b:PA X es t)(hs:starEach (e::es) X.env=(false,eval e X.env)::starEach es X.env:=by rfl):PA X (e::es) (BH te t):=by
 intro pos Y s Z H Q I h;rw[hs];exact Calls.spliced_cons (jH (a Y s Z H _ I h) λu c ⟨x,f,g,i,j⟩=>(jH (b pos Y c Z f _ g j) λq r ⟨l,m,n,o,p⟩=>⟨x::l,m,n,.cons i o,p⟩))
def me (t:TA):TE:=λZ H Q=>t Z H λa b=>a.length<=sizeLine/\∀p,b p=none->Q (.ref p) (upd b p (.tup a))
def mm (t:TA):TE:=λZ H Q=>t Z H λa b=>a.length<=sizeLine/\∀p,b p=none->Q (.ref p) (upd b p (.lst a))
def MQ {x1}(h:PA X es t):PE X (.Tuple es x1 pos) (me t):=λY s Z H Q I f=>wpAny_Tuple_spliced (jH (h pos Y s Z H _ I f) λg a ⟨i,j,c,r,z,q⟩=>⟨by rwa [<- r.length],⟨.ref a.heap.objs.size,upd j a.heap.objs.size (.tup i),c.laid (λb u e=>Zq _ e) (Zf _) (⟨⟨z,⟨_,Zr _ rfl,rfl⟩⟩,g,r,⟨_,Zr _ rfl,rfl,_,rfl⟩⟩),rfl,q _ (c.hok.fresh (Zf _))⟩⟩)
def MS (h:PA X es t):PE X (.List es pos) (mm t):=λY s Z H Q I f=>wpAny_List_spliced (jH (h pos Y s Z H _ I f) λg a ⟨i,j,c,r,z,q⟩=>⟨by rwa [<- r.length],⟨.ref a.heap.objs.size,upd j a.heap.objs.size (.lst i),c.laid (λb u e=>Zq _ e) (Zf _) ⟨z,g,0,r,Zr _ rfl⟩,rfl,q _ (c.hok.fresh (Zf _))⟩⟩)
end
abbrev Sp:=YE->Hp->VK->XK->Prop
abbrev zw:=List Env->Hp->Shared->XK->Ya
structure Env0 (P:Program)(w:World)(K:W.Frag)(mg:Ye)(base:Heap)(A:Around)(outer:List Env)(s:Shared)(H:Hp):Prop where
 frames:A.frames=some outer
 mod:Mod K mg base
 bs:∀b o,base.get? b=some o->s.heap.get? b=some o/\H b=none
 bsz:base.objs.size<=s.heap.objs.size
 funs:s.heap.FunFrames base outer
 frf:∀b∈xb outer,H b=none
 hok:qL P w H s.heap
 bare:AllBare s.gens
def CE (a:List Env)(P:Program)(w:World)(H:Hp)(s:Shared)(Q:VK)(u:Value)(s':Shared):Prop:=
 ∃v b,s'.os=s.os/\AllBare s'.gens/\Un (xb a) [] H b s.heap s'.heap/\qL P w b s'.heap/\js v u/\Q v b
def CR (CX:zw)(a:List Env)(P:Program)(w:World)(H:Hp)(s:Shared)(Q:VK)(E:XK)(r:Result)(s':Shared):Prop:=
 match r with
 | .ok (.ret u)=>CE a P w H s Q u s'
 | .ok _=>False
 | .error e=>CX a H s E e s'
structure FnOk (P:Program)(w:World)(K:W.Frag)(mg:Ye)(base:Heap)(CX:zw)(k:Nat)(f:Addr)(fd:FuncData)(ps:Yk)(sp:Sp):Prop where
 len:∀vs H Q E,sp vs H Q E->vs.length=ps.length
 run:∀(A:Around) (outer:List Env) (s:Shared) (H:Hp) (args:Args) (us:Yf) (vs:YE) (Q:VK) (E:XK),Room k A->Env0 P w K mg base A outer s H->BindsTo s fd args (ps.zip us)->jv vs us->sp vs H Q E ->
  codeAny (model P w) A (.call (.ref f) args) (CR CX outer P w H s Q E) s
theorem FnOk.mono {P:Program}{w:World}{K:W.Frag}{mg:Ye}{a:Heap}{CX:zw}{j k:Nat}{f:Addr}{c:FuncData}{ps:Yk}{sp:Sp}(F:FnOk P w K mg a CX j f c ps sp)(h:j<=k):
 FnOk P w K mg a CX k f c ps sp:=⟨F.len,λA b s H args e g Q E i=>F.run A b s H args e g Q E (i.mono h)⟩
def FnOk.imp {P:Program}{w:World}{K:W.Frag}{mg:Ye}{a:Heap}{CX:zw}{k:Nat}{f:Addr}{g:FuncData}{ps:Yk}{sp e:Sp}(F:FnOk P w K mg a CX k f g ps sp)
 (h:∀c H Q E,e c H Q E->sp c H Q E):FnOk P w K mg a CX k f g ps e:=
 ⟨λc H Q E q=>F.len c H Q E (h _ _ _ _ q),λA b s H args i c Q E j l m n hs=>F.run A b s H args i c Q E j l m n (h _ _ _ _ hs)⟩
def Env0.make {P:Program}{w:World}{K:W.Frag}{mg:Ye}{b:Heap}{A:Around}{a:List Env}{s:Shared}{H:Hp}(e:Env0 P w K mg b A a s H)(C)(us)(kw):
 Env0 P w K mg b (A.under (.builtin "type.__call__" ⟨.ref C::us,kw⟩)) a s H:=⟨by first|exact e.frames|(simpa using e.frames),e.mod,e.bs,e.bsz,e.funs,e.frf,e.hok,e.bare⟩
section
variable {X:Cx}{Y:Yb}{Z: St}{H:Hp}{s s':Shared}
def Inv.env0 (I:Inv X Y Z H s):Env0 X.prog X.w X.K X.mg X.base X.A X.stack s H:=
 ⟨I.ok.frames,I.ok.mod,I.bs,Zh I.ok.bsz I.sz,I.stack,I.stkFree,I.hok,I.bare⟩
def Inv.after {Q:VK}{u:Value}(I:Inv X Y Z H s)(h:CE X.stack X.prog X.w H s Q u s'):EP X Y Z Q u s':=by
 obtain⟨v,c,os,bare,un,a,r,q⟩:=h;obtain⟨f,g,d,t,e⟩:=s';obtain rfl:=os;exact⟨v,c,I.call un a bare (λb z=>Zn z ()),r,q⟩
end
def BI (sp:Sp)(a:YE)(E:XK)(t:TA):TE:=λZ H Q=>t Z H λb c=>sp (b++a) c Q E
def vX (C:Addr)(sp:Sp)(b:YE)(E:XK)(t:TA):TE:=λZ H Q=>t Z H λe c=>∀x a,c x=none->c a=none->a≠x ->
 sp (.ref x::(e++b)) (upd (upd c a (.own x)) x (.ins C a [])) (λv f=>v=.non/\Q (.ref x) f) E
def zz (K:W.Frag)(b:FuncData)(ps:Yk)(ds:Yf):Prop:=
 ∀(s:Shared) (a:Yf),K.In s.heap->(a++ds).length=ps.length->BindsTo s b ⟨a,[]⟩ (ps.zip (a++ds))
def zz.all {K:W.Frag}{b:FuncData}{ps:Yk}(h:∀a:Yf,a.length=ps.length->bindArgs b ⟨a,[]⟩=pure (ps.zip a)):zz K b ps []:=λs a _ c=>by
 rw[ZB] at c ⊢;exact .of_eq (h a c)
def Xc (CX:zw)(X:Cx)(E:XK):Prop:=∀(Y:Yb) (Z: St) (H:Hp) (s:Shared) (e:Value) (s':Shared),Inv X Y Z H s->CX X.stack H s E e s'->X.xe e s'
section
variable {X:Cx}{CX:zw}{k:Nat}{f C:Addr}{fd:FuncData}{ps:Yk}{sp:Sp}{dvs:YE}{ds:Yf}{E:XK}{x m:Str}{p pos apos:Pos}{e o:Expr}{es:Ym}{ta:TE}{t:TA}
def MT {Y:Yb}{Z: St}{H:Hp}{s:Shared}{Q:VK}{a:Yf}{c:YE}(F:FnOk X.prog X.w X.K X.mg X.base CX k f fd ps sp)(i:Room k X.A)(j:zz X.K fd ps ds)(l:jv dvs ds)(n:Xc CX X E)
 (I:Inv X Y Z H s) (r:jv c a) (h:sp (c++dvs) H Q E):YI X (call (.ref f) a) (EP X Y Z Q) X.xe s:=by
 have g:=r.append l;have q:(a++ds).length=ps.length:=by rw[<- g.length];exact F.len _ _ _ _ h
 refine wpAny_call (codeAny_mono (F.run X.A X.stack s H ⟨a,[]⟩ (a++ds) (c++dvs) Q E i I.env0 (j s a I.kIn q) g h) λr s' b=>?_);cases r with
 |error e=>exact n Y Z H s e s' I b
 |ok v =>
  cases v with
  |ret u=>exact I.after b
  |next=>exact False.elim b
  |brk=>exact False.elim b
  |cont=>exact False.elim b
def Ed (F:FnOk X.prog X.w X.K X.mg X.base CX k f fd ps sp)(g:Room k X.A)(i:Gl X x)(j:X.mg x=some (.ref f))(l:W.keepIn X.K (.ref f)=true)(n:zz X.K fd ps ds)(u:jv dvs ds)(v:Xc CX X E)
 (w:PA X (e::es) t) (a:(x == ("__debug__" : Str))=false:=by decide) (y:starEach (e::es) X.env=(false,eval e X.env)::starEach es X.env:=by rfl) (b:(backTo pos (starEach es X.env)).any (·.1)=false:=by rfl):
 PE X (.Call (.Name x p) (e::es) [] pos) (BI sp dvs E t):=by
 intro Y s Z H Q I h;exact wpAny_Call_Name_kw (Xa I i j (W.callWith_K I.ok.mod.kin l (jH (w pos Y s Z H _ I h) λz A ⟨B,G,c,r,q⟩=>⟨c.kIn,MT F g n u v c r q⟩) y b) a)
structure Mk (K:W.Frag)(C f:Addr):Prop where
 makes:W.makesIn K C=true
 init:W.findIn K (.ref C) "__init__" = some (some (.ref f))
 fn:W.isFn K (.ref f)=true
 kp:W.keepIn K (.ref C)=true
def MU {Y:Yb}{Z: St}{H:Hp}{s:Shared}{Q:VK}{b:Yf}{i:YE}(M:Mk X.K C f)(F:FnOk X.prog X.w X.K X.mg X.base CX k f fd ps sp)(n:Room (k+1) X.A)(q:zz X.K fd ps ds)(w:jv dvs ds)
 (y:Xc CX X E) (I:Inv X Y Z H s) (r:jv i b)
 (h:∀x c,H x=none->H c=none->c≠x->sp (.ref x::(i++dvs)) (upd (upd H c (.own x)) x (.ins C c [])) (λv z=>v=.non/\Q (.ref x) z) E):
 YI X (call (.ref C) b) (EP X Y Z Q) X.xe s:=by
 have j:=h (s.heap.objs.size+1) s.heap.objs.size (I.hok.fresh (Nat.le_succ _)) (I.hok.fresh (Zf _)) (Zi (UK _));have g:=Inv.made (C:=C) I;have l:jv (V.ref (s.heap.objs.size+1)::(i++dvs)) (Value.ref (s.heap.objs.size+1)::(b++ds)):=.cons rfl (r.append w);have A:(Value.ref (s.heap.objs.size+1)::b++ds).length=ps.length:=by
  have e:=l.length;rw[F.len _ _ _ _ j] at e;exact e.symm
 refine wpAny_call (MF I.kIn M.makes M.init (Ys.mp M.fn) (codeAny_mono (F.run _ X.stack _ _ ⟨Value.ref (s.heap.objs.size+1)::b,[]⟩ (Value.ref (s.heap.objs.size+1)::(b++ds)) _ _ E (n.make C b [])
  (g.env0.make C b []) (q _ (Value.ref (s.heap.objs.size+1)::b) g.kIn A) l j) λr s' a=>?_))
 cases r with
 |error e=>exact y Y Z _ _ e s' g a
 |ok B =>
  cases B with
  |ret u =>
   obtain⟨v,G,J,K,L,N⟩:=g.after a;subst L;exact⟨K,⟨V.ref (s.heap.objs.size+1),G,J,rfl,N⟩⟩
  |next=>exact False.elim a
  |brk=>exact False.elim a
  |cont=>exact False.elim a
def MV (M:Mk X.K C f)(F:FnOk X.prog X.w X.K X.mg X.base CX k f fd ps sp)(g:Room (k+1) X.A)(i:Gl X x)(j:X.mg x=some (.ref C))(l:zz X.K fd ps ds)(n:jv dvs ds)(u:Xc CX X E)
 (v:PA X (e::es) t) (a:(x == ("__debug__" : Str))=false:=by decide) (w:starEach (e::es) X.env=(false,eval e X.env)::starEach es X.env:=by rfl) (b:(backTo pos (starEach es X.env)).any (·.1)=false:=by rfl):
 PE X (.Call (.Name x p) (e::es) [] pos) (vX C sp dvs E t):=λY s Z H Q I h=>wpAny_Call_Name_kw (Xa I i j (W.callWith_K I.ok.mod.kin M.kp (jH (v pos Y s Z H _ I h) λy z ⟨A,B,c,r,q⟩=>⟨c.kIn,MU M F g l n u c r q⟩) w b) a)
end
structure FnScope (N P:Yk)(sc:Scope):Prop where
 kind:sc.kind=.function
 co:sc.isCoroutine=false
 gen:sc.isGenerator=false
 nd:N.Nodup
 pre:N.take P.length=P
 par:∀x∈P,sc.names.lookup x=some .local\/sc.names.lookup x=some .cell
 nofree:∀y∈sc.names,y.2 ≠ .free
theorem Ee {kindOf:Str->Option NameKind}{x:Str}:∀{binds:List (Str×Value)} {m:Ye},(∀v,(x,v)∉binds)->bindL kindOf binds m x=m x
 | [],_,_=>rfl
 | (n,v)::r,m,h=>by
  unfold bindL;rw[Ee ()]
  split
  .grind
  .rfl
theorem Ef {kindOf:Str->Option NameKind}{x:Str}:∀{binds:List (Str×Value)} {m:Ye},(∀v,(x,v)∉binds)->bindC kindOf binds m x=m x
 | [],_,_=>rfl
 | (n,v)::r,m,h=>by
  unfold bindC;rw[Ef ()]
  split
  .rfl
  grind
theorem Eg {kindOf:Str->Option NameKind}{x:Str}{v:Value}:∀{P:Yk} {a:Yf} {i:Nat} {m:Ye},P.Nodup->P[i]? = some x->a[i]? = some v->kindOf x=some .local ->
 bindL kindOf (P.zip a) m x=some v
 | [],_,_,_,_,h,_,_=>by simp at h
 |_::_,[],_,_,_,_,h,_=>by simp at h
 |p::P,w::a,0,m,nd,h1,h2,hk=>by
  simp at h1 h2;subst h1;subst h2;show bindL kindOf ((p,w)::P.zip a) m p=_;unfold bindL;rw[Ee λv b=>(Jl.mp nd).1 (List.of_mem_zip b).1,Zd hk];simp
 |p::P,w::a,i+1,m,nd,h1,h2,hk=>by
  show bindL kindOf ((p,w)::P.zip a) m x=_;exact Eg () (by simpa using h1) (by simpa using h2) hk
theorem Eh {kindOf:Str->Option NameKind}{x:Str}{v:Value}:∀{P:Yk} {a:Yf} {i:Nat} {m:Ye},P.Nodup->P[i]? = some x->a[i]? = some v->kindOf x≠some .local ->
 bindC kindOf (P.zip a) m x=some v
 | [],_,_,_,_,h,_,_=>by simp at h
 |_::_,[],_,_,_,_,h,_=>by simp at h
 |p::P,w::a,0,m,nd,h1,h2,hk=>by
  simp at h1 h2;subst h1;subst h2;show bindC kindOf ((p,w)::P.zip a) m p=_;unfold bindC;rw[Ef λv b=>(Jl.mp nd).1 (List.of_mem_zip b).1,Ze hk];simp
 |p::P,w::a,i+1,m,nd,h1,h2,hk=>by
  show bindC kindOf ((p,w)::P.zip a) m x=_;exact Eh () (by simpa using h1) (by simpa using h2) hk
def start (N:Yk)(a:YE):St:=a.map some++List.replicate (N.length-a.length) none
def jX (CX:zw)(P:Program)(w:World)(K:W.Frag)(mg:Ye)(base:Heap)(N:Yk)(b:Str)(a:Scope)(f:Addr)(g:Value)(A:Around)(outer:List Env)(s:Shared)(H:Hp)(E:XK):Cx where
 prog:=P
 w:=w
 K:=K
 mg:=mg
 base:=base
 A:=A.deeper (envOfC b a s.heap.objs.size f g)
 N:=N
 s₀:=s
 H₀:=H
 env:=envOfC b a s.heap.objs.size f g
 outer:=outer
 stack:=envOfC b a s.heap.objs.size f g::outer
 ex:=[]
 calm:=true
 fn:=λ_=>true
 pn:=[]
 xe:=λe s'=>wpAny (model P w) (A.deeper (envOfC b a s.heap.objs.size f g)) (leaving (envOfC b a s.heap.objs.size f g) e) (λ_ c=>CX outer H s E e c) (λh c=>CX outer H s E h c) s'
def Ei {a:Scope}{n:Nat}{x:Str}(h:a.names.lookup x=some .cell):∃c,(cellsFrom n a.names []).lookup x=some c:=have q:=W.cellsFrom_some a.names n [] (.inl h);Js.mp q
def MW {CX:zw}{P:Program}{w:World}{K:W.Frag}{mg:Ye}{l:Heap}{N ps:Yk}{j:Str}{a:Scope}{f:Addr}{B:Value}{A:Around}{g:List Env}{s G:Shared}{H:Hp}{E:XK}{C:Yf}{n:YE}
 (S:FnScope N ps a) (M:A.handled=none) (m:Env0 P w K mg l A g s H) (T:n.length=ps.length) (r:jv n C)
 (x:InCallC s s.heap.objs.size (bindL (envOfC j a s.heap.objs.size f B).kindOf (ps.zip C) λ_=>none) (cellsFrom (s.heap.objs.size+1) a.names []) (bindC (envOfC j a s.heap.objs.size f B).kindOf (ps.zip C) λ_=>none) G):
 Inv (jX CX P w K mg l N j a f B A g s H E) [] (start N n) H G:=by
 have O:ps.length<=N.length:=by have:=Zt List.length S.pre;grind
 obtain⟨F,tk,rfl,I⟩:=x.done;have o:∀b:Addr,b∉(jX CX P w K mg l N j a f B A g s H E).ex:=λb z=>Zn (show b∈([]:Yl) from z) ();refine⟨⟨m.mod,S.kind,rfl,rfl,Zf _,λy z c F J=>?_,λy hy=>?_,λy c _ h=>?_,λ_=>M,Around.frames_deeper m.frames,.inr ⟨rfl,rfl⟩,λb z=>Zn z (o b),m.bs,m.bsz,λb _ _=>o b,(),m.funs,m.frf⟩,
  rfl,m.bare,Un.kept I,⟨_,x.toInCall.ns,λi y v F J U=>?_⟩,λy c h=>⟨_,x.cell y c h⟩,m.hok.fresh (Zf _),λy c h=>?_,λp hp=>Zn (show p∈([]:Yb) from hp) (),m.hok.kept I,?_⟩
 .exact name_of_addr x.apart (PySem.mem_of_lookup F) (PySem.mem_of_lookup J)
 .have hy:=hy;rcases hy with hy|hy
  .exact Ei hy
  .exact Zn rfl (S.nofree _ (PySem.mem_of_lookup hy))
 .exact Zz (x.above y c (PySem.mem_of_lookup h))
 .have X:i<n.length:=by
   grind[start,List.getElem?_replicate]
  have Q:n[i]? = some v:=by
   grind[start,List.getElem?_map]
  have ⟨u,L,R⟩:=r.get Q;have hp:ps[i]? = some y:=by
   rwa [<- S.pre,VR ()]
  have t:ps.Nodup:=by rw[<- S.pre];exact S.nd.sublist (List.take_sublist _ _)
  refine⟨u,R,?_⟩;rcases S.par y (Uf hp) with k|k
  .exact .inl ⟨k,Eg t hp L k⟩
  .obtain⟨c,e⟩:=Ei k;refine .inr ⟨.inl k,c,e,?_⟩;have q:=x.cell y c e
   rwa [Eh t hp L (by show a.names.lookup y≠_;simp_all)] at q
 .exact m.hok.fresh (Zz (x.above y c (PySem.mem_of_lookup h)))
 .unfold start;show _=N.length
  simp_all
def Ej {CX:zw}{P:Program}{w:World}{K:W.Frag}{mg:Ye}{i:Heap}{k:Nat}{f:Addr}{name g:Str}{params:Arguments}{j:List Stmt}{a:Scope}{U kV B X h ct oc:Value}{Y od:Option Addr}
 {M:Array Yg} {N ps:Yk} {sp:Sp} (lk:K.lookup f=some ⟨oc,od,.func (W.fnOf name g params j a U kV B X Y h ct),M⟩) (O:W.codeIn K h g=true) (S:FnScope N ps a)
 (len:∀l H Q E,sp l H Q E->l.length=ps.length)
 (p:∀A c s H l Q E,Room k (A.deeper (envOfC g a s.heap.objs.size f h))->sp l H Q E ->
  ∃t,qK (jX CX P w K mg i N g a f h A c s H E) j t/\t { nx:=λ_ m=>Q .non m,rt:=Q } (start N l) H):
 FnOk P w K mg i CX (k+1) f (W.fnOf name g params j a U kV B X Y h ct) ps sp:=by
 refine⟨len,λA c s H args us l Q E R C hb r F=>?_⟩;have Z:=C.mod.kin.keeps λb o e=>(C.bs b o e).1;have z:∀y∈ps.zip us,a.names.lookup y.1=some .local\/(a.names.lookup y.1=some .cell/\((cellsFrom (s.heap.objs.size+1) a.names []).lookup y.1).isSome=true):=λ⟨n,v⟩ hy=>by
  rcases S.par n (List.of_mem_zip hy).1 with q|q
  .exact .inl q
  .exact .inr ⟨q,W.cellsFrom_some _ _ _ (.inl q)⟩
 refine codeAny_call_function R.depth (Z _ _ lk) rfl S.co S.gen rfl (W.codeRec_of Z O) (hb _ _ _ _ (wpAny_newFunctionEnv_cells S.kind z λenv he s1 x=>?_));subst he;refine⟨(C.mod.nolimit.keeps λb o e=>(C.bs b o e).1).keeps x.toInCall.keep,codeAny_func ?_⟩;obtain⟨t,ht,hq⟩:=p A c s H l Q E (R.deeper _) F;have I:Inv (jX CX P w K mg i N g a f h A c s H E) [] (start N l) H s1:=MW S R.hd C (len _ _ _ _ F) r x;refine Zc (ht [] s1 (start N l) H _ I hq) (λfl s' hs=>?_) λe s' hs=>hs;have G:∀{L:St} {m:Hp} {v:V} {u:Value},Inv (jX CX P w K mg i N g a f h A c s H E) [] L m s'->js v u->Q v m->CE c P w H s Q u s':=
  λ{L m v u} J T q=>⟨v,m,J.os,J.bare,J.base,J.hok,T,q⟩
 cases fl with
 |ret u =>
  obtain⟨v,L,m,J,T,q⟩:=hs;exact G J T q
 |next =>
  obtain⟨L,m,J,q⟩:=hs;exact G (v:=V.non) J rfl q
 |brk =>
  obtain⟨_,_,_,q⟩:=hs;exact False.elim q
 |cont =>
  obtain⟨_,_,_,q⟩:=hs;exact False.elim q
section
variable {X:Cx}{x:Str}{p pos:Pos}{e:Expr}{es:Ym}{t:TA}{id T:String}{r:YE->Hp->VK->Prop}
def vm (r:YE->Hp->VK->Prop)(t:TA):TE:=λZ H Q=>t Z H λa b=>r a b Q
def ZY (c:jU X (.builtin id) r)(f:Gl X x)(g:X.mg x=none)(i:bootBuiltins x=some (.builtin id))(j:PA X (e::es) t)(l:x ≠ "__name__" := by decide)(a:(x == ("__debug__" : Str))=false:=by decide)
 (m:starEach (e::es) X.env=(false,eval e X.env)::starEach es X.env:=by rfl) (b:(backTo pos (starEach es X.env)).any (·.1)=false:=by rfl):PE X (.Call (.Name x p) (e::es) [] pos) (vm r t):=λY s Z H Q I h=>wpAny_Call_Name_kw (Wz I f g i (PyProof.Rows.callWith_builtin1 (jH (j pos Y s Z H _ I h) λn o ⟨q,u,v,w,y⟩=>c Y o Z u q n Q v w y) m b) l a)
def BJ (c:jU X (.type T) r)(f:Gl X x)(g:X.mg x=none)(i:bootBuiltins x=some (.type T))(j:PA X (e::es) t)(l:x ≠ "__name__" := by decide)(a:(x == ("__debug__" : Str))=false:=by decide)
 (m:starEach (e::es) X.env=(false,eval e X.env)::starEach es X.env:=by rfl) (b:(backTo pos (starEach es X.env)).any (·.1)=false:=by rfl):PE X (.Call (.Name x p) (e::es) [] pos) (vm r t):=λY s Z H Q I h=>wpAny_Call_Name_kw (Wz I f g i (PyProof.Rows.callWith_type1 (jH (j pos Y s Z H _ I h) λn o ⟨q,u,v,w,y⟩=>c Y o Z u q n Q v w y) m b) l a)
end
end L2
namespace HT
open PySem PyProof.Rows
def lexLt:Yh->List Int->Bool
 | [],[]=>false
 | [],_::_=>true
 |_::_,[]=>false
 |x::xs,y::ys=>if x=y then lexLt xs ys else decide (x<y)
theorem lexLt_cons (x y)(xs ys):lexLt (x::xs) (y::ys)=if x=y then lexLt xs ys else decide (x<y):=rfl
theorem lexLt_nil_nil:lexLt [] []=false:=rfl
def MX (y)(ys):lexLt [] (y::ys)=true:=rfl
def MY (x)(xs):lexLt (x::xs) []=false:=rfl
def MZ (A)(s)(a)(t)(c)(u):∃e,SeqAt.EqAt A s (.int a t) (.int c u) e/\(e=true↔a=c):=
 ⟨(a == c),SeqAt.EqAt.int_int a t c u,()⟩
def Na (A)(s)(a)(t)(c)(u)(prog)(w)(E)(Q)(h:Q (.bool (decide (a<c))) s):
 YJ prog w A (richCompare .Lt (.int a t) (.int c u)) Q E s:=
 (PyProof.Rows.lt_int h:YJ prog w A (compareOp .Lt (.int a t) (.int c u)) Q E s)
section
open PySem.SeqAt
open PySem.AutoSeq1 (wpAny_loadPart')
open PySem.MeetsSeq PySem.MeetsSeq2 PySem.MeetsSeq3
def Nb (l b:Addr)(i f:Yn)(n G:Nat)(dd v:Option Addr)(H z:Array Yg)(ns B:Yh)(I:IntsAre i.toList ns)(J:IntsAre f.toList B):
 Meets (Builtin.«tuple.__lt__» ⟨[.ref l,.ref b],[]⟩)
  (λ_ R s=>s.heap.get? l=some { cls:=.type "tuple",dict:=dd,data:=.seq i n,slots:=H }/\s.heap.get? b=some { cls:=.type "tuple",dict:=v,data:=.seq f G,slots:=z } /\
   R (.ok (.ret (.bool (lexLt ns B)))) s):=
 .of_wp λprog w A R s h=>by
  obtain⟨hp,g,d,tk,os⟩:=s;obtain⟨K,L,h⟩:=h;have P:=AutoSeq1.sub_tuple_tuple;have Q:i.size=ns.length:=by rw[<- I.length];simp
  have S:f.size=B.length:=by rw[<- J.length];simp
  wp_walk using wpAny_loadPart' K,wpAny_loadPart' L,wpAny_forIn_list _ (λrest b s'=>b.1=none/\s'=⟨hp,g,d,tk,os⟩/\∃(p r:Yf) (j m:Yh),rest=p.zip r /\
   IntsAre p j/\IntsAre r m/\j.length+f.size=m.length+i.size/\R (.ok (.ret (.bool (lexLt j m)))) ⟨hp,g,d,tk,os⟩) _
  case turn =>
   rintro⟨y,x⟩ rest b s' ⟨hb',rfl,p,r,j,m,hz,hvi,hwi,hlen,hR⟩;cases hvi with
   |nil=>rw[List.zip_nil_left] at hz;cases hz
   |cons a t E =>
    cases hwi with
    |nil=>rw[List.zip_nil_right] at hz;cases hz
    |cons c u F =>
     rw[Vu] at hz;injection hz with hyx hrest
     injection hyx with hy hx
     subst hy hx;rw[lexLt_cons] at hR;simp only[Zu] at hlen;obtain⟨e,M,o⟩:=MZ A.in1 ⟨hp,g,d,tk,os⟩ a t c u;refine Za (M prog w _ _ ?_);cases e with
     |true =>
      rw[Zd (o.mp rfl)] at hR
      wp_walk
      exact()
     |false =>
      rw[Ze (λq=>Zn (o.mpr q) Zj)] at hR;have C:=Na A.in1 ⟨hp,g,d,tk,os⟩ a t c u prog w
      wp_walk using C
      exact()
  case fin =>
   rintro⟨T,U⟩ s' ⟨hb',rfl,p,r,j,m,hz,hvi,hwi,hlen,hR⟩;simp only at hb';subst hb';have N:lexLt j m=decide (i.size<f.size):=by
    cases hvi with
    |nil =>
     cases hwi with
     |nil =>
      simp only[ZD] at hlen;rw[lexLt_nil_nil];exact()
     |cons c u O =>
      simp only[ZD,Zu] at hlen;rw[MX];exact()
    |cons a t N =>
     cases hwi with
     |nil =>
      simp only[ZD] at hlen;rw[MY];exact()
     |cons c u O =>
      cases hz
   wp_walk
   grind[Builtin.Tuple.tupleCompareSizes]
  grind
end
section
variable {prog:Program}{w:World}{A:Around}{E:Ya}{s:Shared}
def lt_tupInts {l b:Addr}{c a:Yn}{ns e:Yh}{Q:Ya}(p:IsTup s.heap l c)(q:IsTup s.heap b a)(r:IntsAre c.toList ns)(t:IntsAre a.toList e)
 (u:A.units<cLine) (h:Q (.bool (lexLt ns e)) s):YJ prog w A (compareOp .Lt (.ref l) (.ref b)) Q E s:=by
 obtain⟨⟨cls,dd,data,v⟩,x,y,n,z⟩:=id p;obtain⟨⟨o,f,data2,g⟩,i,j,B,m⟩:=id q;subst y z j m;exact richCompare_meets_room (op:=.Lt) ⟨_,x,rfl⟩ ⟨_,i,rfl⟩ PySem.F.slot_tuple_lt PySem.F.entry_tuple_lt (PySem.F.args_tuple_lt_2 _ _) (Nb l b c a n B dd f v g ns e r t)
  () u
def cat_tup {t b:Addr}{f a:Yf}{Q:Ya}(r:IsTup s.heap t f.toArray)(u:IsTup s.heap b a.toArray)(v:f ≠ [])
 (x:a=[]->Q (.ref t) s) (y:a ≠ []->Q (.ref s.heap.objs.size) { s with heap:=s.heap.push { cls:=.type "tuple",data:=.seq (f++a).toArray } })
 (hsz:f.length+a.length<=sizeLine):YJ prog w A (binaryOp .Add (.ref t) (.ref b)) Q E s:=by
 obtain⟨⟨cls,dd,data,o⟩,i,z,n,B⟩:=id r;obtain⟨⟨p,g,data2,h⟩,c,l,q,m⟩:=id u;subst z B l m;have e:f.toArray++a.toArray=(f++a).toArray:=by simp
 by_cases j:a=[]
 .exact concat_meets ⟨_,i,rfl⟩ ⟨_,c,rfl⟩ noFill_tuple_add seq_tuple_add PySem.F.slot_tuple_add PySem.F.entry_tuple_add (PySem.F.args_tuple_add_2 _ _)
   (tuple_addW1 t b f.toArray a.toArray n q dd g o h () (by simp[j])) ⟨i,c,x j⟩
 .refine concat_meets ⟨_,i,rfl⟩ ⟨_,c,rfl⟩ noFill_tuple_add seq_tuple_add PySem.F.slot_tuple_add PySem.F.entry_tuple_add (PySem.F.args_tuple_add_2 _ _)
   (tuple_addW2 t b f.toArray a.toArray n q dd g o h (by simpa using v) (by simpa using j) ()) ⟨i,c,?_⟩
  rw[e];exact y j
end
end HT
namespace L2
abbrev TO:=St->Hp->(Option Int->Hp->Prop)->Prop
def PO (X:Cx)(e:Option Expr)(t:TO):Prop:=
 ∀(Y:Yb) (s:Shared) (Z: St) (H:Hp) (Q:Option Int->Hp->Prop),Inv X Y Z H s->t Z H Q ->
  YI X (evalPart e X.env) (λu s'=>∃o a,Inv X Y Z a s'/\IsPart u o/\Q o a) X.xe s
def Nc:TO:=λ_ H Q=>Q none H
def vU (t:TE):TO:=λZ H Q=>t Z H λx a=>∃i,x=.int i/\Q (some i) a
def Ek {ns:Yh}:∀{a:Yf},jv (ns.map V.int) a->IntsAre a ns:=by
 induction ns with
 |nil=>intro a r;cases r;exact .nil
 |cons n ns b =>
  intro a r;cases r with
  |cons c f =>
   obtain⟨t,e⟩:=c;subst e;exact .cons n t (b f)
section
variable {X:Cx}{e:Expr}{te:TE}{lo hi:Option Expr}{tl th:TO}{pos p2:Pos}
def Nd:PO X none Nc:=λY s Z H Q I h=>Zb ⟨none,H,I,.none,h⟩
def Nf (h:PE X e te):PO X (some e) (vU te):=by
 intro Y s Z H Q I a;refine jH (h Y s Z H _ I a) λu j ⟨x,b,c,f,g⟩=>?_;obtain⟨i,rfl,q⟩:=g;obtain⟨t,rfl⟩:=f;exact⟨some i,b,c,.int i t,q⟩
def uD (K:W.Frag):R2:=λx y H Q=>∃a b c ys,x=.ref a/\y=.ref b/\yw K H a c/\yw K H b ys/\c ≠ []/\c.length+ys.length<=sizeLine /\
 (ys=[]->Q (.ref a) H)/\(ys ≠ []->∀p,H p=none->Q (.ref p) (upd H p (.tup (c++ys))))
def jv.nil_iff {a:YE}{b:Yf}(r:jv a b):b=[]↔a=[]:=by
 cases r with
 |nil=>simp
 |cons _ _=>simp
def Ng:qY X (binaryOp .Add) (uD X.K):=by
 intro Y s Z H x y v u Q I i j h;obtain⟨a,b,t,ys,rfl,rfl,l,m,n,hz,o,p⟩:=h;cases i;cases j;obtain⟨its,f,r,_⟩:=I.tuple l;obtain⟨g,c,p2,_⟩:=I.tuple m;refine HT.cat_tup r p2 (λz=>n (f.nil_iff.mp z)) (λz=>⟨.ref a,H,I,rfl,o (c.nil_iff.mp z)⟩) (λz=>⟨.ref s.heap.objs.size,_,I.laid (λb A q=>Zq _ q) (Zf _) ?_,rfl,p (λw=>z (c.nil_iff.mpr w)) _ (I.hok.fresh (Zf _))⟩) (by rwa [<- f.length,<- c.length]);exact⟨⟨(),⟨_,Zr _ rfl,rfl⟩⟩,_,f.append c,IsTup.new _ _⟩
end
def xJ (n:Nat)(i:Int):Option Nat:=if 0<=i then(if i<n then some i.toNat else none) else if -(n:Int)<=i then some (i+n).toNat else none
def qh {α: Type}(a:List α)(i:Int):Option α:= (xJ a.length i).bind λj=>a[j]?
def El {n:Nat}{i:Int}{j:Nat}(h:xJ n i=some j):seqIndex? i n=some j/\j<n /\ -(n:Int)<=i/\i<n:=by
 grind[xJ,Zqi,seqIndex_of,seqIndex_neg]
def BK {α: Type}{a:List α}{i:Int}{v:α}(h:qh a i=some v):∃j,seqIndex? i a.length=some j/\a[j]? = some v/\j<a.length /\ -(a.length:Int)<=i/\i<a.length:=by
 unfold qh at h;cases e:xJ a.length i with
 |none=>simp_all
 |some j =>
  rw[e] at h;obtain⟨b,c,f,g⟩:=El e;exact⟨j,b,h,c,f,g⟩
def ZZ (b:Expr):Prop:=∀o i,subscripted b false o i=operate [o,i] (getItem o i)
def yN (X:Cx)(r:R2):Prop:=
 ∀(b a:Expr) (Y:Yb) (s:Shared) (Z: St) (H:Hp) (x y:V) (v u:Value) (Q:VK),Inv X Y Z H s->js x v->js y u->r x y H Q ->
  subscripted a false v u=operate [v,u] (getItem v u)->YI X (subscriptTail b a v u) (EP X Y Z Q) X.xe s
def ri (X:Cx)(id:String)(r:V->YE->Hp->VK->Prop):Prop:=
 ∀(Y:Yb) (s:Shared) (Z: St) (H:Hp) (x:V) (a:YE) (v:Value) (b:Yf) (Q:VK),Inv X Y Z H s->js x v->jv a b->r x a H Q ->
  YI X (call (.builtin id) (v::b)) (EP X Y Z Q) X.xe s
section
variable {X:Cx}{a b:Expr}{ta tb:TE}{pos:Pos}
def yN.or {r f:R2}(h:yN X r)(h':yN X f):yN X (λx y H Q=>r x y H Q\/f x y H Q):=by
 intro c e Y s Z H x y v u Q I g i q hs;rcases q with q|q
 .exact h c e Y s Z H x y v u Q I g i q hs
 .exact h' c e Y s Z H x y v u Q I g i q hs
def BL {r:R2}(c:yN X r)(e:PE X a ta)(f:PE X b tb)(hs:ZZ b):PE X (.Subscript a b pos) (wW r ta tb):=λY s Z H Q I h=>Subscript_ (vw e f I h λv u g x y i j l m q=>c a b Y g Z i x y v u Q j l m q (hs _ _))
def uB (K:W.Frag):R2:=λx y H Q=>∃p c i v,x=.ref p/\y=.int i/\qs K H p c/\qh c i=some v/\Q v H
def u5 (K:W.Frag):R2:=λx y H Q=>∃p c i v,x=.ref p/\y=.int i/\yw K H p c/\qh c i=some v/\Q v H
def uA:R2:=λx y H Q=>∃z i c,x=.str z/\y=.int i/\z.length<=sizeLine/\qh z.cps.toList i=some c/\Q (.str ⟨#[c]⟩) H
def rx:yN X (uB X.K):=by
 intro e f Y s Z H x y v u Q I A B h hs;obtain⟨p,K,i,z,rfl,rfl,C,E,q⟩:=h;cases A;obtain⟨t,rfl⟩:=B;obtain⟨its,r,pl,hz⟩:=I.list C;obtain⟨j,m,F,L,G,J⟩:=BK E;obtain⟨w,n,g⟩:=r.get F;have M:=r.length;have N:=Xb;have c:EP X Y Z Q w s:=⟨z,H,I,g,q⟩;by_cases o:0<=i
 .have l:i.toNat=j:=by
   rw[seqIndex_of o J] at m
   simp_all
  exact item_listR pl.isList o () (by rw[l];simpa using n) c hs
 .have l:(i+(its.toArray.size:Int)).toNat=j:=by
   rw[seqIndex_neg () G] at m
   simp_all
  exact subscriptTail_builtinR pl.isList.typeIs slot_list_getitem.lookup
   (wpAny_getItem_list_neg pl.isList () () () (by rw[l];simpa using n) ⟨rfl,c⟩) hs
def ti:yN X (u5 X.K):=by
 intro c e Y s Z H x y v u Q I l m h hs;obtain⟨p,C,i,z,rfl,rfl,n,o,q⟩:=h;cases l;obtain⟨t,rfl⟩:=m;obtain⟨its,r,pl,hz⟩:=I.tuple n;obtain⟨j,E,A,F,G,J⟩:=BK o;obtain⟨w,B,f⟩:=r.get A;have K:=r.length;have L:=Xb;have g:EP X Y Z Q w s:=⟨z,H,I,f,q⟩;exact subscriptTail_builtinR pl.typeIs slot_tuple_getitem.lookup
  (getItem_tuple (j:=j) pl () () () (by simpa using B) ⟨rfl,g⟩) hs
def Nh:yN X uA:=by
 intro e f Y s Z H x y v u Q I l m h hs;obtain⟨z,i,c,rfl,rfl,hz,n,q⟩:=h;obtain⟨t,rfl⟩:=l;obtain⟨t',rfl⟩:=m;obtain⟨j,g,o,A,p,r⟩:=BK n;have w:z.cps.toList.length=z.length:=by rfl
 rw[w] at g p r;have B:=Xb;exact tail_any (typeIs_str s z t) slot_str_getitem.lookup (getItem_str (by
  grind) (by rw[g];simpa using o) ⟨.str ⟨#[c]⟩,H,I.tok _,⟨_,rfl⟩,q⟩) hs
def cE (K:W.Frag):R2:=λx y H Q=>uB K x y H Q\/u5 K x y H Q\/uA x y H Q
def Ni:yN X (cE X.K):=rx.or (ti.or Nh)
def Nj (its:Yf)(n j)(u):Obj.mapSeq (·.setIfInBounds j u) { cls:=.type "list",data:=.seq its.toArray n }={ cls:=.type "list",data:=.seq (its.set j u).toArray n }:=by
 simp[Obj.mapSeq]
theorem Inv.lst {Y:Yb}{Z: St}{H:Hp}{s:Shared}{p:Addr}{c:YE}(I:Inv X Y Z H s)(h:H p=some (.lst c)):
 ∃(its:Yf) (n:Nat),jv c its/\s.heap.get? p=some { cls:=.type "list",data:=.seq its.toArray n }/\c.length<=sizeLine:=have ⟨z,its,n,r,e⟩:=I.hok p _ h;⟨its,n,r,e,z⟩
def Inv.lstUpd {Y:Yb}{Z: St}{H:Hp}{s:Shared}{p:Addr}{j ys:YE}{its c:Yf}{n g:Nat}{f:Obj->Obj}(I:Inv X Y Z H s)(h:H p=some (.lst j))
 (l:s.heap.get? p=some { cls:=.type "list",data:=.seq its.toArray n }) (i:f { cls:=.type "list",data:=.seq its.toArray n }={ cls:=.type "list",data:=.seq c.toArray g }) (r:jv ys c) (hz:ys.length<=sizeLine) (t):
 Inv X Y Z (upd H p (.lst ys)) { s with heap:=s.heap.update p f,toks:=t }:=by
 have e:(s.heap.update p f).get? p=some { cls:=.type "list",data:=.seq c.toArray g }:=by
  rw[Heap.get?_update_self f l (by rw[i]<;>rfl),i]
 exact I.write (by rw[h];trivial) (.inl rfl) (λb u m q=>(Heap.get?_update_other _ _ (Ne.symm m)).trans q) ⟨_,e⟩ ⟨hz,c,g,r,e⟩
def u4:V->V->V->Hp->(Hp->Prop)->Prop:=λo i v H Q=>∃p c k j,o=.ref p/\i=.int k/\H p=some (.lst c)/\xJ c.length k=some j/\Q (upd H p (.lst (c.set j v)))
def Nk:fH X u4:=by
 intro Y s Z H o i v m w u Q I c e f h;obtain⟨p,x,k,j,rfl,rfl,hp,g,q⟩:=h;cases c;obtain⟨t,rfl⟩:=e;obtain⟨its,n,r,l,hz⟩:=I.lst hp;obtain⟨y,z,A,B⟩:=El g;have C:=r.length;have E:=Xb;have F:=
  I.lstUpd hp l (Nj its n j u) (r.set f j) () s.toks
 grind[seqIndex_of,Zqi,W.ki_setAt,seqIndex_neg,W.ki_setBack]
def Nl:jU X (.builtin "len") (λf H Q=>∃p ys,f=[.ref p]/\(qs X.K H p ys\/yw X.K H p ys)/\Q (.int ys.length) H):=by
 intro Y s Z H f i Q I r h;obtain⟨p,ys,rfl,hq,q⟩:=h;obtain⟨u,rfl,g⟩:=QX r;cases g;have j:=Xb;rcases hq with hq|hq
 .obtain⟨its,e,pl,hz⟩:=I.list hq;have c:=e.length;exact Calls.call_len_list pl.isList () ⟨.int ys.length,H,I.tok _,⟨s.toks+1,()⟩,q⟩
 .obtain⟨its,e,pl,hz⟩:=I.tuple hq;have c:=e.length;exact len_tuple pl () ⟨.int ys.length,H,I.tok _,⟨s.toks+1,()⟩,q⟩
def Nm:jU X (.builtin "len") (λc H Q=>∃z,c=[.str z]/\z.length<=sizeLine/\Q (.int z.length) H):=by
 intro Y s Z H c e Q I r h;obtain⟨z,rfl,hz,q⟩:=h;obtain⟨u,rfl,t,rfl⟩:=QX r;have f:=Xb;exact len_str () ⟨.int z.length,H,I.tok _,⟨_,rfl⟩,q⟩
def jU.or {f:Value}{r e:YE->Hp->VK->Prop}(h:jU X f r)(h':jU X f e):jU X f (λc H Q=>r c H Q\/e c H Q):=by
 intro Y s Z H c g Q I rs q;rcases q with q|q
 .exact h Y s Z H c g Q I rs q
 .exact h' Y s Z H c g Q I rs q
def No:jU X (.type "list") (λw H Q=>∃p ys,w=[.ref p]/\(qs X.K H p ys\/yw X.K H p ys)/\∀l,H l=none->Q (.ref l) (upd H l (.lst ys))):=by
 intro Y s Z H w z Q I r h;obtain⟨p,ys,rfl,hq,q⟩:=h;obtain⟨u,rfl,y⟩:=QX r;cases y;have g:∀its,jv ys its->ys.length<=sizeLine->∀h' c,(∀b x,s.heap.get? b=some x->h'.get? b=some x) ->
  h'.get? s.heap.objs.size=some { cls:=.type "list",dict:=none,data:=.seq its.toArray c,slots:=#[] }->EP X Y Z Q (.ref s.heap.objs.size) { s with heap:=h' }:=λits f hz h' c i e =>
  ⟨.ref s.heap.objs.size,_,I.laid i (Zf _) (show xT X.prog X.w _ h' _ (.lst ys) from ⟨hz,its,c,f,e⟩),rfl,q _ (I.hok.fresh (Zf _))⟩
 rcases hq with hq|hq
 .obtain⟨its,f,pl,hz⟩:=I.list hq;have j:=f.length;obtain⟨o,m,t,n,v⟩:=pl.isList;exact call_list_seq p (.inl rfl) m t v (λh' c i e=>g its f hz h' c i e) (by simp<;>lia)
 .obtain⟨its,f,pl,hz⟩:=I.tuple hq;have j:=f.length;obtain⟨o,m,t,n,v⟩:=pl;exact call_list_seq p (.inr rfl) m t v (λh' c i e=>g its f hz h' c i e) (by simp<;>lia)
def Np:jU X (.type "tuple") (λg H Q=>∃p ys,g=[.ref p]/\((qs X.K H p ys/\∀l,H l=none->Q (.ref l) (upd H l (.tup ys)))\/(yw X.K H p ys/\Q (.ref p) H))):=by
 intro Y s Z H g v Q I r h;obtain⟨p,ys,rfl,h⟩:=h;obtain⟨u,rfl,m⟩:=QX r;cases m;rcases h with ⟨c,q⟩|⟨c,q⟩
 .obtain⟨its,f,pl,hz⟩:=I.list c;have i:=f.length;refine call_tuple_list pl.isList (λh' n=>?_) ();have j:Inv X Y Z H { s with heap:=h' }:=I.kept n;have t:Inv X Y Z (upd H h'.objs.size (.tup ys)) { s with heap:=h'.push { cls:=.type "tuple",data:=.seq its.toArray } } :=
   j.laid (λb o e=>Zq _ e) (Zf _) (⟨⟨hz,⟨_,Zr _ rfl,rfl⟩⟩,its,f,IsTup.new _ _⟩)
  exact⟨.ref h'.objs.size,_,t,rfl,q _ (j.hok.fresh (Zf _))⟩
 .obtain⟨its,f,pl,hz⟩:=I.tuple c;exact call_tuple_same pl ⟨.ref p,H,I,rfl,q⟩
def bY (K:W.Frag)(T:String)(x:V)(H:Hp):Prop:=match x with
 | .str _=>T = "str"
 | .int _=>T = "int"
 | .ref p=>(T = "list" /\ ∃e,qs K H p e)\/(T = "tuple" /\ ∃o,K.lookup p=some o/\o.cls=.type "tuple" /\ o.dict=none) \/
  (T = "dict" /\ ((∃c,H p=some (.dK c))\/∃c,H p=some (.dT c)))\/(T = "set" /\ ∃S n,H p=some (.set S n))
 |_=>False
def Em {Y:Yb}{Z: St}{H:Hp}{s:Shared}{T:String}{x:V}{v:Value}(I:Inv X Y Z H s)(r:js x v)(h:bY X.K T x H):
 s.TypeIs v T/\∀a,v=.ref a->∃q,s.heap.get? a=some q/\q.dict=none:=by
 cases x with
 |str z =>
  obtain⟨t,rfl⟩:=r;cases (h);exact⟨typeIs_str s z t,λ_ e=>nomatch e⟩
 |int i =>
  obtain⟨t,rfl⟩:=r;cases (h);exact⟨typeIs_int s i t,λ_ e=>nomatch e⟩
 |ref p =>
  cases r;rcases h with ⟨rfl,y,u⟩|⟨rfl,o,f,w,j⟩|⟨rfl,f⟩|⟨rfl,S,n,f⟩
  .obtain⟨its,_,pl,_⟩:=I.list u;refine⟨pl.isList.typeIs,λa e=>?_⟩;cases e;obtain⟨o,n,e,c,j,_⟩:=pl;exact⟨o,e,j⟩
  .refine⟨⟨o,I.kIn p o f,w⟩,λa e=>?_⟩;cases e;exact⟨o,I.kIn _ o f,j⟩
  .have z:∃o,s.heap.get? p=some o/\o.ExactDict:=by
    rcases f with ⟨l,f⟩|⟨l,f⟩
    .obtain⟨_,_,_,_,o,_,_,e,g,_⟩:=I.hok p _ f;exact⟨o,e,g⟩
    .obtain⟨_,_,_,_,o,_,_,e,g,_⟩:=I.hok p _ f;exact⟨o,e,g⟩
   obtain⟨o,e,g⟩:=z;refine⟨⟨o,e,g.1⟩,λa m=>?_⟩;cases m;exact⟨o,e,g.2.1⟩
  .obtain⟨o,_,_,_,e,g,_⟩:=I.hok p _ f;refine⟨⟨o,e,g.1⟩,λa m=>?_⟩;cases m;exact⟨o,e,g.2.1⟩
 |_=>exact False.elim h
def ur (K:W.Frag)(T:String)(r:V->YE->Hp->VK->Prop)(e:TE):TE:=λZ H Q=>e Z H λx c=>bY K T x c/\r x [] c Q
def fV (K:W.Frag)(T:String)(r:V->YE->Hp->VK->Prop)(e:TE)(t:TA):TE:=λZ H Q=>e Z H λx c=>bY K T x c/\t Z c λf g=>r x f g Q
variable {o e:Expr}{es:Ym}{to:TE}{t:TA}{name:Str}{apos cpos:Pos}{T id:String}{r:V->YE->Hp->VK->Prop}
def Nq (m:PlainAttrs T)(g:Slot T name id)(i:typeOf (.builtin id)=pure (.type "method_descriptor"))(n:ri X id r)(p:PE X o to)
 (c:attributeBase o name X.env (eval o X.env)=eval o X.env:=by rfl) (f:(apos.endLine == cpos.line)=true:=by rfl):PE X (.Call (.Attribute o name apos) [] [] cpos) (ur X.K T r to):=by
 intro Y s Z H Q I h;refine wpAny_Call_method0_late c f (jH (p Y s Z H _ I h) λv q ⟨x,u,j,l,w,y⟩=>?_);obtain⟨z,A⟩:=Em j l w;exact⟨T,id,m,g,i,z,A,Calls.callWith_builtin rfl (PySem.evalArgs_none (n Y q Z u x [] v [] Q j l .nil y))⟩
def KU (q:PlainAttrs T)(i:Slot T name id)(l:typeOf (.builtin id)=pure (.type "method_descriptor"))(u:ri X id r)(w:PE X o to)(y:PA X (e::es) t)
 (f:attributeBase o name X.env (eval o X.env)=eval o X.env:=by rfl)
 (j:((backTo cpos (starEach (e::es) X.env)).all (λx => !x.1)&&(backToKw cpos (keywordEach [] X.env)).all (λx=>x.1.isSome)
  && decide ((e::es).length+([]:List Keyword).length+(if([]:List Keyword).isEmpty then 0 else 1)<30))=true:=by rfl)
 (g:(apos.endLine == cpos.line)=true:=by rfl) (hs:starEach (e::es) X.env=(false,eval e X.env)::starEach es X.env:=by rfl) (c:(backTo cpos (starEach es X.env)).any (·.1)=false:=by rfl):
 PE X (.Call (.Attribute o name apos) (e::es) [] cpos) (fV X.K T r to t):=by
 intro Y s Z H Q I h;refine wpAny_Call_method_late f j g rfl (jH (w Y s Z H _ I h) λv z ⟨x,A,m,n,B,C⟩=>?_);obtain⟨E,F⟩:=Em m n B;refine⟨T,id,q,i,l,E,F,?_⟩;have p:=y cpos Y z Z A _ m C;rw[hs] at p ⊢;exact Calls.callWith_builtin (by show(false||(backTo cpos (starEach es X.env)).any (·.1))=false;rw[c]<;>rfl) (Calls.evalArgs_plain (jH p λG J ⟨K,L,M,N,O⟩=>u Y J Z L x K v G Q M n N O))
end
def sx (X:Cx)(id:String)(r:V->YE->Hp->VK->Prop):Prop:=
 ∀(Y:Yb) (s:Shared) (Z: St) (H:Hp) (x:V) (a:YE) (v:Value) (b:Yf) (Q:VK),Inv X Y Z H s->js x v->jv a b->r x a H Q ->
  YI X (call (.builtin id) (v::b)) (EP X Y Z Q) X.xe s
def jv.one:∀{x:V} {a:Yf},jv [x] a->∃u,a=[u]/\js x u:=λh=>by
 cases h with
 |cons r t=>cases t;exact⟨_,rfl,r⟩
def zn:∀{a:Yf},jv [] a->a=[]
 |_,.nil=>rfl
section
variable {X:Cx}{Y:Yb}{Z: St}{H:Hp}{s:Shared}{l b:Addr}{xs ys zs:YE}
def Inv.lset {its a:Yf}{n:Nat}{f:Yn->Array Value}{t':Nat}(I:Inv X Y Z H s)(c:H l=some (.lst xs))
 (e:s.heap.get? l=some { cls:=.type "list",data:=.seq its.toArray n }) (g:f its.toArray=a.toArray) (h:jv ys a) (hz:ys.length<=sizeLine):
 Inv X Y Z (upd H l (.lst ys)) { s with heap:=s.heap.update l (Obj.mapSeq f),toks:=t' }:=by
 have q:=PySem.IsL.update e f;rw[g] at q;exact I.write (by rw[c];exact trivial) (.inl rfl) (λm u i j=>(Heap.get?_update_other s.heap (Obj.mapSeq f) (Ne.symm i)).trans j) ⟨_,q⟩ ⟨hz,a,_,h,q⟩
def Inv.lnew {its:Yf}{t':Nat}(I:Inv X Y Z H s)(a:jv ys its)(hz:ys.length<=sizeLine):
 Inv X Y Z (upd H s.heap.objs.size (.lst ys)) { s with heap:=s.heap.push { cls:=.type "list",data:=.seq its.toArray },toks:=t' } :=
 I.laid (λ_ _ q=>Zq _ q) (Zf _) ⟨hz,its,0,a,Zr _ rfl⟩
theorem Inv.fresh (I:Inv X Y Z H s):H s.heap.objs.size=none:=I.hok.fresh (Zf _)
def Inv.lstM (I:Inv X Y Z H s)(a:H l=some (.lst xs)):xs.length<=sizeLine/\∃(its:Yf) (n:Nat),jv xs its/\xs.length=its.length/\s.heap.get? l=some { cls:=.type "list",data:=.seq its.toArray n }:=have ⟨z,its,n,r,e⟩:=I.hok l _ a;⟨z,its,n,r,r.length,e⟩
def Nr {n:Nat}(h:n<=sizeLine):Builtin.List.listTooLong n=false:=by
 simp_all [Builtin.List.listTooLong]
end
section
variable {X:Cx}
def BM:V->YE->Hp->VK->Prop:=λx b H Q=>∃l a y,x=.ref l/\b=[y]/\H l=some (.lst a)/\a.length<sizeLine/\Q .non (upd H l (.lst (a++[y])))
def Wd:sx X "list.append" BM:=by
 intro Y s Z H x g v i Q I b c h;obtain⟨l,j,y,rfl,rfl,a,hz,q⟩:=h;cases b;obtain⟨u,rfl,f⟩:=c.one;obtain⟨z,its,n,r,m,e⟩:=I.lstM a;refine call_meets F.slot_list_append ⟨_,e,rfl⟩ F.entry_list_append (F.args_list_append_2 _ _) (PySem.list_append l its.toArray n u ()) ⟨e,⟨.non,_,I.lset a e () (r.append (.cons f .nil)) ?_,rfl,q⟩⟩
 grind
def En:V->YE->Hp->VK->Prop:=λx e H Q=>∃l b a c,x=.ref l/\e=[.ref b]/\H l=some (.lst a)/\H b=some (.lst c)/\a.length+c.length<=sizeLine/\Q .non (upd H l (.lst (a++c)))
def Nt:sx X "list.extend" En:=by
 intro Y s Z H x y v A Q I g i h;obtain⟨l,b,B,C,rfl,rfl,f,j,hz,q⟩:=h;cases g;obtain⟨u,rfl,m⟩:=i.one;cases m;obtain⟨z,its,n,r,E,e⟩:=I.lstM f;obtain⟨G,a,o,p,t,w⟩:=I.lstM j;have hsz:its.toArray.size+a.toArray.size<=sizeLine:=by simp_all
 have c:¬(!its.toArray.isEmpty&&Builtin.List.listTooLong (its.toArray.size+a.toArray.size))=true:=by
  rw[Nr hsz,Bool.and_false];exact Zj
 refine call_meets F.slot_list_extend ⟨_,e,rfl⟩ F.entry_list_extend (F.args_list_extend_2 _ _)
  (AutoSeq1.list_extend_list_list_0 l its.toArray n b a.toArray o c () ()) ⟨e,w,⟨.non,_,I.lset f e () (r.append p) ?_,rfl,q⟩⟩
 simp_all
end
section
variable {prog:Program}{w:World}{A:Around}{E:Ya}{s:Shared}
set_option maxRecDepth 100000 in
end
section
variable {κ: Type}[DecidableEq κ]
def qu (a:List (κ × V))(k:κ):YF:=(a.find? λb=>decide (b.1=k)).map (·.2)
def qw (a:List (κ × V))(k:κ)(v:V):List (κ × V):=
 if(a.any λb=>decide (b.1=k))=true then a.map (λb=>if b.1=k then(b.1,v) else b) else a++[(k,v)]
def BN {p:κ × V}{r:List (κ × V)}{k:κ}(e:p.1=k):qu (p::r) k=some p.2:=by simp[qu,e]
theorem BO {p:κ × V}{r:List (κ × V)}{k:κ}(e:¬p.1=k):qu (p::r) k=qu r k:=by simp[qu,e]
theorem Eo (k):∀a:List (κ × V),(a.any λb=>decide (b.1=k))=(qu a k).isSome
 | []=>rfl
 |p::r=>by
  rw[List.any_cons];by_cases e:p.1=k
  .simp[BN e,Zp e]
  .rw[BO e,Zo e,Bool.false_or];exact Eo k r
def BP (a:List (κ × V))(k)(v):(qw a k v).length<=a.length+1:=by
 grind[qw,Zql,List.length_append,List.length_cons,List.length_nil]
def xi.isSome_eq {o:YF}{u:Yg}(r:xi o u):o.isSome=u.isSome:=by
 cases o with
 |none=>cases u with
  |none=>rfl
  |some _=>exact(r).elim
 |some _=>cases u with
  |none=>exact(r).elim
  |some _=>rfl
theorem xi.getD {o:YF}{u:Yg}{d:V}{a:Value}(r:xi o u)(b:js d a):js (o.getD d) (u.getD a):=by
 cases o with
 |none=>cases u with
  |none=>exact b
  |some _=>exact(r).elim
 |some _=>cases u with
  |none=>exact(r).elim
  |some _=>exact r
def KV.val {a:List (κ × V)}{c:List (κ × Value)}(r:KV a c)(k):xi (qu a k) (valueAt c k):=by
 induction r with
 |nil=>exact True.intro
 | @cons p q ps f h t g =>
  obtain⟨i,j⟩:=h;by_cases e:p.1=k
  .have b:valueAt (q::f) k=some q.2:=by simp_all [valueAt]
   rwa [BN e,b]
  grind[valueAt,BO]
theorem KV.any {a:List (κ × V)}{c:List (κ × Value)}(r:KV a c)(k):(a.any λb=>decide (b.1=k))=c.any λb=>decide (b.1=k):=by
 induction r with
 |nil=>rfl
 |cons h t e=>simp_all
def KV.repl {b:List (κ × V)}{c:List (κ × Value)}(r:KV b c)(k){y:V}{u:Value}(f:js y u):
 KV (b.map λa=>if a.1=k then(a.1,y) else a) (c.map λa=>if a.1=k then(a.1,u) else a):=by
 induction r with
 |nil=>exact .nil
 | @cons p q ps g h t e =>
  refine .cons ?_ e
  grind
def KV.put {a:List (κ × V)}{b:List (κ × Value)}(r:KV a b)(k){y:V}{u:Value}(c:js y u):KV (qw a k y) (stored b k u):=by
 unfold qw stored;rw[r.any k];by_cases e:(b.any λf=>decide (f.1=k))=true
 .rw[Zd e,Zd e];exact r.repl k c
 .rw[Ze e,Ze e];exact Paired.snoc r ⟨rfl,c⟩
theorem KV.length {a:List (κ × V)}{b:List (κ × Value)}(r:KV a b):a.length=b.length:=Paired.length r
end
def XF {P:Program}{w:World}{k:jA}{u:Value}(r:js (kV k) u):(Q2 P w).is k u=true:=by
 cases k with
 |inl i=>have ⟨t,e⟩:=(r);subst e;exact LQ P w i t
 |inr x=>have ⟨t,e⟩:=(r);subst e;exact LR P w x t
theorem Ep {P:Program}{w:World}:∀{ks:List jA} {a:Yf},jv (ks.map kV) a->ItemsAre (Q2 P w) ks a
 | [],_,r=>by cases r;exact .nil
 |k::ks,_,r=>by
  cases r with
  |cons h t=>exact .cons (XF h) (Ep t)
abbrev KT (H:Hp):List (List jA×V)->List (List jA×Addr×Value)->Prop:=Paired λp q=>p.1=q.1/\H q.2.1=some (.tup (p.1.map kV))/\js p.2 q.2.2
def KT.val {H:Hp}{a:List (List jA×V)}{c:List (List jA×Addr×Value)}(r:KT H a c)(k):xi (qu a k) ((atKey c k).map (·.2)):=by
 induction r with
 |nil=>exact True.intro
 | @cons p q ps f h t g =>
  obtain⟨i,_,j⟩:=h;by_cases e:p.1=k
  .have b:atKey (q::f) k=some q.2:=by simp_all [atKey]
   rwa [BN e,b]
  grind[atKey,BO]
def KT.repl {H:Hp}{a:List (List jA×V)}{c:List (List jA×Addr×Value)}(r:KT H a c)(k){y:V}{u:Value}(f:js y u):
 KT H (a.map λb=>if b.1=k then(b.1,y) else b) (c.map (putAt k u)):=by
 induction r with
 |nil=>exact .nil
 | @cons p q ps g h t e =>
  refine .cons ?_ e
  grind[putAt]
def KT.put {H:Hp}{a:List (List jA×V)}{c:List (List jA×Addr×Value)}(r:KT H a c)(k){b:Addr}{y:V}{u:Value}(g:H b=some (.tup (k.map kV)))(f:js y u):
 KT H (qw a k y) (storedH c k b u):=by
 have e:(a.any λh=>decide (h.1=k))=(atKey c k).isSome:=by
  rw[Eo,(r.val k).isSome_eq,Option.isSome_map]
 unfold qw storedH;rw[e];by_cases q:(atKey c k).isSome=true
 .rw[Zd q,Zd q];exact r.repl k f
 .rw[Ze q,Ze q];exact Paired.snoc r ⟨rfl,g,f⟩
def KT.keeps {H c:Hp}{a:List (List jA×V)}{e:List (List jA×Addr×Value)}(r:KT H a e)(f:∀b ys,H b=some (.tup ys)->c b=some (.tup ys)):KT c a e:=
 xB r ()
section
variable {P:Program}{w:World}{H:Hp}{h:Heap}{a:Addr}
def Er {u:HO}(ok:qL P w H h)(e:Rd H a u):xT P w H h a u:=e.ok ok
def W1 {b:List (jA×V)}(ok:qL P w H h)(e:Rd H a (.dK b)):b.length<=sizeLine/\(a == sysModules)=false/\∃c,KV b c/\h.DictOf (Q2 P w) a c:=
 Er ok e
def BQ {b:List (jA×V)}(ok:qL P w H h)(e:H a=some (.dK b)):b.length<=sizeLine/\(a == sysModules)=false/\∃c,KV b c/\h.DictOf (Q2 P w) a c:=W1 ok (.inl e)
theorem XG {ks:List jA}(ok:qL P w H h)(e:H a=some (.tup (ks.map kV))):(tupleKind (Q2 P w)).is h ks a:=have ⟨_,its,r,o,b,c,n,f⟩:=(ok a _ e);⟨o,its.toArray,n,b,c,f,by simpa using Ep r⟩
def Xd {b:List (List jA×V)}(ok:qL P w H h)(e:Rd H a (.dT b)):b.length<=sizeLine/\(a == sysModules)=false /\
 ∃c,KT H b c/\h.DictOfH (tupleKind (Q2 P w)) a c:=by
 obtain⟨z,y,c,r,o,es,ep,g,i,j,n,s⟩:=(Er ok e);refine⟨z,y,c,r,o,es,ep,g,i,j,n,λx f=>?_,s⟩;have all:∀{l:List (List jA×V)} {m:List (List jA×Addr×Value)},KT H l m->∀x∈m,(tupleKind (Q2 P w)).is h x.1 x.2.1:=by
  intro l m q
  induction q with
  |nil=>intro x f;exact nomatch f
  | @cons p q ps u v t A =>
   grind[XG]
 exact all r x f
def gW {b:List (List jA×V)}(ok:qL P w H h)(e:H a=some (.dT b)):b.length<=sizeLine/\(a == sysModules)=false /\
 ∃c,KT H b c/\h.DictOfH (tupleKind (Q2 P w)) a c:=Xd ok (.inl e)
end
def x6 (H:Hp)(a:Addr)(y:V)(r:YF):Prop:=
 (∃c k,Rd H a (.dK c)/\y=kV k/\r=qu c k)\/∃c k b,Rd H a (.dT c)/\y=.ref b/\H b=some (.tup (k.map kV))/\r=qu c k
def zv (H:Hp)(a:Addr)(y v:V)(e:Hp):Prop:=
 (∃c k,H a=some (.dK c)/\y=kV k/\c.length<sizeLine/\e=upd H a (.dK (qw c k v))) \/
 ∃c k b,H a=some (.dT c)/\y=.ref b/\H b=some (.tup (k.map kV))/\c.length<sizeLine/\e=upd H a (.dT (qw c k v))
theorem x6.k {H:Hp}{a:Addr}{b:List (jA×V)}{k:jA}(e:H a=some (.dK b)):x6 H a (kV k) (qu b k):=.inl ⟨b,k,.inl e,rfl,rfl⟩
theorem zv.k {H:Hp}{a:Addr}{b:List (jA×V)}{k:jA}{v:V}(e:H a=some (.dK b))(c:b.length<sizeLine):zv H a (kV k) v (upd H a (.dK (qw b k v))):=.inl ⟨b,k,e,rfl,c,rfl⟩
section
variable {X:Cx}{Y:Yb}{Z: St}{H:Hp}{s:Shared}{a:Addr}{y v:V}{u r:Value}{o:YF}{A:Around}{E:Ya}
def Inv.big (I:Inv X Y Z H s):sysModules<s.heap.objs.size:=have h:=(I.mod.glob.keeps I.bk).lt;Ug (by decide) h
def Nu {Q:Ya}(w:A.units+1<cLine)(I:Inv X Y Z H s)(g:x6 H a y (some v))(t:js y u)(h:∀i s',Inv X Y Z H s'->js v i->Q i s'):
 wpAny (model X.prog X.w) A (getItem (.ref a) u) Q E s:=by
 rcases g with ⟨j,k,e,m,l⟩|⟨j,k,b,e,m,x,l⟩
 .subst m;obtain⟨z,B,C,c,dd⟩:=W1 I.hok e;obtain⟨i,n,f⟩:=q9 (by rw[l];exact c.val k);exact wpAny_getItem_of (XF t) dd.mapOf n (h i _ (I.tok _) f)
 .subst m;cases (t);obtain⟨z,B,F,c,dd⟩:=Xd I.hok e;obtain⟨i,n,f⟩:=q9 (by rw[l];exact c.val k);obtain⟨p,hp,q⟩:=Jk.mp n;refine wpAny_getItem_heap (tupleKind_room_in1 w) (XG I.hok x) dd hp ?_;rw[q];exact h i _ (I.tok _) f
def Nv {Q:Ya}(n:A.units+1<cLine)(I:Inv X Y Z H s)(g:x6 H a y o)(m:js y u)(h:∀s',Inv X Y Z H s'->Q (.bool (!o.isSome)) s'):
 wpAny (model X.prog X.w) A (compareOp .NotIn u (.ref a)) Q E s:=by
 rcases g with ⟨f,k,e,i,l⟩|⟨f,k,b,e,i,p,l⟩
 .subst i;obtain⟨z,j,t,c,dd⟩:=W1 I.hok e;refine wpAny_notIn_of (XF m) j dd.mapOf ?_;rw[<- (c.val k).isSome_eq,<- l];exact h _ (I.tok _)
 .subst i;cases (m);obtain⟨z,j,w,c,dd⟩:=Xd I.hok e;refine wpAny_notIn_heap (tupleKind_room_in1 n) (XG I.hok p) j dd ?_;have q:=(c.val k).isSome_eq;rw[Option.isSome_map] at q;rw[<- q,<- l];exact h _ (I.tok _)
def Es {h':Heap}{t':Nat}{c:HO}(I:Inv X Y Z H s)(e:fJ (H a))(hs:Heap.SameBut a s.heap h')(f:∃q,h'.get? a=some q)(new:xT X.prog X.w (upd H a c) h' a c):
 Inv X Y Z (upd H a c) { s with heap:=h',toks:=t' } :=
 I.write e (.inl rfl) (λb q g z=>(hs.2 b g).trans z) f new
def Et {P:Program}{w:World}{f:Hp}{h':Heap}{b:List (jA×V)}{c:List (jA×Value)}(z:b.length<=sizeLine)(g:(a == sysModules)=false)(e:KV b c)(dd:h'.DictOf (Q2 P w) a c):
 xT P w f h' a (.dK b):=⟨z,g,c,e,dd⟩
def Nw {x:Hp}{Q:Unit->YC}(G:A.units+1<cLine)(I:Inv X Y Z H s)(g:zv H a y v x)(B:js y u)(C:js v r)(h:∀s',Inv X Y Z x s'->Q Yt s'):
 wpAny (model X.prog X.w) A (setItem (.ref a) u r) Q E s:=by
 rcases g with ⟨f,k,e,n,l,p⟩|⟨f,k,b,e,n,F,l,p⟩
 .subst n p;obtain⟨z,t,J,i,dd⟩:=BQ I.hok e;have hz:J.length<=sizeLine:=by rwa [<- i.length]
  have w:(qw f k v).length<=sizeLine:=by have:=BP f k v;lia
  refine wpAny_setItem_pairs (hsz:=hz) (XF B) dd λh' j hs=>h _ ?_;have K:∃q,h'.get? a=some q:=let ⟨q,_,_,m,_⟩:=j;⟨q,m⟩
  exact Es I (by rw[e];exact True.intro) hs K (Et w t (i.put k C) j)
 .subst n p;cases (B);obtain⟨z,t,L,i,dd⟩:=gW I.hok e;have hz:L.length<=sizeLine:=by rwa [<- Paired.length i]
  have w:(qw f k v).length<=sizeLine:=by have:=BP f k v;lia
  refine wpAny_setItem_heap (hsz:=hz) (tupleKind_room_in1 G) (XG I.hok F) dd λh' j hs=>h _ ?_;obtain⟨q,es,ep,m,M,N,O,_,P⟩:=j;refine Es I (by rw[e];exact True.intro) hs ⟨q,m⟩ ⟨w,t,_,(i.put k F C).keeps λc ys R=>?_,q,es,ep,m,M,N,O,P⟩
  rwa [JH ()]
end
section
variable {X:Cx}{Y:Yb}{Z: St}{H:Hp}{s:Shared}{a:Addr}{kvs:List (jA×V)}{k:jA}{u:Value}{A:Around}{E:Ya}
def fj {Q:Ya}(I:Inv X Y Z H s)(e:Rd H a (.dK kvs))(h:∀t s',Inv X Y Z H s'->Q (.int kvs.length t) s'):wpAny (model X.prog X.w) A (call (.builtin "len") [.ref a]) Q E s:=by
 obtain⟨z,c,f,b,dd⟩:=W1 I.hok e;refine call_len_dict c dd (by rw[<- b.length];rw[sizeLine_eq] at z;lia) ?_;rw[<- b.length];exact h _ _ (I.tok _)
end
def zQ (i:Expr):Prop:=∀a b,subscripted i false a b=operate [a,b] (getItem a b)
def Nx {prog:Program}{w:World}{A:Around}{E:Ya}{s:Shared}{env:Env}{b a:Expr}{c:Pos}{T id:String}{Q:Ya}
 (e:typeLookup (.type T) "__getitem__" = pure (some (.builtin id))) (hs:zQ a)
 (h:YJ prog w A (eval b env) (λo s₁=>YJ prog w A (eval a env) (λi s₂=>s₂.TypeIs o T/\YJ prog w A (getItem o i) Q E s₂) E s₁) E s):
 YJ prog w A (eval (.Subscript b a c) env) Q E s:=by
 refine Subscript_ (Zc h (λo s₁ h₁=>Zc h₁ (λi s₂ h₂=>?_) λ_ _ x=>x) λ_ _ x=>x);obtain⟨f,h₂⟩:=h₂;refine Za (Za (wpAny_specialOf f e ?_));have g:YJ prog w A (subscripted a false o i) (λr s₃=>YJ prog w A (letTemporaryGo b o r >>= λ_=>pure r) Q E s₃) E s₂:=by
  rw[hs o i];exact wpAny_operating (Zc h₂ (λr s₃ h₃=>Za (wpAny_letTemporaryGo (Zb h₃))) λ_ _ x=>x)
 grind[wpAny_pure,wpAny_bind]
def Ny {X:Cx}{Y:Yb}{Z: St}{H:Hp}{s:Shared}{a:Addr}{y:V}{o:YF}(I:Inv X Y Z H s)(g:x6 H a y o):s.TypeIs (.ref a) "dict" := by
 rcases g with ⟨c,k,e,_,_⟩|⟨c,k,b,e,_,_,_⟩
 .obtain⟨_,_,f,_,dd⟩:=W1 I.hok e;exact dd.typeIs
 .obtain⟨_,_,h,_,dd⟩:=Xd I.hok e;exact dd.typeIs
def uq (c e:TE):TE:=λZ H Q=>c Z H λx f=>e Z f λy b=>∃a v,x=.ref a/\x6 b a y (some v)/\Q v b
def Nz (c e:TE):TE:=λZ H Q=>c Z H λy f=>e Z f λx b=>∃a o,x=.ref a/\x6 b a y o/\Q (.bl (!o.isSome)) b
def u3 (c e f:TE):TS:=λD Z H=>f Z H λv g=>c Z g λx h=>e Z h λy i=>∃a b,x=.ref a/\zv i a y v b/\D.nx Z b
section
variable {X:Cx}{o i e value:Expr}{pos pos' tpos:Pos}{td ty tv:TE}
def BR (f:X.A.units+1<cLine)(j:PE X o td)(l:PE X i ty)(hs:zQ i):PE X (.Subscript o i pos) (uq td ty):=by
 intro Y s Z H Q I h;refine Nx PySem.F.slot_dict_getitem.lookup hs (jH (j Y s Z H _ I h) λu m ⟨x,n,p,q,r⟩=>jH (l Y m Z n _ p r) λC E ⟨y,t,c,w,a,v,z,g,A⟩=>?_);subst z;obtain rfl:=q;exact⟨Ny c g,Nu f c g w λF G B b=>⟨v,t,B,b,A⟩⟩
def N0 (b:X.A.units+1<cLine)(c:PE X i ty)(f:PE X o td):PC X .NotIn i o (Nz ty td):=by
 intro Y s Z H Q I h;refine jH (c Y s Z H _ I h) λB j ⟨y,l,m,n,p⟩=>jH (f Y j Z l _ m p) λu C ⟨x,q,r,t,a,v,w,g,z⟩=>?_;subst w;obtain rfl:=t;exact Nv b r g n λE A=>⟨.bl (!v.isSome),q,A,rfl,z⟩
def Eu (b:X.A.units+1<cLine)(c:PE X o td)(f:PE X i ty)(j:PE X value tv)(hs:swapsWith value (some (.Subscript o i pos')) pos.line X.env=pure false):
 PS X (.Assign [.Subscript o i pos'] value pos) (u3 td ty tv):=by
 intro Y s Z H D I h;refine wpAny_Assign_Subscript (jH (j Y s Z H _ I h) λr l ⟨v,m,n,p,q⟩=>jH (c Y l Z m _ n q) λu t ⟨x,w,z,A,B⟩=>jH (f Y t Z w _ z B) λL M ⟨y,N,C,E,a,F,G,g,J⟩=>?_) hs;subst G;obtain rfl:=A;exact Nw b C g E p λO K=>⟨Z,F,K,J⟩
end
def N1 {P:Program}{w:World}{H:Hp}(h:Heap)(a:sysModules<h.objs.size):xT P w H (h.push { cls:=.type "dict",data:=.dict #[] }) h.objs.size (.dK []):=
 ⟨Ua _,(),[],.nil,Heap.DictOf.new h⟩
def N2:TE:=λ_ H Q=>∀p,H p=none->Q (.ref p) (upd H p (.dK []))
section
variable {X:Cx}{pos:Pos}
def N3:PE X (.Dict [] [] pos) N2:=λY s Z H Q I h =>
 wpAny_Dict_empty ⟨.ref s.heap.objs.size,_,I.laid (λ_ _ q=>Zq _ q) (Zf _) (N1 s.heap I.big),rfl,h _ (I.hok.fresh (Zf _))⟩
end
def W2 (a more:List (jA×V)):List (jA×V):=more.foldl (λb c=>qw b c.1 c.2) a
def zT:∀{more:List (jA×V)} {rs:List (jA×Value)} {a:List (jA×V)} {b:List (jA×Value)},KV more rs->KV a b->KV (W2 a more) (merged b rs):=by
 intro more rs a b r
 induction r generalizing a b with
 |nil=>intro q;exact q
 | @cons p q ps g h t c =>
  intro f;have e:KV (qw a p.1 p.2) (stored b q.1 q.2):=by
   have:=f.put p.1 h.2
   rwa [<- h.1]
  exact c e
theorem Ew:∀more a,(W2 a more).length<=a.length+more.length
 | [],a=>by show a.length<=a.length+0;lia
 |p::r,a=>by
  have b:=Ew r (qw a p.1 p.2);have c:=BP a p.1 p.2;show(W2 (qw a p.1 p.2) r).length<=_
  grind
structure M2 (X:Cx)(o:Expr)(m:Str)(apos:Pos)(e f:Expr)(cpos:Pos):Prop where
 base:attributeBase o m X.env (eval o X.env)=eval o X.env
 few:((backTo cpos (starEach [e,f] X.env)).all (λx => !x.1)&&(backToKw cpos (keywordEach [] X.env)).all (λx=>x.1.isSome)
  && decide (([e,f]:Ym).length+([]:List Keyword).length+(if([]:List Keyword).isEmpty then 0 else 1)<30))=true
 line:(apos.endLine == cpos.line)=true
 trees:backTo cpos (starEach [e,f] X.env)=[(false,eval e X.env),(false,eval f X.env)]
def jg (H:Hp)(a:Addr):Prop:=(∃b,Rd H a (.dK b))\/∃b,Rd H a (.dT b)
def N4 {X:Cx}{Y:Yb}{Z: St}{H:Hp}{s:Shared}{a:Addr}(I:Inv X Y Z H s)(d:jg H a):
 s.TypeIs (.ref a) "dict" /\ (∀b,Value.ref a=.ref b->∃c,s.heap.get? b=some c/\c.dict=none)/\(a == sysModules)=false:=by
 rcases d with ⟨f,e⟩|⟨f,e⟩
 .obtain⟨_,g,j,_,dd⟩:=W1 I.hok e;refine⟨dd.typeIs,λb q=>?_,g⟩;cases q;obtain⟨c,_,_,h,i,_⟩:=dd;exact⟨c,h,i.2.1⟩
 .obtain⟨_,g,l,_,dd⟩:=Xd I.hok e;refine⟨dd.typeIs,λb q=>?_,g⟩;cases q;obtain⟨c,_,_,h,i,_⟩:=dd;exact⟨c,h,i.2.1⟩
section
variable {X:Cx}{Y:Yb}{Z: St}{H:Hp}{s:Shared}{a:Addr}{y d:V}{u r:Value}{o:YF}{A:Around}{E:Ya}
def N5 {Q:Ya}(q:A.units+1<cLine)(I:Inv X Y Z H s)(g:x6 H a y o)(m:js y u)(n:js d r)(h:∀p s',Inv X Y Z H s'->js (o.getD d) p->Q p s'):
 wpAny (model X.prog X.w) A (call (.builtin "dict.get") [.ref a,u,r]) Q E s:=by
 rcases g with ⟨f,k,e,i,l⟩|⟨f,k,b,e,i,t,l⟩
 .subst i;obtain⟨z,j,w,c,dd⟩:=W1 I.hok e;refine call_meetsIn PySem.F.slot_dict_get dd.typeIs PySem.F.entry_dict_get (PySem.F.args_dict_get_3 _ _ _) (meets_dict_get_default (Q2 X.prog X.w) a (XF m) j r) ⟨_,dd.mapOf,h _ _ (I.tok _) ?_⟩;rw[l];exact(c.val k).getD n
 .subst i;cases (m);obtain⟨z,j,v,c,dd⟩:=Xd I.hok e;refine call_meetsIn PySem.F.slot_dict_get dd.typeIs PySem.F.entry_dict_get (PySem.F.args_dict_get_3 _ _ _) (meetsH_dict_get_default (tupleKind (Q2 X.prog X.w)) a b j r) ⟨tupleKind_room_in1 q,k,v,XG I.hok t,dd,h _ _ (I.tok _) ?_⟩;rw[l];exact(c.val k).getD n
end
def N6 (e f g:TE):TE:=λZ H Q=>e Z H λx b=>∃a,x=.ref a/\jg b a/\f Z b λy h=>g Z h λz c=>∃o,x6 c a y o/\Q (o.getD z) c
section
variable {X:Cx}{o e f:Expr}{apos cpos:Pos}{td ty tx:TE}
def N7 (i:X.A.units+1<cLine)(j:PE X o td)(l:PE X e ty)(n:PE X f tx)(m:M2 X o "get" apos e f cpos):PE X (.Call (.Attribute o "get" apos) [e,f] [] cpos) (N6 td ty tx):=by
 intro Y s Z H Q I h;refine wpAny_Call_method m.base m.few m.line PySem.F.plainAttrs_dict PySem.F.slot_dict_get PySem.F.type_dict_get (jH (j Y s Z H _ I h) λu p ⟨x,q,c,r,a,t,d,v⟩=>?_);subst t;obtain rfl:=r;obtain⟨w,A,_⟩:=N4 c d;refine⟨w,A,?_⟩;rw[m.trees];exact Calls.callWith_builtin rfl (Calls.evalArgs_plain (Calls.spliced_cons (jH (l Y p Z q _ c v) λO B ⟨y,C,E,F,G⟩ =>
  Calls.spliced_cons (jH (n Y B Z C _ E G) λP R ⟨z,J,K,L,S,g,M⟩=>Calls.spliced_nil (N5 i K g F L λT U N b=>⟨_,J,N,b,M⟩)))))
end
end L2
namespace Att
open PySem PySem.W PySem.Calls PyProof.Rows
theorem N8 {P:Params}{h:Heap}:∀ns c,WellAll P h c (ns.map WData.int)->IntsAre c ns:=by
 intro ns
 induction ns with
 |nil =>
  intro c w;cases w;exact .nil
 |cons n ns e =>
  intro c w;cases w with
  |cons a b =>
   cases a;exact .cons _ _ (e _ b)
def N9 {l:OpenLaw}{n:Nat}(m:l.most=some n){P:Params}{h:Heap}{args:List WData}{b:Yf}
 (c:l.row.toRowW.claim.pre args=true) (e:WellAll P h b args):
 ∃a g ns,b=[Value.ref a]/\args=[WData.list (ns.map WData.int)]/\h.get? a=some { cls:=.type "list",data:=.seq g.toArray }/\IntsAre g ns/\ns.length<=n:=by
 obtain⟨d,r,rfl,o,p⟩:=hasAllW_cons ((pre_splitW c).1);obtain rfl:=hasAllW_nil p;obtain⟨u,rfl,q⟩:=hasW_list o;obtain⟨ns,rfl⟩:=items_int q;have i:ns.length<=n:=by
  have f:(WTm.not (.lt (.lit (.int (n:Int))) (.len (.arg 0)))).holds [] { args:=[.list (ns.map .int)] }=true:=by
   have f:=(holds_andW ((pre_splitW c).2)).1
   rwa [m] at f
  have v:=condW_of f rfl
  simp_all
 cases e with
 |cons s t =>
  cases t;cases s with
  |list w j=>grind[N8]
def NA (l:OpenLaw)(args):l.row.toRowW.claim.post args (.bool true) args=true:=
 postW_of
  rfl
  (w_eq_bool (w_res rfl) w_lit) rfl
def attach_call {l:OpenLaw}{n:Nat}{q:Program}{b:Yk}{A:(Ye)->Heap->Prop}{B:World->Heap->Prop}{d:DefRec}
 (H:l.most=some n) (t:d.params.defaults=[])
 (call:∀w s₀ s₁ mg u h o v p c a g ns,
  Ground q b [] A w s₀ mg u s₁.heap->B w s₁.heap ->
  s₁.heap.get? h=some o->o.data=.func (docDef d.name d.params d.body d.scope v p c)->s₁.heap.CodeRec p d.name->mg d.name=some (.ref h) ->
  s₁.heap.get? a=some { cls:=.type "list",data:=.seq g.toArray }->IntsAre g ns->ns.length<=n->s₁.gens = #[] ->
  codeAny (model l.prog w) callerA (.call (.ref h) ⟨[.ref a],[]⟩) (λr s'=>r=.ok (.ret (.bool true))/\OldK s₁.heap s'.heap/\s'.os=s₁.os/\AllBare s'.gens) s₁):
 WalkO q b A B l.row.toRowW d [] (λf g=>PySem.call f g):=by
 intro w s₀ s₁ mg u G Yy h o v p c S kV I J x C y K args E T i F L z M;obtain rfl:=Dflts.none C t;obtain rfl:=Dflts.noKw C;obtain⟨a,g,ns,rfl,rfl,j,e,m⟩:=N9 H i z;refine enter_call (codeAny_mono (call w s₀ s₁ mg u h o v p c a g ns G Yy I (fd_plain J) x y j e m K) λr s' N=>?_);obtain⟨rfl,O,P,Q⟩:=N;exact⟨.inl ⟨.bool true,.bool true,[],rfl,λ_=>rfl,.bool true,NA l _,λ_=>⟨List.Pairwise.nil,λ_ R=>(nomatch R)⟩⟩,O,P,Q⟩
end Att
namespace L2
def NB:∀{a:Yf} {ns:Yh},IntsAre a ns->jv (ns.map V.int) a:=λh=>by
 induction h with
 |nil=>exact .nil
 |cons n t _ b=>exact .cons ⟨t,rfl⟩ b
def vz (H:Hp):Prop:=∀b,H b=none\/∃o a,H b=some (.frz o (.lst a))
def NC {P:Program}{w:World}{K:W.Frag}{mg G:Ye}{CX:zw}{k:Nat}{I a:Addr}{R:FuncData}{x:Str}{sp:Sp}{s₁:Shared}{p:Yf}{ns:Yh}
 (S:K.In s₁.heap) (t:s₁.heap.Ns mainGlobals mg) (f:s₁.heap.Ns builtinsNs G) (J:∀x:Str,x ≠ "__name__" -> G x=bootBuiltins x) (y:s₁.heap.NoLimit) (Z:s₁.gens = #[])
 (L:s₁.heap.get? a=some { cls:=.type "list",data:=.seq p.toArray }) (T:IntsAre p ns) (hl:ns.length<=sizeLine) (hr:Room k callerA)
 (F:∀g:Heap,K.In g->g.Ns mainGlobals mg->FnOk P w K mg g CX k I R [x] sp) (l:∀s u,BindsTo s R ⟨[u],[]⟩ [(x,u)])
 (M:∀H:Hp,vz H->qs K H a (ns.map V.int)->sp [.ref a] H (λv _=>v=.bl true) λ_ _ _=>False)
 (N:∀H e s',CX [] H s₁ (λ_ _ _=>False) e s'->False):
 codeAny (model P w) callerA (.call (.ref I) ⟨[.ref a],[]⟩) (λr s'=>r=.ok (.ret (.bool true))/\OldK s₁.heap s'.heap/\s'.os=s₁.os/\AllBare s'.gens) s₁:=by
 have U:=NB T;have A:=T.length;have j:∀H:Hp,vz H->qs K H a (ns.map V.int)->qL P w H s₁.heap->(∀b,H b≠none->b=a)->(H a≠none->K.lookup a=none) ->
  codeAny (model P w) callerA (.call (.ref I) ⟨[.ref a],[]⟩) (λr s'=>r=.ok (.ret (.bool true))/\OldK s₁.heap s'.heap/\s'.os=s₁.os/\AllBare s'.gens) s₁:=by
  intro H X hS B hA hK;have c:∀{b:Addr} {o:Obj},s₁.heap.get? b=some o->H b=none->(yq s₁.heap H).get? b=some o:=λe n=>LU e n;have O:∀{b:Addr} {o:Obj} {es:Array DictEntry} {ep:Nat},s₁.heap.get? b=some o->o.data=.dict es ep->H b=none:=by grind
  have i:∀{b:Addr} {m:Ye},s₁.heap.Ns b m->(yq s₁.heap H).Ns b m:=λ{b m} ⟨o,es,ep,e,d,r⟩=>⟨o,es,ep,c e (O e d),d,r⟩;have C:K.In (yq s₁.heap H):=λb o e=>c (S b o e) (by
   grind)
  have hM:Mod K mg (yq s₁.heap H):=⟨C,i t,⟨G,i f,J⟩,let ⟨mc,h1,h2⟩:=y;⟨mc,i h1,h2⟩⟩;have e0:Env0 P w K mg (yq s₁.heap H) callerA [] s₁ H:=⟨rfl,hM,λb o e=>LV e,Yx (LS _ _),trivial,λb f=>Zn (show b∈([]:Yl) from f) (),B,.of_eq Z⟩;refine codeAny_mono ((F _ C (i t)).run callerA [] s₁ H ⟨[.ref a],[]⟩ [.ref a] [.ref a] _ _ hr e0 (l s₁ (.ref a)) (.cons rfl .nil) (M H X hS)) λr s' h=>?_;cases r with
  |error e=>exact(N H e s' h).elim
  |ok fl =>
   cases fl with
   |next=>exact False.elim h
   |brk=>exact False.elim h
   |cont=>exact False.elim h
   |ret u =>
    obtain⟨v,H',os,bare,un,E,r',q⟩:=h;have q':v=.bl true:=q;subst q';obtain rfl:=r';refine⟨rfl,OldK.of_keep λb o e=>?_,os,bare⟩;cases q:H b with
    |none=>exact un.keep b o e q (λz=>Zn (show b∈([]:Yl) from z) ()) ()
    |some u =>
     rcases X b with z|⟨ob,xs,z⟩
     .rw[q] at z;cases z
     .obtain⟨Y,_⟩:=B b _ z;obtain⟨e2,_⟩:=E b _ (un.frzs b ob _ z);rw[e] at Y;cases Y;exact e2
 cases Q:K.lookup a with
 |some o =>
  have e:=S a o Q;rw[L] at e;cases e;refine j (λ_=>none) (λ_=>.inl rfl) (.inr ⟨_,p.toArray,_,Q,rfl,rfl,rfl,by rwa [Zm,A],by simpa using U⟩) (λb u z=>by have z':=z;cases z') () λz=>Zn rfl z
 |none =>
  refine j (λb=>if b=a then some (.frz { cls:=.type "list",data:=.seq p.toArray } (.lst (ns.map V.int))) else none) (λb=>?_) (.inl (.inr ⟨{ cls:=.type "list",data:=.seq p.toArray },Zd rfl⟩)) (λb u z=>?_) (λb z=>?_) λ_=>Q
  .by_cases f:b=a
   .exact by grind
   .exact .inl (Ze f)
  .by_cases f:b=a
   .cases ((Zd f).symm.trans z);subst f;exact⟨L,by rwa [Zql],p,_,U,L⟩
   .cases ((Ze f).symm.trans z)
  .by_cases f:b=a
   .exact f
   .exact Zn (Ze f) z
def walk_of {l:W.OpenLaw}{n k:Nat}{q:Program}{g:Yk}{I:(Ye)->Heap->Prop}{B:World->Heap->Prop}{d:DefRec}{K:Params->W.Frag}{CX:World->zw}{sp:World->Sp}{x:Str}
 (J:l.most=some n) (p:n<=sizeLine) (r:d.params.defaults=[]) (L:Room k callerA)
 (M:∀w h,B w h->(K w.params).In h)
 (F:∀w mg m h,(K w.params).In h->h.Ns mainGlobals mg->mg d.name=some (.ref m) ->
  ∃t:FuncData,(∀s u,BindsTo s t ⟨[u],[]⟩ [(x,u)]) /\
   ∀b:Heap,(K w.params).In b->b.Ns mainGlobals mg->FnOk l.prog w (K w.params) mg b (CX w) k m t [x] (sp w))
 (y:∀w H a (ns:Yh),ns.length<=n->vz H->qs (K w.params) H a (ns.map V.int)->sp w [.ref a] H (λv _=>v=.bl true) λ_ _ _=>False)
 (z:∀w H s e s',CX w [] H s (λ_ _ _=>False) e s'->False):
 W.WalkO q g I B l.row.toRowW d [] (λf C=>PySem.call f C):=by
 refine Att.attach_call J r λw s₀ s₁ mg U m o X Y N a C ns G Yy Z hd O A j i c P=>?_;have E:=M w _ Yy;obtain⟨t,Q,R⟩:=F w mg m _ E G.T.g A;exact NC E G.T.g G.T.b G.T.builtins G.T.nolimit P j i (Zh c p) L R Q (λH S T=>y w H a ns c S T) λH e s'=>z w H s₁ e s'
def Aa (s:Stmt)(j:Nat):Stmt:=match s with
 | .ClassDef _ _ _ body _ _ _ _ _ _ _=>body.getD j (.Pass ⟨0,0,0,0⟩)
 |_=>.Pass ⟨0,0,0,0⟩
def W3 (s:Stmt):Arguments:=match s with
 | .FunctionDef _ a _ _ _ _ _ _ _ _=>a
 |_=>{ posonlyargs:=[],args:=[],vararg:=none,kwonlyargs:=[],kw_defaults:=[],kwarg:=none,defaults:=[] }
def QQ (s:Stmt):List Stmt:=match s with
 | .FunctionDef _ _ b _ _ _ _ _ _ _=>b
 |_=>[]
def JU (s:Stmt):Scope:=match s with
 | .FunctionDef _ _ _ _ _ _ sc _ _ _=>sc
 |_=>{ kind:=.function,names:=[],isGenerator:=false,isCoroutine:=false }
abbrev yj:zw:=λ_ _ _ _ _ _=>False
abbrev E0:XK:=λ_ _ _=>False
def Ex {X:Cx}:Xc yj X E0:=λ_ _ _ _ _ _ _ h=>h.elim
structure Fun (K:W.Frag)(x qual:Str)(st:Stmt)(f:Addr)(fd:FuncData):Prop where
 ex:∃(oc:Value) (od:Option Addr) (kV doc pm:Value) (an:Option Addr) (cdv ct:Value) (osl:Array Yg),
  fd=W.fnOf x qual (W3 st) (QQ st) (JU st) .none kV doc pm an cdv ct/\K.lookup f=some ⟨oc,od,.func fd,osl⟩/\W.codeIn K cdv qual=true
 kp:W.keepIn K (.ref f)=true
section
variable {P:Program}{w:World}{K:W.Frag}{mg:Ye}{base:Heap}
def Fun.ok {x b:Str}{st:Stmt}{f:Addr}{l:FuncData}{N ps:Yk}{k:Nat}{sp:Sp}(F:Fun K x b st f l)(S:FnScope N ps (JU st))(len:∀e H Q E,sp e H Q E->e.length=ps.length)
 (g:∀c A a s H e Q E,Room k (A.deeper (envOfC b (JU st) s.heap.objs.size f c))->sp e H Q E ->
  ∃t,qK (jX yj P w K mg base N b (JU st) f c A a s H E).nox (QQ st) t/\t { nx:=λ_ m=>Q .non m,rt:=Q } (start N e) H):FnOk P w K mg base yj (k+1) f l ps sp:=by
 obtain⟨u,v,kV,n,y,z,c,ct,o,rfl,p,i⟩:=F.ex;refine Ej p i S len λA a s H e Q E r j=>?_;obtain⟨t,h,q⟩:=g c A a s H e Q E r j;exact⟨t,h.nox,q⟩
def Fun.binds {x a:Str}{st:Stmt}{f:Addr}{j:FuncData}{ps:Yk}(F:Fun K x a st f j)
 (h:∀kV b e g c ct i,i.length=ps.length->bindArgs (W.fnOf x a (W3 st) (QQ st) (JU st) .none kV b e g c ct) ⟨i,[]⟩=pure (ps.zip i)):zz K j ps []:=by
 obtain⟨n,o,kV,b,e,g,c,ct,l,rfl,p,m⟩:=F.ex;exact .all (h kV b e g c ct)
def fun_mk {x a:Str}{st:Stmt}{f:Addr}{j:Value}{m h:Option Addr}{g:Array Yg}{kV e i b ct:Value}(l:K.lookup f=some ⟨j,m,.func (W.fnOf x a (W3 st) (QQ st) (JU st) .none kV e i h b ct),g⟩)
 (c:W.codeIn K b a=true) (k:W.keepIn K (.ref f)=true):Fun K x a st f (W.fnOf x a (W3 st) (QQ st) (JU st) .none kV e i h b ct):=⟨⟨j,m,kV,e,i,h,b,ct,g,rfl,l,c⟩,k⟩
end
def JI {A:Around}{k:Nat}(a:Room k A):A.units+1<cLine:=UL () a.units
def Ey {n:Nat}(h:n<=1000):n<sizeLine:=UL h (by decide)
section
variable {X:Cx}
def pv (i){x:Str}{a:Pos}(c:X.N[i]? = some x:=by rfl)(e:bJ X.env.scope x:=by first|exact Or.inl rfl|exact Or.inr (Or.inl rfl)|exact Or.inr (Or.inr rfl))(f:(x == ("__debug__" : Str))=false:=by decide)
 (b:(x == ("__classdict__" : Str))=false:=by decide):PE X (.Name x a) (xM i):=LX c e f b
end
def jk (H a:Hp):Prop:=∀b o,H b=some o->a b=some o
theorem jk.refl (H):jk H H:=λ_ _ h=>h
theorem jk.trans {H e f:Hp}(a:jk H e)(b:jk e f):jk H f:=λc o h=>b c o (a c o h)
def jk.free {H a:Hp}(e:jk H a){l:Addr}(h:a l=Option.none):H l=Option.none:=by
 cases q:H l with
 |none=>rfl
 |some o =>
  rw[e l o q] at h;cases h
def jk.seq {K:W.Frag}{H b:Hp}{a:Addr}{c:YE}(e:jk H b)(h:qs K H a c):qs K b a c:=by
 rcases h with (h|⟨o,h⟩)|h
 .exact .inl (.inl (e _ _ h))
 .exact .inl (.inr ⟨o,e _ _ h⟩)
 .exact .inr h
section
variable {X:Cx}
def ND:jU X (.builtin "len") (λc H Q=>∃a b,c=[V.ref a]/\H a=some (.dK b)/\Q (.int b.length) H):=by
 intro Y s Z H c i Q I r h;obtain⟨a,b,rfl,e,q⟩:=h;obtain⟨u,rfl,f⟩:=QX r;cases f;exact fj I (.inl e) λt s' g=>⟨.int b.length,H,g,⟨t,rfl⟩,q⟩
end
end L2
def J5 {P:Prop}{α: Type}{z:α}(h:none=some z):P:=by cases  h
def JC {P:Prop}(h:false=true):P:=by cases  h
namespace L2
theorem BS (env):∀(names:List (Str×NameKind)) b,(∀y∈names,y.2=.free->∃c,env.cells.lookup y.1=some c) ->
 ∃f,(forIn names b λ(x:Str×NameKind) (r:List (Str×Addr))=>(match x with
  | (name,kind)=>if(kind == NameKind.free)=true then do let a <- cellOf env name;pure (ForInStep.yield ((name,a)::r)) else pure (ForInStep.yield r):Sem (ForInStep (List (Str×Addr)))))=(pure f:Sem (List (Str×Addr))) /\
  (∀x c,f.lookup x=some c->env.cells.lookup x=some c\/b.lookup x=some c)/\(∀x c,b.lookup x=some c->∃g,f.lookup x=some g)/\∀y∈names,y.2=.free->∃c,f.lookup y.1=some c
 | [],b,_=>⟨b,rfl,λ_ _ h=>.inr h,λx c h=>⟨c,h⟩,λ_ h=>nomatch h⟩
 | (n,k)::r,b,h=>by
  rw[List.forIn_cons];cases j:(k == NameKind.free) with
  |true =>
   have i:k=.free:=by simp_all
   obtain⟨c,l⟩:=h (n,k) Zqs i;obtain⟨f,e,m,o,p⟩:=BS env r ((n,c)::b) ();refine⟨f,?_,λx g q=>?_,λx g q=>?_,λy s t=>?_⟩
   .simp only[j,cellOf,l];exact e
   .grind
   .grind
   grind
  |false =>
   have ⟨f,e,m,o,p⟩:=BS env r b ()
   grind
def NE (env)(a)(h:∀y∈a.names,y.2=.free->∃c,env.cells.lookup y.1=some c):
 ∃b,closureFor a env=pure b/\(∀x c,b.lookup x=some c->env.cells.lookup x=some c)/\∀y∈a.names,y.2=.free->∃c,b.lookup y.1=some c:=by
 obtain⟨b,e,f,_,g⟩:=BS env a.names [] h;refine⟨b,?_,λx c i=>(f x c i).elim id (λq=>by simp at q),g⟩
 first
 | (rfl)
 |exact(Zt (· >>= λj=>pure j) e)
theorem Ab {env:Env}{x:Str}:∀{names:List (Str×NameKind)},
 (names.lookup x=some .free->(names.map λ(n,k)=>if(k == NameKind.free&&env.scope.kind == .function&&env.kindOf n == some .cell) then(n,NameKind.cell) else(n,k)).lookup x=some .cell\/(names.map λ(n,k)=>if(k == NameKind.free&&env.scope.kind == .function&&env.kindOf n == some .cell) then(n,NameKind.cell) else(n,k)).lookup x=some .free) /\
 (∀a,(names.map λ(n,k)=>if(k == NameKind.free&&env.scope.kind == .function&&env.kindOf n == some .cell) then(n,NameKind.cell) else(n,k)).lookup x=some a->(a=.cell\/a=.free)->names.lookup x=some .free\/names.lookup x=some .cell)
 | []=>by simp
 | (n,k)::r=>by
  obtain⟨b,c⟩:=@Ab env x r
  grind
theorem XH:∀names n a,cellsFrom n names a=cellsFrom n names []++a
 | [],_,_=>rfl
 | (name,kind)::r,n,a=>by
  unfold cellsFrom
  split
  .rw[XH r (n+1) ((name,n)::a),XH r (n+1) [(name,n)],Uh];rfl
  .exact XH r n a
theorem BT:∀names n a,(x,c)∈cellsFrom n names a->(x,c)∈a\/(x,NameKind.cell)∈names
 | [],_,_,h=>.inl h
 | (name,kind)::r,n,a,h=>by
  unfold cellsFrom at h
  split at h
  .rcases BT r (n+1) ((name,n)::a) h with z|z
   .grind
   simp_all
  .rcases BT r n a h with z|z
   .exact .inl z
   simp_all
def Ez:Option NameKind->Bool
 |some .cell=>true
 |_=>false
def NF (h:Ez o=true):o=some .cell:=by
 cases o with
 |none=>exact JC h
 |some k=>cases k<;>first|rfl|exact JC h
structure CellsAt (scope:Scope)(env:Env)(cl:List (Str×Addr))(C:Addr)(h1:Heap):Prop where
 from_:∀x c,cl.lookup x=some c->(env.cells.lookup x=some c/\scope.names.lookup x≠some .cell)\/(C<c/\h1.IsCell c none)
 free:∀x,scope.names.lookup x=some .free->∃c,cl.lookup x=some c/\env.cells.lookup x=some c
 own:∀x,scope.names.lookup x=some .cell->∃c,cl.lookup x=some c
 inj:∀x y c,cl.lookup x=some c->cl.lookup y=some c->x=y
def NG (f:∀x c,cl.lookup x=some c->env.cells.lookup x=some c)(g:∀y∈a.names,y.2=.free->∃c,cl.lookup y.1=some c)
 (inj:∀x y c,env.cells.lookup x=some c->env.cells.lookup y=some c->x=y) (low:∀x c,env.cells.lookup x=some c->c<=C) (h:h0.objs.size=C+1) (i:∀y∈a.names,y.2=.cell->a.names.lookup y.1=some .cell):
 CellsAt a env (cellsFrom (C+1) a.names cl) C (pushCells h0 a.names):=by
 have ok:=cellsFrom_ok a.names h0 (C+1) [] ⟨(),List.Pairwise.nil⟩ ();rw[h] at ok;have look:∀x c,(cellsFrom (C+1) a.names cl).lookup x=some c->((x,c)∈cellsFrom (C+1) a.names [])\/(cl.lookup x=some c/\a.names.lookup x≠some .cell):=λx c e=>by
  rw[XH,List.lookup_append] at e;cases q:(cellsFrom (C+1) a.names []).lookup x with
  |some d =>
   grind[Zqi,PySem.mem_of_lookup]
  |none =>
   rw[q] at e;refine .inr ⟨e,λz=>?_⟩;have:=W.cellsFrom_some a.names (C+1) [] (.inl z);rw[q] at this;exact JC this
 refine⟨λx c e=>?_,λx e=>?_,λx e=>?_,λx y c j l=>?_⟩
 .rcases look x c e with z|⟨z1,z2⟩
  .exact .inr ⟨(ok.empty x c z).2,(ok.empty x c z).1⟩
  simp_all
 .obtain⟨c,b⟩:=g (x,.free) (PySem.mem_of_lookup e) rfl;refine⟨c,?_,f x c b⟩;rw[XH,List.lookup_append];cases q:(cellsFrom (C+1) a.names []).lookup x with
  |some d =>
   rcases BT _ _ _ (PySem.mem_of_lookup q) with z|z
   .cases z
   .have:=i (x,.cell) z rfl;rw[e] at this;cases this
  |none=>exact b
 .exact Js.mp (W.cellsFrom_some a.names (C+1) cl (.inl e))
 .rcases look x c j with z|⟨z1,_⟩<;>rcases look y c l with w|⟨w1,_⟩
  .exact PySem.name_of_addr ok.apart z w
  .exact Zn (low y c (f y c w1)) (Nat.not_le_of_lt (ok.empty x c z).2)
  .exact Zn (low x c (f x c z1)) (Nat.not_le_of_lt (ok.empty y c w).2)
  .exact by grind
def NH
 (a:Q (newEnv scope s.heap.objs.size globals (cellsFrom (s.heap.objs.size+1) scope.names cl) qual none .none (some env) builtinsNs) { s with heap:=pushCells (s.heap.push { cls:=.type "dict",data:=.dict #[] }) scope.names }):
 wpAny M A (newFunctionEnv scope globals cl [] qual none .none (some env)) Q E s:=by
 refine Za (wpAny_alloc (Za (wpAny_layCells _ () _ _ _ _ ?_)));rw[Heap.size_push ..];exact Za (Zb (Zb a))
def XI (X:Cx)(C:Addr):Ya:=λx s'=>∃m,s'.heap.Ns C m/\∀h',Heap.SameBut C s'.heap h'->∀a:Env,a.locals=C->YI X (passOn "comprehension.variables-let-go" x a:Sem Value) (λ_ _=>False) X.xe { s' with heap:=h' }
def JJ (X:Cx)(a:Scope)(N:Yk)(b:List (Str×Addr))(C:Addr)(s:Shared)(H:Hp)(ex:Yl):Cx where
 prog:=X.prog
 w:=X.w
 K:=X.K
 mg:=X.mg
 base:=X.base
 A:=X.A
 N:=N
 s₀:=s
 H₀:=H
 env:=compEnvC a b C X.env
 outer:=X.stack
 stack:=X.stack
 ex:=ex
 fn:=λx=>Ez (a.names.lookup x)
 calm:=X.calm
 pn:=[]
 xe:=notedBy (model X.prog X.w) X.A (compEnvC a b C X.env) (XI X C)
def W4 (X:Cx)(C:Addr)(s:Shared)(H:Hp)(a:Yl):Prop:=∃Y Z,Inv X Y Z H s/\(∀b∈a,xa X Y H b)/\s.heap.objs.size<=C
def KH (cap:List (Option Nat))(Z: St):St:=cap.map λo=>o.bind λj=>(Z[j]?).join
structure CompOk (X:Cx)(scope:Scope)(N:Yk)(cap:List (Option Nat)):Prop where
 kind:scope.kind=.function
 loc:∀y∈scope.names,y.2=.local->scope.names.lookup y.1=some .local
 cell:∀y∈scope.names,y.2=.cell->scope.names.lookup y.1=some .cell
 free:∀y∈scope.names,y.2=.free->X.env.kindOf y.1=some .cell\/X.env.kindOf y.1=some .free
 len:cap.length=N.length
 cap:∀(i j:Nat) (x:Str),cap[i]? = some (some j)->N[i]? = some x->X.N[j]? = some x/\scope.names.lookup x=some .free
def QJ (a:Scope)(env:Env)(b N:Yk)(cap:List (Option Nat)):Bool:=
 decide (a.kind=.function)&&a.names.all (λy => !decide (y.2=.local)||decide (a.names.lookup y.1=some .local))&&a.names.all (λy => !decide (y.2=.cell)||decide (a.names.lookup y.1=some .cell)) &&
 a.names.all (λy => !decide (y.2=.free)||(decide (env.kindOf y.1=some .cell)||decide (env.kindOf y.1=some .free)))&&decide (cap.length=b.length) &&
 (b.zip cap).all (λp=>match p.2 with|none=>true|some j=>decide (N[j]? = some p.1)&&decide (a.names.lookup p.1=some .free))
def CompOk.of {X:Cx}{a:Scope}{N:Yk}{cap:List (Option Nat)}(h:QJ a X.env N X.N cap=true):CompOk X a N cap:=by
 unfold QJ at h;simp only[Ue,decide_eq_true_eq,U8] at h;obtain⟨⟨⟨⟨⟨c,m⟩,n⟩,o⟩,e⟩,p⟩:=h;refine⟨c,λy b f=>?_,λy b f=>?_,λy b q=>?_,e,λi j x g l=>?_⟩
 .grind
 .grind
 .grind
 .have r:(x,some j)∈N.zip cap:=by
   refine Uf (i:=i) ?_;rw[VS];exact⟨l,g⟩
  grind
section
variable {X:Cx}{scope:Scope}{N:Yk}{cap:List (Option Nat)}{Y:Yb}{Z: St}{H:Hp}{s:Shared}{cl:List (Str×Addr)}{C D:Addr}{fp:Yl}
def NI (ok:CompOk X scope N cap)(I:Inv X Y Z H s)(B:∀b∈fp,xa X Y H b)(y:∀b∈fp,b<s.heap.objs.size)
 (a:CellsAt scope X.env cl C h1)
 (t:s.heap.objs.size<=C) (g:∀b o,s.heap.get? b=some o->h1.get? b=some o) (E:h1.Ns C m):
 Inv (JJ X scope N cl C s H fp) [] (KH cap Z) H { s with heap:=h1,toks:=tk }:=by
 have K:∀x,(JJ X scope N cl C s H fp).env.kindOf x=some .cell\/(JJ X scope N cl C s H fp).env.kindOf x=some .free->scope.names.lookup x=some .free\/scope.names.lookup x=some .cell:=λx h=>by
  rcases h with h|h
  .exact(Ab (env:=X.env) (x:=x) (names:=scope.names)).2 _ h (.inl rfl)
  .exact(Ab (env:=X.env) (x:=x) (names:=scope.names)).2 _ h (.inr rfl)
 refine⟨⟨I.ok.mod,ok.kind,I.ok.glob,I.ok.blt,t,a.inj,λx h=>?_,λx c z e=>?_,I.ok.hd,I.ok.frames,.inl rfl,λb n=>⟨?_,λx c e=>?_⟩,I.bs,Zh I.ok.bsz I.sz,
  λb o e n=>?_,λb n z=>?_,I.stack,I.stkFree⟩,rfl,I.bare,Un.kept g,⟨m,E,λi x v F f S=>?_⟩,λx c e=>?_,I.hok.fresh t,λx c e=>?_,λp hp=>Zn hp (by show ¬p∈([]:Yb)++[];simp),I.hok.kept g,?_⟩
 .rcases K x h with q|q
  .obtain⟨c,e,_⟩:=a.free x q;exact⟨c,e⟩
  .exact a.own x q
 .rcases a.from_ x c e with ⟨_,q⟩|⟨q,_⟩
  .exact Zn (NF z) q
  .exact Zh t (Zz q)
 .exact Zi (Zg (y b n) t)
 .rcases a.from_ x c e with ⟨q,_⟩|⟨q,_⟩
  .exact(B b n).2.2.2.2.1 x c q
  .exact U7 (Ug (Zg (y b n) t) q)
 .rcases(B b n).2.2.2.1 with z|z
  .exact I.ok.noex b o e z
  .exact Zn (Zg (Zk e) (Zh I.ok.bsz z)) (Zy _)
 .rcases Uq.mp (I.stkSub b z) with q|q
  .exact(B b n).2.1 q
  .exact(B b n).2.2.1 q
 .have F:N[i]? = some x:=F;have L:∃j,cap[i]? = some (some j) /\ Z[j]? = some (some v):=by
   have f:(cap.map λo=>o.bind λj=>(Z[j]?).join)[i]? = some (some v):=f;rw[Zv] at f;cases q:cap[i]? with
   |none=>rw[q] at f;exact J5 f
   |some o =>
    rw[q] at f;cases o with
    |none=>cases f
    |some j =>
     have f:some ((Z[j]?).join)=some (some v):=f;cases G:Z[j]? with
     |none=>rw[G] at f;cases f
     |some w=>rw[G] at f;exact⟨j,rfl,by cases f;exact G⟩
  obtain⟨j,c1,c2⟩:=L;obtain⟨M,J⟩:=ok.cap i j x c1 F;obtain⟨T,_,O⟩:=I.loc;have P:=ok.free (x,.free) (PySem.mem_of_lookup J) rfl;obtain⟨u,r,l⟩:=O j x v M c2 (P.elim (λz=>.inr (.inl z)) λz=>.inr (.inr z));refine⟨u,r,.inr ⟨(Ab (x:=x)).1 J,?_⟩⟩;rcases l with ⟨k,_⟩|⟨_,c,Q,z⟩
  .simp_all
  .obtain⟨U,R,A⟩:=a.free x J;rw[Q] at A;obtain rfl:=Zqi A;exact⟨c,R,z.keeps g⟩
 .rcases a.from_ x c e with ⟨q,_⟩|⟨_,q⟩
  .obtain⟨v,z⟩:=I.cell x c q;exact⟨v,z.keeps g⟩
  .exact⟨none,q⟩
 .rcases a.from_ x c e with ⟨q,_⟩|⟨q,_⟩
  .exact I.freeC x c q
  .exact I.hok.fresh (Zh t (Zz q))
 .show(cap.map _).length=N.length;rw[Zql];exact ok.len
def NJ (I:Inv X Y Z H s)(g:∀b∈fp,xa X Y H b)(l:s.heap.objs.size<=C)(m:s.heap.objs.size<=D)(h:D≠C)
 (J:Inv (JJ X scope N cl C s H fp) [] Z' H' s') (p:s'.heap.get? D=some { cls:=.type "list",data:=.seq its.toArray k }) (y:H' D=none) (r:jv ys its) (hz:ys.length<=sizeLine) (hs:Heap.SameBut C s'.heap h')
 (q:Q (.ref D) (upd H' D (.lst ys))):EP X Y Z Q (.ref D) { s' with heap:=h' }:=by
 have i:∀b o,s.heap.get? b=some o->b≠C:=λb o e=>Zi (Zg (Zk e) l);have t:∀b o,s.heap.get? b=some o->b≠D:=λb o e=>Zi (Zg (Zk e) m);have tD:∀b u,H' b=some u->b≠D:=by grind
 have tC:∀b u,H' b=some u->b≠C:=λb u e z=>by
  have:=J.free;rw[z,show H' C=none from this] at e;exact J5 e
 have B:=J.base;refine⟨.ref D,upd H' D (.lst ys),I.call' J.os ?_ ?_ J.bare (λb a=>⟨(g b a).2.2.2.1,(g b a).2.1,(g b a).2.2.2.2.1,(g b a).2.2.2.2.2⟩),rfl,q⟩
 .refine⟨λb o e n a f=>(hs.2 b (i b o e)).trans (B.keep b o e n a f),λb o e n a f=>?_,λb o e n f=>?_,λb o e f=>?_,λb j e=>?_,λb o u e=>?_,λb ps e=>?_⟩
  .obtain⟨w,z⟩:=B.slot b o e n a f;exact⟨w,(hs.2 b (i b o e)).trans z⟩
  .rw[JH (t b o e)];exact B.free b o e n f
  .obtain⟨x,z⟩:=B.there b o e f;exact⟨x,(hs.2 b (i b o e)).trans z⟩
  .have z:=B.tups b j e
   rwa [JH (tD b _ z)]
  .have z:=B.frzs b o u e
   rwa [JH (tD b _ z)]
  .obtain⟨more,z⟩:=B.tbls b ps e;exact⟨more,by rwa [JH (tD b _ z)]⟩
 .intro b u e;by_cases a:b=D
  .subst a;rw[JL] at e;obtain rfl:=Zqi e;exact⟨hz,its,k,r,(hs.2 b h).trans p⟩
  .rw[JH a] at e;refine(J.hok b u e).stay (λc v A z=>(hs.2 c ?_).trans z) (λc z=>by rwa [JH (tD c _ z)]) (λc j z=>by rwa [JH (tD c _ z)])
   grind
end
def fz (cap:List (Option Nat))(g:TG)(h:TE)(Z: St)(Q:VK):It->Hp->Prop:=λJ j=>∃W:Nat->Nat->YE->St->Hp->Prop,(∃m,W 0 m [] (KH cap Z) j)/\∀i m ys b a,W i m ys b a->ys.length<sizeLine /\
 (
  (J.stop i a/\∀D,a D=none->Q (.ref D) (upd a D (.lst ys))) \/
  (J.go i a/\∀x c,J.yld i a x c->g x b c λe l=>h e l λy n=>∃f,f<m/\W (i+1) f (ys++[y]) e n))
def Xe (cap:List (Option Nat))(wi:TI)(g:TG)(a:TE):TE:=λZ H Q=>wi Z H (fz cap g a Z Q)
def NK (cap:List (Option Nat))(g:TG)(l:TT)(n:TE)(Z: St)(Q:VK):It->Hp->Prop:=λJ o=>∃W:Nat->Nat->YE->St->Hp->Prop,(∃m,W 0 m [] (KH cap Z) o)/\∀i m ys f a,W i m ys f a->ys.length<sizeLine /\
 (
  (J.stop i a/\∀D,a D=none->Q (.ref D) (upd a D (.lst ys))) \/
  (J.go i a/\∀x h,J.yld i a x h->g x f h λe p=>l e p λb j=>if b=true then n e j (λy q=>∃c,c<m/\W (i+1) c (ys++[y]) e q) else ∃c,c<m/\W (i+1) c ys e j))
def XJ (cap:List (Option Nat))(wi:TI)(g:TG)(a:TT)(b:TE):TE:=λZ H Q=>wi Z H (NK cap g a b Z Q)
section
variable {X:Cx}{tg iter elt c:Expr}{scope:Scope}{pos:Pos}{wi:TI}{g:TG}{te:TE}{tt:TT}
def XL (X:Cx)(Y:Yb)(Z: St)(Q:VK)(use:Option (Value->Sem Unit))(R:Ya):Prop:=
 ∀(C D:Addr) (m:Ye) (a:Shared) (r:Flow),a.heap.Ns C m->¬C=X.env.locals->C∉X.fs->X.s₀.heap.objs.size<=C->(∀x c,X.env.cells.lookup x=some c->c≠C)->(∀p∈X.pn++Y,p.1≠C) ->
  (∀h',Heap.SameBut C a.heap h'->EP X Y Z (λv b=>b C=none/\Q v b) (.ref D) { a with heap:=h' })->compPost (model X.prog X.w) X.A X.xe use R (.ref D) C (.ok r) a
def E1:XL X Y Z Q none (EP X Y Z Q):=λC D m i r b _ _ _ _ _ k=>⟨m,b,λh' a=>by
 obtain⟨v,e,f,h,_,q⟩:=k h' a;exact⟨v,e,f,h,q⟩⟩
def fE (X:Cx)(tg elt:Expr)(it a:Value)(env:Env)(R:Result->YC)(I:Nat->YC)(test:(Bool->YC)->YC)(n:Nat)(s:Shared):Prop:=
 let E:Ya:=notedBy (model X.prog X.w) X.A env λe s'=>R (.error e) s'
 YI X (pyNext it) (λr b=>match r with
  |none=>R (.ok .next) b
  |some v=>YI X (letOwnedTupleGo tg it v) (λ_ h=>YI X (assign tg env v) (λ_ i=>test (λok f=>if ok=true then YI X (eval elt env) (λx j=>YI X (call (.builtin "list.append") [a,x]) (λ_ l=>∃m,m<n/\I m l) E j) E f else ∃m,m<n/\I m f) i) E h) E b) E s
def E2 {ifs:Ym}(N){test:Env->(Result->YC)->(Bool->YC)->YC}
 (lp:∀{it acc:Value} {env:Env} {R:Result->YC} {s:Shared} I,(∀n s,I n s->fE X tg elt it acc env R I (test env R) n s)->∀n,I n s->codeAny (model X.prog X.w) X.A (.compLoop (.ListComp elt [⟨tg,iter,ifs,0⟩] scope pos) 0 it acc env) R s)
 (ht:∀t C s H S {Y:Yb} {s7:Shared} {U:St} {H7:Hp} {R:Result->YC} {q:Bool->Hp->Prop} {Q:Bool->YC},W4 X C s H S->(∀e s',XI X C e s'->R (.error e) s')->Inv (JJ X scope N t C s H S) Y U H7 s7->tt U H7 q->(∀b s8 H8,Inv (JJ X scope N t C s H S) Y U H8 s8->q b H8->Q b s8)->test (compEnvC scope t C X.env) R Q s7)
 (cap) (hc:X.calm=true) (okB:QJ scope X.env N X.N cap=true) (hi:PI X tg iter wi) (hg:∀t C s H S,PG (JJ X scope N t C s H S) tg g) (he:∀t C s H S,W4 X C s H S->PE (JJ X scope N t C s H S) elt te)
 (hs:∀x,foldedSetIterable iter X.env x=pure x) {use:Option (Value->Sem Unit)} {R:Ya} {fpos:Pos} {Y:Yb} {s:Shared} {Z: St} {H:Hp} {Q:VK} (I:Inv X Y Z H s) (h:XJ cap wi g tt te Z H Q) (fin:XL X Y Z Q use R):
 YI X (comprehension (.ListComp elt [⟨tg,iter,ifs,0⟩] scope pos) scope X.env fpos (newList []) false (eval iter X.env) use) R X.xe s:=by
 have ok:=CompOk.of okB;obtain⟨cl0,hcl,hcl1,hcl2⟩:=NE X.env scope λy hy hf=>I.ok.has y.1 (ok.free y hy hf);refine wpAny_comprehension_free (use:=use) rfl hs hcl ok.kind ok.loc (jH (hi Y s Z H _ I h) λxv s1 h1=>jH h1 λitv a h2=>?_);obtain⟨it,l,tn,J,B,e,A,T,st2,f2,W,⟨m0,w0⟩,turn⟩:=h2;subst e;have G:∀b∈l,b<a.heap.objs.size:=λb w=>let ⟨_,e,_⟩:=T.obj _ _ st2 b w;Zk e
 refine wpAny_newObj_type (NH ?_);dsimp only;generalize hP:a.heap.push { cls:=.type "list",dict:=none,data:=.seq ([]:Yf).toArray }=P2;have hC:P2.objs.size=a.heap.objs.size+1:=by rw[<- hP,Heap.size_push]
 have K:a.heap.objs.size≠P2.objs.size:=by rw[hC];exact by lia
 have j:a.heap.objs.size<=P2.objs.size:=by rw[hC];exact Nat.le_succ _
 have below:∀b,b<a.heap.objs.size->b≠P2.objs.size/\b≠a.heap.objs.size:=()
 have L:CellsAt scope X.env (cellsFrom (P2.objs.size+1) scope.names cl0) P2.objs.size (pushCells (P2.push { cls:=.type "dict",data:=.dict #[] }) scope.names):=
  NG hcl1 hcl2 A.ok.inj (λx c e=>Zh (Zz (let ⟨_,_,ho,_⟩:=A.cell x c e;Zk ho)) j) (Heap.size_push ..) ok.cell
 have hns1:(pushCells (P2.push { cls:=.type "dict",data:=.dict #[] }) scope.names).Ns P2.objs.size (λ_=>none):=(Heap.Ns.new P2 (.type "dict")).keeps (pushCells_keeps _ _);generalize cellsFrom (P2.objs.size+1) scope.names cl0=t at L ⊢;have M:∀b o,a.heap.get? b=some o->(pushCells (P2.push { cls:=.type "dict",data:=.dict #[] }) scope.names).get? b=some o:=λb o e=>pushCells_keeps _ _ b o (Zq _ (hP ▸ Zq _ e));have hacc:(pushCells (P2.push { cls:=.type "dict",data:=.dict #[] }) scope.names).get? a.heap.objs.size=some { cls:=.type "list",data:=.seq ([]:Yf).toArray 0 }:=pushCells_keeps _ _ _ _ (Zq _ (hP ▸ Zr _ rfl));generalize pushCells (P2.push { cls:=.type "dict",data:=.dict #[] }) scope.names=g1 at L hns1 M hacc ⊢;have E:∀{H':Hp} {pl:Yb},(∀b∈l,H' b=none)->(∀p∈pl,p.1∉l)->∀b∈l,xa (JJ X scope N t P2.objs.size a B l) pl H' b:=λ{H' pl} hn hp b w=>by
  refine⟨hn b w,(below b (G b w)).1,λz=>?_,.inl w,λx c e=>?_,λp hq z=>?_⟩
  .rcases Uq.mp (A.stkSub b z) with q|q
   .exact(f2 b w).2.1 q
   .exact(f2 b w).2.2.1 q
  .rcases L.from_ x c e with ⟨q,_⟩|⟨q,_⟩
   .exact(f2 b w).2.2.2.2.1 x c q
   .exact U7 (Ug (Zg (G b w) j) q)
  .have hq:p∈([]:Yb)++pl:=hq
   grind[List.nil_append]
 have nD:a.heap.objs.size∉l:=λz=>Zn (G _ z) (Zy _);have loop:∀s3:Shared,s3={ a with heap:=g1 } ->
  codeAny (model X.prog X.w) X.A (.compLoop (.ListComp elt [⟨tg,iter,ifs,0⟩] scope pos) 0 (.ref it) (.ref a.heap.objs.size) (compEnvC scope t P2.objs.size X.env))
   (compPost (model X.prog X.w) X.A X.xe use R (.ref a.heap.objs.size) P2.objs.size) s3:=by
  rintro s3 rfl;have I0:=NI (tk:=a.toks) ok A f2 G L j M hns1;refine lp (λn s'=>∃i ys its k Z' H',Inv (JJ X scope N t P2.objs.size a B l) [] Z' H' s'/\tn i s'.heap/\(∀b∈l,H' b=none)/\s'.heap.get? a.heap.objs.size=some { cls:=.type "list",data:=.seq (List.toArray its) k } /\
   H' a.heap.objs.size=none/\jv ys its/\W i n ys Z' H') ?_ m0
   ⟨0,[],[],0,KH cap Z,B,I0,T.keep _ _ _ st2 (λb _ o e=>M b o e),λb w=>(f2 b w).1,hacc,A.hok.fresh (Zf _),.nil,w0⟩
  have cat:W4 X P2.objs.size a B l:=⟨_,_,A,f2,j⟩;have ce:∀e s',XI X P2.objs.size e s'->compPost (model X.prog X.w) X.A X.xe use R (.ref a.heap.objs.size) P2.objs.size (.error e) s':=λe s' h=>by cases use<;>exact h
  have xe:∀e s',(JJ X scope N t P2.objs.size a B l).xe e s'->notedBy (model X.prog X.w) X.A (compEnvC scope t P2.objs.size X.env) (λe s'=>compPost (model X.prog X.w) X.A X.xe use R (.ref a.heap.objs.size) P2.objs.size (.error e) s') e s':=λe s' h=>Zc h (λ_ a q=>ce e a q) λe a q=>ce e a q;rintro n s4 ⟨i,ys,its,k,Z4,H4,I4,st4,fr4,hd4,hn4,O,w4⟩;obtain⟨hz,tn4⟩:=turn i n ys Z4 H4 w4;have J4:Inv (JJ X scope N t P2.objs.size a B l) [(a.heap.objs.size,{ cls:=.type "list",data:=.seq its.toArray k })] Z4 H4 s4:=I4.pins_of λp hp=>by
   have e:=Jd.mp hp;subst e;refine⟨hd4,hn4,K,?_,λv z=>by cases z⟩;exact λz=>Zn (Zg (by
    rcases Uq.mp (A.stkSub _ z) with q|q
    .exact UL (Yx q) A.lt
    .obtain⟨_,o,ho,_⟩:=A.ok.funs.mem q;exact Zg (Zk ho) A.sz) (Zf a.heap.objs.size)) (Zy _)
  have np:∀p ∈ [(a.heap.objs.size,({ cls:=.type "list",data:=.seq its.toArray k }:Obj))],p.1∉l:=λp hp=>by
   have e:=Jd.mp hp;subst e;exact nD
  rcases tn4 with ⟨stop,qn⟩|⟨go,step⟩
  .refine Zc (T.done (JJ X scope N t P2.objs.size a B l) rfl rfl rfl hc i _ s4 Z4 H4 (λ_ _=>False) J4 (E fr4 np) st4 stop) (λr s5 h5=>?_) λ_ _ f=>f.elim;obtain⟨rfl,I5⟩:=h5;obtain⟨m,hm,_⟩:=id I5.loc;have p5:=I5.pin (a.heap.objs.size,_) (Ur _ Zqs);refine fin _ _ m _ _ hm (U7 (Zg A.lt j)) (A.nofs j) (Zh A.sz j) (λx c e z=>?_) (λp hp z=>?_) λh' hs'=>NJ A f2 j (Zf _) K (I5.pins_of λp hp=>nomatch hp) p5.1 p5.2.1 O (Zz hz) hs' ⟨by rw[JH (Ne.symm K)];exact I5.free,qn _ p5.2.1⟩
   .obtain⟨v,o,ho,hd⟩:=A.cell x c e;have:=Zk ho;rw[z] at this;exact Zn (Zg this j) (Zy _)
   .have:=Zk (A.pin p hp).1;rw[z] at this;exact Zn (Zg this j) (Zy _)
  .refine Zc (T.item (JJ X scope N t P2.objs.size a B l) rfl rfl rfl hc i _ s4 Z4 H4 (λ_ _=>False) J4 (E fr4 np) st4 go) (λr s5 h5=>?_) λ_ _ f=>f.elim;obtain⟨u,rfl,h5⟩:=h5;refine Zc h5 (λ_ s6 h6=>?_) λ_ _ f=>f.elim;obtain⟨x,H6,I6,r6,y6,P,fr6⟩:=h6;have I6':=I6.pinned (E fr6 np) (T.obj _ _ P);refine Zc (hg t P2.objs.size a B l _ s6 Z4 H6 x u _ I6' r6 (step x H6 y6)) (λ_ s7 h7=>?_) xe;obtain⟨U,H7,I7,q7⟩:=h7;refine ht t P2.objs.size a B l cat ce I7 q7 λbv s8 H8 I8 q8=>?_;have F:∀H9 s9 Z9,Inv (JJ X scope N t P2.objs.size a B l) ([(a.heap.objs.size,{ cls:=.type "list",data:=.seq its.toArray k })]++XE l s6.heap) Z9 H9 s9->(∀b∈l,∀o,s6.heap.get? b=some o->s9.heap.get? b=some o)/\∀b∈l,H9 b=none:=λH9 s9 Z9 I9=>by
    refine⟨λb w o e=>(I9.pin (b,o) (Ur _ (Ur _ (ZW w e)))).1,λb w=>?_⟩;obtain⟨o,e,d⟩:=T.obj _ _ P b w;exact(I9.pin (b,o) (Ur _ (Ur _ (ZW w e)))).2.1
   have p8:=I8.pin (a.heap.objs.size,_) (Ur _ (VF _ Zqs));cases bv with
   |false =>
    rw[Ze ()] at q8 ⊢;obtain⟨m',hm',w8⟩:=q8;obtain⟨z1,z2⟩:=F _ _ _ I8;exact⟨m',hm',i+1,ys,its,k,U,H8,I8.pins_of (λp hp=>nomatch hp),T.keep _ _ _ P z1,z2,p8.1,p8.2.1,O,w8⟩
   |true =>
    rw[Zd rfl] at q8 ⊢;refine Zc (he t P2.objs.size a B l cat _ s8 U H8 _ I8 q8) (λyv s9 h9=>?_) xe;obtain⟨y,H9,I9,ry,m',hm',w9⟩:=h9;have p9:=I9.pin (a.heap.objs.size,_) (Ur _ (VF _ Zqs));have hl:=O.length;refine append_at (hsz:=by show its.toArray.size<=sizeLine;rw[Zm,<- hl];exact Zz hz) p9.1 λh10 hs10 hd10=>?_;have I10:Inv (JJ X scope N t P2.objs.size a B l) [] U H9 { s9 with heap:=h10 }:=(I9.pins_of (Y':=[]) λp hp=>nomatch hp).turned (t':=s9.toks) (it:=a.heap.objs.size) (λb o w e=>(hs10.2 b w).trans e) p9.2.1 K (.inr (Zf _))
     (λx c e z=>by
      obtain⟨v,o,ho,hd⟩:=I9.cell x c e;rw[z,p9.1] at ho;cases ho;cases hd) (λp hp=>Zn hp (by show ¬p∈([]:Yb)++[];simp))
    obtain⟨z1,z2⟩:=F _ _ _ I9;refine⟨m',hm',i+1,ys++[y],its++[yv],k+1,U,H9,I10,T.keep _ _ _ P (λb w o e=>?_),z2,?_,p9.2.1,jv.append O (.cons ry .nil),w9⟩
    .have hb':b≠a.heap.objs.size:=λz=>nD (by rw[<- z];exact w);exact(hs10.2 b hb').trans (z1 b w o e)
    .refine hd10.trans ?_;simp
 exact codeAny_compStart_list (loop _ rfl) (T.self _ 0 _ _ _ (T.keep _ _ _ st2 (λb _ o e=>M b o e)) (loop _ rfl))
def E3 (N)(cap)(l:X.calm=true)(f:QJ scope X.env N X.N cap=true)(m:PI X tg iter wi)(o:∀i C s H e,PG (JJ X scope N i C s H e) tg g)(p:∀i C s H e,W4 X C s H e->PE (JJ X scope N i C s H e) elt te)
 (hs:∀x,foldedSetIterable iter X.env x=pure x) {use:Option (Value->Sem Unit)} {R:Ya} {a:Pos} {Y:Yb} {s:Shared} {Z: St} {H:Hp} {Q:VK} (I:Inv X Y Z H s) (h:Xe cap wi g te Z H Q) (j:XL X Y Z Q use R):
 YI X (comprehension (.ListComp elt [⟨tg,iter,[],0⟩] scope pos) scope X.env a (newList []) false (eval iter X.env) use) R X.xe s:=
 E2 (test:=λ_ _ Q s=>Q true s) N (λI b n h=>W.kcp_loop I b n h) (λ_ _ _ _ _ _ _ _ _ _ _ _ _ _ I q k=>k true _ _ I q) cap l f m o p hs I h j
def E4 (N)(cap)(f:X.calm=true)(b:QJ scope X.env N X.N cap=true)(i:PI X tg iter wi)(j:∀e C s H a,PG (JJ X scope N e C s H a) tg g)(l:∀e C s H a,W4 X C s H a->PE (JJ X scope N e C s H a) elt te)
 (hs:∀x,foldedSetIterable iter X.env x=pure x:=by intro _;rfl):PE X (.ListComp elt [⟨tg,iter,[],0⟩] scope pos) (Xe cap wi g te):=λY s Z H Q I h=>E3 N cap f b i j l hs I h E1
def NL (N)(cap)(f:X.calm=true)(a:QJ scope X.env N X.N cap=true)(h:PI X tg iter wi)(i:∀b C s H e,PG (JJ X scope N b C s H e) tg g)(j:∀b C s H e,PE (JJ X scope N b C s H e) elt te)
 (hs:∀x,foldedSetIterable iter X.env x=pure x:=by intro _;rfl):PE X (.ListComp elt [⟨tg,iter,[],0⟩] scope pos) (Xe cap wi g te):=E4 N cap f a h i () hs
end
mutual
def Is (H:Hp):PyData->V->Prop
 | .none,v=>v=.non
 | .bool b,v=>v=.bl b
 | .int i,v=>v=.int i
 | .str x,v=>v=.str x
 | .list ds,v=>∃a c,v=.ref a/\H a=some (.lst c)/\qm H ds c
 | .tuple ds,v=>∃a c,v=.ref a/\H a=some (.tup c)/\qm H ds c
 | .dict _,_=>False
def qm (H:Hp):List PyData->YE->Prop
 | [],xs=>xs=[]
 |d::ds,xs=>∃x r,xs=x::r/\Is H d x/\qm H ds r
end
mutual
theorem Is.same (e:jk H H'):∀d v,Is H d v->Is H' d v
 | .none,_,h=>h
 | .bool _,_,h=>h
 | .int _,_,h=>h
 | .str _,_,h=>h
 | .list ds,v,h=>have ⟨a,b,c,f,g⟩:=h;⟨a,b,c,e _ _ f,qm.same e ds b g⟩
 | .tuple ds,v,h=>have ⟨a,b,c,f,g⟩:=h;⟨a,b,c,e _ _ f,qm.same e ds b g⟩
 | .dict _,_,h=>h.elim
theorem qm.same (e:jk H H'):∀ds a,qm H ds a->qm H' ds a
 | [],_,h=>by simp_all [qm]
 |d::ds,a,h=>have ⟨x,r,b,c,f⟩:=h;⟨x,r,b,Is.same e d x c,qm.same e ds r f⟩
end
theorem qm.length:∀{ds:List PyData} {a:YE},qm H ds a->a.length=ds.length
 | [],_,h=>by simp_all [qm]
 |d::ds,a,h=>by
  obtain⟨x,r,rfl,_,b⟩:=h;rw[Zu,Zu,qm.length b]
theorem qm.get:∀{ds:List PyData} {a:YE} {i:Nat} {d:PyData},qm H ds a->ds[i]? = some d->∃x,a[i]? = some x/\Is H d x
 | [],_,_,_,_,e=>by simp at e
 |d::ds,a,0,d',h,e=>by
  grind[qm]
 |d::ds,a,i+1,d',h,e=>by
  obtain⟨x,r,rfl,_,b⟩:=h;obtain⟨y,c,f⟩:=qm.get b (by simpa using e)
  simp_all
theorem E5:∀(ns:Yh),qm H (ns.map PyData.int) (ns.map V.int)
 | []=>by rfl
 |n::ns=>⟨_,_,rfl,by rfl,E5 ns⟩
theorem E6:∀{ns:Yh} {a:YE},qm H (ns.map PyData.int) a->a=ns.map V.int
 | [],_,h=>by
  simp_all [qm]
 |n::ns,a,h=>by
  obtain⟨x,r,rfl,b,c⟩:=h;rw[b,E6 c];rfl
def xD:Is H (.list ds) v↔∃a b,v=.ref a/\H a=some (.lst b)/\qm H ds b:=Iff.rfl
def yx:Is H (.tuple ds) v↔∃a b,v=.ref a/\H a=some (.tup b)/\qm H ds b:=Iff.rfl
mutual
def QY:PyData->Bool
 | .int _=>true
 | .list xs=>XM xs
 | .tuple xs=>XM xs
 | .none=>false
 | .bool _=>false
 | .str _=>false
 | .dict _=>false
def XM:List PyData->Bool
 | []=>true
 |x::xs=>QY x&&XM xs
end
mutual
theorem BU:∀d e:PyData,QY d=true->QY e=true->(PyData.eqv d e=true↔d=e)
 | .int i,.int j,_,_=>by unfold PyData.eqv;simp
 | .int i,.list ys,_,_=>by unfold PyData.eqv;simp
 | .int i,.tuple ys,_,_=>by unfold PyData.eqv;simp
 | .list xs,.int j,_,_=>by unfold PyData.eqv;simp
 | .list xs,.list ys,h1,h2=>by
  have q:=BV xs ys h1 h2
  simp_all [PyData.eqv]
 | .list xs,.tuple ys,_,_=>by unfold PyData.eqv;simp
 | .tuple xs,.int j,_,_=>by unfold PyData.eqv;simp
 | .tuple xs,.list ys,_,_=>by unfold PyData.eqv;simp
 | .tuple xs,.tuple ys,h1,h2=>by
  have q:=BV xs ys h1 h2
  simp_all [PyData.eqv]
 | .none,_,h,_=>by simp_all [QY]
 | .bool _,_,h,_=>by simp_all [QY]
 | .str _,_,h,_=>by simp_all [QY]
 | .dict _,_,h,_=>by simp_all [QY]
 |_,.none,_,h=>by simp_all [QY]
 |_,.bool _,_,h=>by simp_all [QY]
 |_,.str _,_,h=>by simp_all [QY]
 |_,.dict _,_,h=>by simp_all [QY]
theorem BV:∀a ys:List PyData,XM a=true->XM ys=true->(PyData.eqvAll a ys=true↔a=ys)
 | [],[],_,_=>by unfold PyData.eqvAll;simp
 | [],y::ys,_,_=>by unfold PyData.eqvAll;simp
 |x::a,[],_,_=>by unfold PyData.eqvAll;simp
 |x::a,y::ys,h1,h2=>by
  have ⟨b,c⟩:=Jt.mp h1;have ⟨e,f⟩:=Jt.mp h2;unfold PyData.eqvAll;rw[Bool.and_eq_true_iff,BU x y b e,BV a ys c f];simp
end
def NM (a:QY d=true)(b:QY e=true)(h:d≠e):PyData.eqv d e=false:=by
 grind[BU]
def NN (a:QY d=true):PyData.eqv d d=true:=(BU d d a a).mpr rfl
section
variable {X:Cx}
def qC:Yh->Int
 | []=>0
 |x::r=>r.foldl max x
def xc:Yh->Int
 | []=>0
 |x::r=>r.foldl min x
theorem E7:∀(r:Yh) x,x<=r.foldl max x/\(∀y∈r,y<=r.foldl max x)/\(r.foldl max x=x\/r.foldl max x∈r)
 | [],x=>by simp
 |y::r,x=>by
  obtain⟨b,a,c⟩:=E7 r (max x y);show x<=r.foldl max (max x y)/\(∀z∈y::r,z<=r.foldl max (max x y))/\(r.foldl max (max x y)=x\/r.foldl max (max x y)∈y::r);refine⟨(),λz hz=>?_,?_⟩
  .rcases Uq.mp hz with rfl|hz
   .omega
   .exact a z hz
  grind
def W5 (h:l ≠ []):qC l∈l/\∀y∈l,y<=qC l:=by
 cases l with
 |nil=>simp_all
 |cons x r =>
  obtain⟨a,b,h3⟩:=E7 r x;refine⟨?_,λy hy=>?_⟩
  .rcases h3 with h3|h3
   .show r.foldl max x∈x::r;rw[h3];exact Zqs
   .exact Zqm _ h3
  .rcases Uq.mp hy with rfl|hy
   .exact a
   .exact b y hy
def E8 (a:M∈l)(b:∀y∈l,y<=M):M=qC l:=by
 obtain⟨c,e⟩:=W5 (l:=l) ()
 grind
theorem E9:∀(r:Yh) x,r.foldl min x<=x/\(∀y∈r,r.foldl min x<=y)/\(r.foldl min x=x\/r.foldl min x∈r)
 | [],x=>by simp
 |y::r,x=>by
  obtain⟨b,a,c⟩:=E9 r (min x y);show r.foldl min (min x y)<=x/\(∀z∈y::r,r.foldl min (min x y)<=z)/\(r.foldl min (min x y)=x\/r.foldl min (min x y)∈y::r);refine⟨(),λz hz=>?_,?_⟩
  .rcases Uq.mp hz with rfl|hz
   .omega
   .exact a z hz
  grind
def Ac (h:l ≠ []):xc l∈l/\∀y∈l,xc l<=y:=by
 cases l with
 |nil=>simp_all
 |cons x r =>
  obtain⟨a,b,h3⟩:=E9 r x;refine⟨?_,λy hy=>?_⟩
  .rcases h3 with h3|h3
   .show r.foldl min x∈x::r;rw[h3];exact Zqs
   .exact Zqm _ h3
  .rcases Uq.mp hy with rfl|hy
   .exact a
   .exact b y hy
def BW (a:M∈l)(b:∀y∈l,M<=y):M=xc l:=by
 obtain⟨c,e⟩:=Ac (l:=l) ()
 grind
def NO (m:X.calm=true):jU X (.builtin "max") (λg H Q=>∃a ns,g=[.ref a]/\qs X.K H a (ns.map V.int)/\ns ≠ []/\Q (.int (qC ns)) H):=by
 intro Y s Z H g C Q I r h;obtain⟨a,ns,rfl,n,o,q⟩:=h;obtain⟨u,rfl,w⟩:=QX r;obtain rfl:=w;obtain⟨its,x,p,hz⟩:=I.list n;have i:=Ek x;obtain⟨ys,e⟩:=i.allInts.items;have c:ns=ys.toList.map (·.1):=by
  rw[<- i.numsOf,<- nums_intItems,<- e]
 have hsz:0<ys.size:=by
  grind
 have f:=p.isList;rw[e] at f;refine max_intList (I.ok.hd m) f hsz λv h' tk y z=>?_;obtain⟨t,rfl⟩:=intItems_at y;obtain⟨E,A⟩:=argBest_gt (numAt ys) (ys.size-1);refine⟨.int (qC ns),H,I.kept z,⟨t,?_⟩,q⟩
 congr 1
 refine E8 ?_ λb l=>?_
 .rw[c,numAt_eq];exact PySem.getD_mem (by rw[Zql,Ui];lia)
 .rw[c] at l;obtain⟨j,B,rfl⟩:=PySem.mem_getD l;rw[Zql,Ui] at B;rw[<- numAt_eq];exact A j ()
def NP (m:X.calm=true):jU X (.builtin "min") (λg H Q=>∃a ns,g=[.ref a]/\qs X.K H a (ns.map V.int)/\ns ≠ []/\Q (.int (xc ns)) H):=by
 intro Y s Z H g C Q I r h;obtain⟨a,ns,rfl,n,o,q⟩:=h;obtain⟨u,rfl,w⟩:=QX r;obtain rfl:=w;obtain⟨its,x,p,hz⟩:=I.list n;have i:=Ek x;obtain⟨ys,e⟩:=i.allInts.items;have c:ns=ys.toList.map (·.1):=by
  rw[<- i.numsOf,<- nums_intItems,<- e]
 have hsz:0<ys.size:=by
  grind
 have f:=p.isList;rw[e] at f;refine min_intList (I.ok.hd m) f hsz λv h' tk y z=>?_;obtain⟨t,rfl⟩:=intItems_at y;obtain⟨E,A⟩:=argBest_lt (numAt ys) (ys.size-1);refine⟨.int (xc ns),H,I.kept z,⟨t,?_⟩,q⟩
 congr 1
 refine BW ?_ λb l=>?_
 .rw[c,numAt_eq];exact PySem.getD_mem (by rw[Zql,Ui];lia)
 .rw[c] at l;obtain⟨j,B,rfl⟩:=PySem.mem_getD l;rw[Zql,Ui] at B;rw[<- numAt_eq];exact A j ()
def NQ:jU X (.builtin "isinstance") (λa H Q=>∃x n t b,a=[x,.ty n]/\TyOf X.K H x t/\W.kitOne X.K t (.type n)=some b/\Q (.bl b) H):=by
 intro Y s Z H a i Q I r h;obtain⟨x,n,t,b,rfl,c,e,q⟩:=h;obtain⟨u,j,rfl,f,g⟩:=ZX r;obtain rfl:=g;exact MN I f c e λtk=>⟨.bl b,H,I.tok tk,rfl,q⟩
def z7 (P:Program)(w:World)(K:W.Frag)(mg:Ye)(a:Heap)(name:Str)(k:Nat)(ps:Yk)(sp:Sp):Prop:=
 ∃f b,FnOk P w K mg a yj k f b ps sp/\zz K b ps []/\W.keepIn K (.ref f)=true/\mg name=some (.ref f)
theorem z7.mono {P:Program}{w:World}{K:W.Frag}{mg:Ye}{a:Heap}{name:Str}{j k:Nat}{ps:Yk}{sp:Sp}(c:z7 P w K mg a name j ps sp)(h:j<=k):z7 P w K mg a name k ps sp:=by
 obtain⟨f,b,F,r⟩:=c;exact⟨f,b,F.mono h,r⟩
def XN (c:z7 X.prog X.w X.K X.mg X.base name k ps sp)(h:Room k X.A)(i:Gl X name)(j:PA X (e::es) t)
 (a:(name == ("__debug__" : Str))=false:=by decide) (l:starEach (e::es) X.env=(false,eval e X.env)::starEach es X.env:=by rfl) (g:(backTo pos (starEach es X.env)).any (·.1)=false:=by rfl):
 PE X (.Call (.Name name p) (e::es) [] pos) (BI sp [] E0 t):=by
 obtain⟨f,o,F,b,m,n⟩:=c;exact Ed F h i n m b .nil Ex j a l g
end
def Kt (h:H p=none)(o):jk H (upd H p o):=λb u q=>by rwa [JH (Ke q h)]
def QK (h:n<=1000):n<=sizeLine:=Zz (Ey h)
def pD (p:Int×Int):PyData:=.tuple [.int p.1,.int p.2]
def rD (r:Jy):PyData:=.tuple (r.map pD)
def bQ:Is H (pD p) v↔∃a,v=.ref a/\H a=some (.tup [.int p.1,.int p.2]):=by
 constructor
 .rintro⟨a,g,b,c,f⟩;have e:=E6 (ns:=[p.1,p.2]) f
  simp_all
 .rintro⟨a,b,c⟩;exact⟨a,_,b,c,E5 [p.1,p.2]⟩
def BX (o)(s:jk H H')(h:H l=none):jk H (upd H' l o):=λb u e=>by
 rw[JH (Ke e h)];exact s b u e
def BY (p):QY (pD p)=true:=by rfl
def QR:bootBuiltins "len" = some (.builtin "len"):=boot_len
def BZ:bootBuiltins "max" = some (.builtin "max"):=boot_max
def NR:bootBuiltins "min" = some (.builtin "min"):=boot_min
def KW:bootBuiltins "isinstance" = some (.builtin "isinstance"):=boot_isinstance
def Ad:bootBuiltins "sorted" = some (.builtin "sorted"):=boot_sorted
def EA:bootBuiltins "int" = some (.type "int"):=boot_int
def NS:bootBuiltins "bool" = some (.type "bool"):=boot_bool
def XO:bootBuiltins "str" = some (.type "str"):=boot_str
def K4:bootBuiltins "list" = some (.type "list"):=boot_list
def Xf:bootBuiltins "tuple" = some (.type "tuple"):=boot_tuple
def EB:bootBuiltins "dict" = some (.type "dict"):=boot_dict
def bt_set:bootBuiltins "set" = some (.type "set"):=boot_set
def EC:entryFor table "dict.update.loop" = some Builtin.«dict.update.loop»:=entryFor_of_tree (by rfl)
def Ae:plainId "dict.update.loop" = true:=by decide +kernel
section
variable {prog:Program}{w:World}{K:Type}[DecidableEq K]{knd:KeyKind prog w K}
def gX (knd:KeyKind prog w K)(it t d:Addr)(c:Yn)(ps:List (K×Value))(y:Heap)(hlen:c.size=ps.length)
 (J:∀(j:Nat) k v,ps[j]? = some (k,v)->∃n h,c[j]? = some (.ref n)/\y.IsTuple n #[h,v]/\knd.is k h=true/\n≠it/\n≠d)
 (z:y.IsTuple t c) (n1:t≠it) (n2:t≠d) (L:d≠it) (m:Nat):
 ∀i:Nat,ps.length-i=m->∀A R s (a:List (K×Value)),A.handled=none->s.heap.IsTupleIter it t i->(∀b o,b≠it->b≠d->y.get? b=some o->s.heap.get? b=some o) ->
  s.heap.DictOf knd d a->a.length+(ps.length-i)<=sizeLine ->
  (∀h' tk,h'.DictOf knd d (merged a (ps.drop i))->(∀b o,b≠it->b≠d->y.get? b=some o->h'.get? b=some o)->R (.ok (.ret .none)) { s with heap:=h',toks:=tk }) ->
  wpAny (model prog w) A.in1 (Builtin.«dict.update.loop» ⟨[.ref d,.ref it,rawInt i,.none],[]⟩) (λq s'=>match q with | .done f=>R (.ok f) s' | .again c'=>c'.quiet=true/\codeAny (model prog w) A c' R s') (λe s'=>R (.error e) s') s:=by
 induction m with
 |zero =>
  intro i H A R s a M st keep N hz I;have O:c[i]? = none:=by rw[Array.getElem?_eq_none_iff];lia
  have P:s.heap.IsTuple t c:=by
   obtain⟨o,l,r⟩:=z;exact⟨o,keep t o n1 n2 l,r⟩
  unfold Builtin.«dict.update.loop»;refine Za (wpAny_pyNext_tuple_end M st P O λh' eb=>?_);have Q:ps.drop i=[]:=Vh ();rw[Q] at I;have B:h'.DictOf knd d a:=by
   obtain⟨o,es,ep,l,r⟩:=N;exact⟨o,es,ep,eb d o L l,r⟩
  have q:=I h' s.toks B (λb o C E e=>eb b o C (keep b o C E e));unfold Builtin.Dict.addKeywords;exact Za (Zb (Zb q))
 |succ m ih =>
  intro i H A R s a M st keep N hz I;have u:i<ps.length:=()
  obtain⟨g,hkv⟩:∃g,ps[i]? = some g:=⟨_,Zqg u⟩;obtain⟨n,h,O,S,F,a1,a2⟩:=J i g.1 g.2 hkv;have P:s.heap.IsTuple t c:=by
   obtain⟨o,l,r⟩:=z;exact⟨o,keep t o n1 n2 l,r⟩
  unfold Builtin.«dict.update.loop»;refine Za (wpAny_pyNext_tuple_item st P O λC U x=>?_);obtain⟨X,Y,Z,nn,hod⟩:=S;have p:C.get? n=some X:=(x.2 n a1).trans (keep n X a1 a2 Y);have hD1:C.DictOf knd d a:=by
   obtain⟨o,es,ep,l,r⟩:=N;exact⟨o,es,ep,(x.2 d L).trans l,r⟩
  dsimp only;refine Za (wpAny_holding (Za (wpAny_tryCatch ?_)));unfold Builtin.Dict.pairItems;refine Za (wpAny_typeOf (T:= "tuple") ⟨X,p,Z⟩ ?_);rw[Zd (by decide)];refine Za (wpAny_seqItems p hod (Zb ?_));show wpAny _ _ (holding [h,g.2] (dictSet d h g.2)) _ _ _;refine wpAny_holding (wpAny_dictSet_pairs F hD1 (λE hD2 G=>?_) ());have hc:((i:Int)+1)=((i+1:Nat):Int):=by push_cast;rfl
  refine Zb ?_;rw[hc];have st2:E.IsTupleIter it t (i+1):=by
   obtain⟨o,l,r⟩:=U;exact⟨o,(G.2 it (Ne.symm L)).trans l,r⟩
  have k2:∀b o,b≠it->b≠d->y.get? b=some o->E.get? b=some o:=λb o b1 b2 e=>(G.2 b b2).trans ((x.2 b b1).trans (keep b o b1 b2 e));have z2:(stored a g.1 g.2).length+(ps.length-(i+1))<=sizeLine:=by
   have:(stored a g.1 g.2).length<=a.length+1:=by
    unfold stored
    split
    .rw[Zql];lia
    .rw[Ub,Us];lia
   rw[H] at hz;rw[Nat.sub_succ,H];exact Zh (Nat.add_le_add_right this m) (Zh (Yx (Nat.succ_add_eq_add_succ a.length m)) hz)
  have e:merged a (ps.drop i)=merged (stored a g.1 g.2) (ps.drop (i+1)):=by
   rw[Uu u];have:ps[i]=g:=by
    have:=Zqg u;rw[this] at hkv;exact Zqi hkv
   rw[this];rfl
  exact⟨plainId_quiet Ae _,codeAny_builtin EC (by
   rw[Around.under_plainId Ae _];exact ih (i+1) (by rw[Nat.sub_succ,H];rfl) A R { s with heap:=E,toks:=s.toks+1 } (stored a g.1 g.2) M st2 k2 hD2 z2 λh' tk B kk=>I h' tk (by rwa [e]) kk)⟩
end
def NT:typeLookup (.type "tuple") "keys" = pure none:=by rw[typeLookup_type,builtinLookup_eq_fast];kernel_rfl
def NU
 (n:s.heap.get? a=some o) (p:o.cls=.type "tuple") (f:o.data=.seq xs k) (q:o.dict=none) (i:typeLookup (.type "tuple") name=pure none) (j:(["__module__", "__name__", "__qualname__", "__doc__", "__annotations__"]:Yk).contains name=false) (t:A.handled=none)
 (h:∀h' tk,(∀b o,s.heap.get? b=some o->h'.get? b=some o)->Q none { s with heap:=h',toks:=tk }) (hsz:name.length+100<=sizeLine:=by size_fits):
 YJ prog w A (getAttr? (.ref a) name) Q E s:=by
 obtain⟨c,u,v,x⟩:=o;simp only at p f q;subst p f q;obtain⟨hp,g,d,tk,os⟩:=s;have r:∀l,(⟨hp,g,d,l,os⟩:Shared).TypeIs (.ref a) "tuple" := λ_=>⟨_,n,rfl⟩;have y:=sub_AttributeError;have z:=F.slot_tuple_getattribute.lookup;have B:=F.slot_tuple_getattribute.bind (.ref a);have C:=am_tuple_getattr_none;unfold getAttr? getAttrBy? getAttrBy
 repeat (any_goals (first|assumption|exact r _|((with_reducible show wpAny _ _ (call (Value.builtin "tuple.__getattribute__") _ _) _ _ _);refine call_meets F.slot_tuple_getattribute (r _) am_entry_tuple_getattribute (F.args_tuple_getattribute_2 _ _) (meets_getattribute_miss_tuple a xs k x name _ i j hsz) ⟨n,t,λh' l e m=>?_⟩)|wp_step))
 obtain⟨t',G,H⟩:=m.there;show wpAny _ _ (getattributeRaised _ _ _ _ _ _ _) _ _ _;unfold getattributeRaised
 repeat (any_goals (first|assumption|wp_step))
 exact h _ _ m.of.keeps
section
variable {prog:Program}{w:World}{K:Type}[DecidableEq K]{A:Around}{E:Ya}{s:Shared}
def NV (knd:KeyKind prog w K)(M:A.handled=none)(C:s.heap.get? t=some o)(G:o.cls=.type "tuple")(l:o.data=.seq items n)(O:o.dict=none)
 (p:items.size=ps.length) (H:∀(j:Nat) k v,ps[j]? = some (k,v)->∃g a,items[j]? = some (.ref g)/\s.heap.IsTuple g #[a,v]/\knd.is k a=true) (hz:ps.length<=sizeLine)
 (h:∀h' tk,h'.DictOf knd s.heap.objs.size (merged [] ps)->(∀b u,s.heap.get? b=some u->h'.get? b=some u)->Q (.ref s.heap.objs.size) { s with heap:=h',toks:=tk }):
 YJ prog w A (call (.type "dict") [.ref t]) Q E s:=by
 refine callType_codes (Q₁:=λq s₁=>q=.ref s.heap.objs.size/\s₁={ s with heap:=s.heap.push { cls:=.type "dict",data:=.dict #[] } }) F.kt_called_dict (F.kt_typeCall_dict_1 _) F.entry_dict_init (kt_code_dict_new _ ⟨rfl,rfl⟩) ?_;rintro q s₁ ⟨rfl,rfl⟩;have c:(s.heap.push { cls:=.type "dict",data:=.dict #[] }).DictOf knd s.heap.objs.size []:=Heap.DictOf.new s.heap;refine⟨c.typeIs,F.args_dict_init_2 _ _,?_⟩;have m:(s.heap.push { cls:=.type "dict",data:=.dict #[] }).get? t=some o:=Zq _ C;unfold Builtin.«dict.__init__»;refine Za ?_;unfold Builtin.Dict.selfAndRest;refine Za (wpAny_notOrdered_dict c.typeIs ?_);show wpAny _ _ (pure (s.heap.objs.size,[Value.ref t])) _ _ _;refine Zb ?_;show wpAny _ _ (Builtin.Dict.updateFrom "dict.__init__" s.heap.objs.size (.ref t) [] .none) _ _ _;unfold Builtin.Dict.updateFrom;refine Za (wpAny_typeOf (T:= "tuple") ⟨o,m,G⟩ ?_);rw[Zd (by decide)];refine Za (NU m G l O NT (by decide +kernel) M (λi P k2=>?_) (by decide));rw[Zd (by rfl)];have x:i.IsTuple t items:=⟨o,k2 _ _ m,G,n,l⟩;have lt:s.heap.objs.size<i.objs.size:=by
  obtain⟨B,_,_,e,_⟩:=c;exact Zk (k2 _ _ e)
 have R:i.DictOf knd s.heap.objs.size []:=by
  obtain⟨B,es,ep,e,r⟩:=c;exact⟨B,es,ep,k2 _ _ e,r⟩
 refine Za (wpAny_rule ?_);refine Za (wpAny_pyIter_tuple x ?_);have f:∀b u,s.heap.get? b=some u->b≠s.heap.objs.size/\b≠i.objs.size:=λb u e=>by
  have z:=Zk e;exact⟨Zi z,Zi (Ug z lt)⟩
 have N:∀b u,s.heap.get? b=some u->i.get? b=some u:=λb u e=>k2 b u (Zq _ e);have y:∀(j:Nat) k v,ps[j]? = some (k,v)->∃g a,items[j]? = some (.ref g)/\i.IsTuple g #[a,v]/\knd.is k a=true/\g≠i.objs.size/\g≠s.heap.objs.size:=λj k v e=>by
  obtain⟨g,a,S,⟨I,J,U⟩,X⟩:=H j k v e;exact⟨g,a,S,⟨I,N _ _ J,U⟩,X,(f g I J).2,(f g I J).1⟩
 refine Zb ⟨plainId_quiet Ae _,codeAny_builtin EC ?_⟩;rw[Around.under_plainId Ae _];refine gX knd i.objs.size t s.heap.objs.size items ps i p y x (f t o C).2 (f t o C).1 (Zi lt) ps.length 0 () A.in1 _ _ [] M ⟨_,Zr _ rfl,rfl,rfl⟩ (λb u _ _ e=>Zq _ e) ?_ (by simpa using hz) ?_
 .obtain⟨B,es,ep,e,r⟩:=R;exact⟨B,es,ep,Zq _ e,r⟩
 .intro h' tk L Y;exact⟨rfl,h h' tk L λb u e=>Y b u (f b u e).2 (f b u e).1 (N b u e)⟩
end
def xx (r:Jy):List (jA×V):=r.map λp=>(Ud p.1,V.int p.2)
def Af (r:Jy):List (jA×V):=W2 [] (xx r)
theorem ED (ok:qL P w H h):∀{r:Jy} {f:YE} {b:Yf},qm H (r.map pD) f->jv f b ->
 ∃ps:List (jA×Value),KV (xx r) ps/\b.length=ps.length/\∀(j:Nat) k v,ps[j]? = some (k,v)->∃g c,b[j]? = some (.ref g)/\h.IsTuple g #[c,v]/\(Q2 P w).is k c=true
 | [],f,b,ha,r=>by
  subst ha;cases r;exact⟨[],.nil,rfl,()⟩
 |p::r,f,b,ha,rv=>by
  obtain⟨x,ys,rfl,l,m⟩:=ha;cases rv with
  | @cons _ u _ q s t =>
   obtain⟨ps,k1,k2,k3⟩:=ED ok m t;obtain⟨a,rfl,y⟩:=bQ.mp l;obtain rfl:=s;obtain⟨_,its,z,o,A,B,n,C⟩:=(ok a _ y);obtain⟨I,E,rfl,F,G⟩:=ZX z;obtain⟨i,rfl⟩:=(F);refine⟨(Ud p.1,E)::ps,.cons ⟨rfl,G⟩ k1,(),λj k v e=>?_⟩;cases j with
   |zero =>
    cases e;exact⟨a,.int p.1 i,rfl,⟨o,A,B,n,C⟩,DN p.1 i⟩
   |succ j =>
    exact k3 j k v (by simpa using e)
section
variable {X:Cx}
def NW (g:X.calm=true):jU X (.type "dict") (λb H Q=>∃a r,b=[.ref a]/\Is H (rD r) (.ref a)/\r.length<=100/\∀p,H p=none->Q (.ref p) (upd H p (.dK (Af r)))):=by
 intro Y s Z H b G Q I i h;obtain⟨a,r,rfl,l,hz,q⟩:=h;obtain⟨u,rfl,m⟩:=QX i;obtain rfl:=m;obtain⟨J,b,t,w,x⟩:=l;cases t;obtain⟨⟨K,L,c,d0⟩,its,y,o,f,A,n,B⟩:=(I.hok a _ w);rw[c] at f;obtain rfl:=Zqi f;obtain⟨ps,k1,k2,k3⟩:=ED I.hok x y;have M:=k1.length;have C:(xx r).length=r.length:=Zql _;refine NV (Q2 X.prog X.w) (I.ok.hd g) c A B d0 () (λj k v e=>?_) (QK ()) λh' tk E F=>?_
 .simp_all
 .refine⟨.ref s.heap.objs.size,upd H s.heap.objs.size (.dK (Af r)),I.laid F (Zf _) (Et ?_ (beq_eq_false_iff_ne.mpr (Ne.symm (Zi I.big))) (zT k1 .nil) E),rfl,q _ (I.hok.fresh (Zf _))⟩;have z:=Ew (xx r) [];rw[ZD,C] at z;exact QK (by unfold Af;lia)
end
def JB:Jy->Int->Option Int
 | [],_=>none
 |p::r,t=>match JB r t with
  |some w=>some w
  |none=>if p.1=t then some p.2 else none
def NX (r s)(t):JB (r++s) t=match JB s t with|some w=>some w|none=>JB r t:=by
 induction r with
 |nil=>grind[JB]
 |cons p r a =>
  grind[List.cons_append,JB]
def Qi (h:JB r t=some w):(t,w)∈r:=by
 induction r with
 |nil=>simp[JB] at h
 |cons p r a =>
  grind[JB]
theorem EE (h:JB r t=none):∀w,(t,w)∉r:=by
 induction r with
 |nil=>simp
 |cons p r a =>
  grind[JB]
def jB (r:Jy):Prop:=(r.map (·.1)).Nodup
def jB.eq (h:jB r)(a:(t,v)∈r)(b:(t,w)∈r):v=w:=by
 induction r with
 |nil=>cases a
 |cons p r c =>
  obtain⟨f,e⟩:=Jl.mp (h);rcases Uq.mp a with e1|e1<;>rcases Uq.mp b with e2|e2
  .grind
  .grind
  .grind
  .exact c e e1 e2
def jB.look (h:jB r)(a:(t,w)∈r):JB r t=some w:=by
 cases q:JB r t with
 |none=>exact Zn a (EE q w)
 |some v=>rw[h.eq (Qi q) a]
def xX (o:Jy)(p:Int×Int):Bool:=match JB o p.1 with
 |some w=>decide (p.2<=w)
 |none=>false
def JF (r o:Jy):Bool:=r.all (xX o)
def EF {r o:Jy}{i:Nat}{p:Int×Int}(hp:r[i]? = some p)(h:xX o p=false):JF r o=false:=by
 grind[JF,List.all_eq_false]
def We {α: Type}{r:List α}{p:α}(hp:r[i]? = some p):r.take (i+1)=r.take i++[p]:=by
 rw[Vv,hp];rfl
def NY {r o:Jy}{i:Nat}{p:Int×Int}(hp:r[i]? = some p)(h:JF (r.take i) o=true)(a:xX o p=true):JF (r.take (i+1)) o=true:=by
 rw[We hp]
 simp_all [JF]
open PySem PyProof.Rows
def EG (h:l<r)(c:r-l<=k-x):∃m,(l+r) / 2=m/\l<=m/\m<r/\m-l<=k-(x+1)/\r-(m+1)<=k-(x+1):=by
 have a:l<=(l+r) / 2:=()
 have b:(l+r) / 2<r:=()
 generalize (l+r) / 2=m at a b ⊢;exact⟨m,rfl,a,b,Nat.le_pred_of_lt (Zg (Nat.sub_lt_sub_right a b) c),Nat.pred_le_pred (Zh (Nat.sub_le_sub_left a r) c)⟩
structure Wk (lt:Yd):Prop where
 asy:∀i j,lt i j=true->lt j i=false
 neg:∀i j k,lt i k=true->lt i j=true\/lt j k=true
def jJ (lt:Yd)(i j:Nat):Prop:=lt i j=true\/(lt j i=false/\i<j)
section
variable {lt:Yd}(W:Wk lt)
include W
theorem jJ.no (h:jJ lt i j):lt j i=false:=by
 rcases h with h|h
 .exact W.asy _ _ h
 .exact h.1
theorem jJ.trans (c:jJ lt i j)(e:jJ lt j k):jJ lt i k:=by
 have g:=jJ.no W e;have f:lt k i=false:=by
  cases q:lt k i with
  |false=>rfl
  |true =>
   rcases W.neg k j i q with z|z
   .simp_all
   .rw[(jJ.no W c)] at z;exact JC z
 rcases c with a|a
 .rcases W.neg i k j a with z|z
  .exact .inl z
  simp_all
 .rcases e with b|b
  .rcases W.neg j i k b with z|z
   .simp_all
   .exact .inl z
  .exact .inr ⟨f,()⟩
end
def gx (ix:Yi)(k:Nat):Nat:=(ix[k]?).getD 0
theorem Cb (h:k<ix.size):ix[k]? = some (gx ix k):=by
 simp_all [gx]
def EH (hs:src<ix.size)(a:d<=src)(k):gx (bubble ix src d) k=if k=src-d then gx ix src else if src-d<k/\k<=src then gx ix (k-1) else gx ix k:=by
 unfold gx;rw[getElem?_bubble hs d a k]
 repeat' split
 all_goals rfl
def XP (a:j<=ix.size)(k):gx (mirror ix i j ((j-i) / 2)) k=if i<=k/\k<j then gx ix (i+j-1-k) else gx ix k:=by
 unfold gx;rw[getElem?_mirror_all a k]
 split
 all_goals rfl
def NZ {α β: Type}(f:α -> β)(b:Array α)(i j:Nat):(b.map f).swapIfInBounds i j=(b.swapIfInBounds i j).map f:=by
 apply Array.ext_getElem?;intro k;by_cases a:i<b.size
 .by_cases c:j<b.size
  .rw[getElem?_swapIB (by simpa using a) (by simpa using c),UQ,UQ,UQ,UQ,getElem?_swapIB a c]
   repeat' split
   all_goals rfl
  .rw[VG,VG,dif_pos (by simpa using a),dif_neg (by simpa using c),dif_pos a,dif_neg c]
 .rw[VG,VG,dif_neg (by simpa using a),dif_neg a]
theorem Cc {α β γ: Type}(f:α -> β)(p q:γ -> Nat):∀(l:List γ) (b:Array α),l.foldl (λa k=>a.swapIfInBounds (p k) (q k)) (b.map f)=(l.foldl (λa k=>a.swapIfInBounds (p k) (q k)) b).map f
 | [],b=>rfl
 |k::l,b=>by
  rw[Vi,Vi,NZ,Cc f p q l]
def Oa {α β: Type}(f:α -> β)(xs)(src d):bubble (xs.map f) src d=(bubble xs src d).map f:=Cc f _ _ _ xs
def Ob {α β: Type}(f:α -> β)(xs)(i j d):mirror (xs.map f) i j d=(mirror xs i j d).map f:=Cc f _ _ _ xs
structure Pl (n:Nat)(ix:Yi)(k:Nat):Prop where
 size:ix.size=n
 perm:ix.Perm (Array.range n)
 pre:∀a,a<k->gx ix a<k
 suf:∀a,k<=a->a<n->gx ix a=a
def Pl.lt (h:Pl n ix k)(b:k<=n)(e:a<n):gx ix a<n:=by
 by_cases c:a<k
 .exact Zg (h.pre a c) b
 .rwa [h.suf a () e]
def Up (lt:Yd)(ix:Yi)(k:Nat):Prop:=∀a b,a<b->b<k->jJ lt (gx ix a) (gx ix b)
structure SB (it:Nat->Keyed)(kind:SortKind)(ix:Yi)(st:SortSt):Prop where
 arr:arrOf st=ix.map it
 kd:kindOf st=kind
 fl:failedOf st=none
 pd:pendingOf st = #[]
def yh (prog:Program)(w:World)(A:Around)(s:Shared)(kind:SortKind)(it:Nat->Keyed)(lt:Yd)(n:Nat):Prop:=
 ∀i j,i<n->j<n->∀(E:Ya) (Q:Bool->YC),Q (lt i j) s->YJ prog w A (keyLt' kind (it i).1 (it j).1) Q E s
end L2
set_option maxHeartbeats 4000000
namespace L2
def Wf:Bool->Keyed->Array Keyed->Nat->Nat->Nat->StateT SortSt Sem (Option Nat):=sortPriv% PySem.Builtin.gallop
def Cd:Array Keyed->Array Keyed->StateT SortSt Sem (Array Keyed):=sortPriv% PySem.Builtin.mergeLo
def Ce:Array Keyed->Array Keyed->StateT SortSt Sem (Array Keyed):=sortPriv% PySem.Builtin.mergeHi
abbrev KA:=Array Keyed
abbrev SM:=StateT SortSt Sem
abbrev C3:=Option (Option Nat)×Nat×Nat
def be (lt:Yd)(left:Bool)(x k:Nat):Bool:=if left then lt x k else !lt k x
section
variable {prog:Program}{w:World}{A:Around}{E:Ya}{s:Shared}{kind:SortKind}{it:Nat->Keyed}{lt:Yd}{N:Nat}{st:SortSt}
def XQ {i j:Nat}{Q:Option Bool->YB}(O:yh prog w A s kind it lt N)(a:kindOf st=kind)(b:i<N)(c:j<N)(h:Q (some (lt i j)) st):YK prog w A E s (lt' (it i) (it j)) Q st:=by
 rw[lt'_eq];refine Yo (wpS_get ?_);rw[a];exact Yo (wpS_lift (wpAny_attempt (O _ _ b c _ _ ⟨rfl,Yp h⟩)))
def Qy {a:Yi}{p:Nat}{Q:Keyed->YB}(hp:p<a.size)(h:Q (it (gx a p)) st):YK prog w A E s (elem' (a.map it) p) Q st:=by
 grind[Array.getElem?_map,elem'_eq,Cb,PyProof.Rows.wpS_pure]
noncomputable def wi {α: Type}{c:Prop}[Decidable c]{m n:SM α}{Q:α -> YB}(h:c->YK prog w A E s m Q st)(k:¬c->YK prog w A E s n Q st):YK prog w A E s (if c then m else n) Q st:=()
noncomputable def kP (left:Bool)(a:Keyed)(e:KA)(c i:Nat):SM (Option Bool):=elem' e (c+i) >>= λx=>if left=true then lt' x a else lt' a x >>= λr=>pure (r.map λb => !b)
def nv {left:Bool}{k:Nat}{b:Yi}{p a:Nat}{Q:Option Bool->YB}(O:yh prog w A s kind it lt N)(c:kindOf st=kind)(e:k<N)(hp:a+p<b.size)(f:gx b (a+p)<N)(h:Q (some (be lt left (gx b (a+p)) k)) st):
 YK prog w A E s (kP left (it k) (b.map it) a p) Q st:=by
 refine Yo (Qy hp ?_);cases left with
 |true=>exact XQ O c f e h
 |false=>exact Yo (XQ O c e f (Yp h))
noncomputable def cL (b:Nat->SM (Option Bool))(lo a:Nat):SM (ForInStep C3):=if lo ≥ a then pure (.done (none,lo,a)) else b (lo+(a-lo) / 2) >>= λr=>match r with
 |some t=>if t=true then pure (.yield (none,lo+(a-lo) / 2+1,a)) else pure (.yield (none,lo,lo+(a-lo) / 2))
 |_=>pure (.done (some none,lo,a))
noncomputable def kO (b:Nat->SM (Option Bool))(n lo a:Nat):SM (Option Nat):=(forIn [:n] ((none,lo,a):C3) λ_ c=>cL b c.2.1 c.2.2) >>= λc=>match c.1 with
 |some r=>pure r
 |none=>pure (some c.2.2)
noncomputable def cN (b:Nat->SM (Option Bool))(a c l o:Nat):SM (ForInStep C3):=if o ≥ c then pure (.done (none,l,o)) else b (a+o) >>= λr=>match r with
 |some t=>if(!t)=true then pure (.done (none,l,o)) else pure (.yield (none,o,2*o+1))
 |_=>pure (.done (some none,l,o))
noncomputable def cM (b:Nat->SM (Option Bool))(a c l o:Nat):SM (ForInStep C3):=if o ≥ c then pure (.done (none,l,o)) else b (a-o) >>= λr=>match r with
 |some t=>if t=true then pure (.done (none,l,o)) else pure (.yield (none,o,2*o+1))
 |_=>pure (.done (some none,l,o))
noncomputable def rW (b:Nat->SM (Option Bool))(n a:Nat):SM (Option Nat):=(forIn [:n] ((none,0,1):C3) λ_ c=>cN b a (n-a) c.2.1 c.2.2) >>= λc=>match c.1 with
 |some r=>pure r
 |none=>kO b n (a+c.2.1+1) (a+min c.2.2 (n-a))
noncomputable def rX (b:Nat->SM (Option Bool))(n a:Nat):SM (Option Nat):=(forIn [:n] ((none,0,1):C3) λ_ c=>cM b a (a+1) c.2.1 c.2.2) >>= λc=>match c.1 with
 |some r=>pure r
 |none=>kO b n (a+1-min c.2.2 (a+1)) (a-c.2.1)
set_option smartUnfolding false in
def kM {left:Bool}{k:Keyed}{a:KA}{b n c:Nat}:Wf left k a b n c=(kP left k a b c >>= λr=>match r with
 |some t=>if t=true then rW (kP left k a b) n c else rX (kP left k a b) n c
 |_=>pure none):=rfl
section
variable {P:Nat->Bool}{b:Nat->SM (Option Bool)}{n:Nat}{Q:Option Nat->YB}(hb:∀{i:Nat} {Q:Option Bool->YB},i<n->Q (some (P i)) st->YK prog w A E s (b i) Q st)
 (mono:∀i j,i<j->j<n->P j=true->P i=true) (h:∀m,m<=n->(∀i,i<m->P i=true)->(∀i,m<=i->i<n->P i=false)->Q (some m) st)
include hb mono h
theorem kN {lo a:Nat}(l:lo<=a)(f:a<=n)(t:∀i,i<lo->P i=true)(u:∀i,a<=i->i<n->P i=false):YK prog w A E s (kO b n lo a) Q st:=by
 refine Yo (Yq (Yr (I:=λx c j=>j=st/\∃lo a,c=(none,lo,a)/\lo<=a/\a<=n/\(∀i,i<lo->P i=true)/\(∀i,a<=i->i<n->P i=false)/\a-lo<=n-x) (Q:=λc j=>j=st/\∃m,c=(none,m,m)/\m<=n/\(∀i,i<m->P i=true)/\∀i,m<=i->i<n->P i=false) ?_ ?_ ()) ?_)
 .rintro x c j _ B ⟨rfl,lo,a,rfl,l,f,t,u,g⟩;refine wi (λc=>?_) λc=>?_
  .have e:lo=a:=Nat.le_antisymm l c;subst e;exact Yp ⟨rfl,lo,rfl,f,t,u⟩
  .have c:lo<a:=Yv c;obtain⟨m,em,m0,m1⟩:∃m,lo+(a-lo) / 2=m/\lo<=m/\m<a:=⟨_,rfl,Uj _ _,Nat.add_lt_of_lt_sub' (Nat.div_lt_self (Nat.sub_pos_of_lt c) (by decide))⟩;have o:a-(m+1)<=n-(x+1):=Nat.pred_le_pred (Zh (Nat.sub_le_sub_left m0 a) g);have p:m-lo<=n-(x+1):=Nat.le_pred_of_lt (Zg (Nat.sub_lt_sub_right m0 m1) g);rw[em];refine Yo (hb (Zg m1 f) (wi (λq=>Yp ⟨rfl,_,_,rfl,m1,f,λi r=>?_,u,o⟩) λq=>Yp ⟨rfl,_,_,rfl,m0,Zh (Zz m1) f,t,λi C v=>?_,p⟩))
   .by_cases z:i=m
    .rw[z];exact q
    .exact mono _ _ () (Zg m1 f) q
   .cases y:P i with
    |false=>rfl
    |true =>
     by_cases z:i=m
     .rw[z] at y;exact Zn y q
     .exact Zn (mono _ _ () v y) q
 .rintro c j ⟨rfl,lo,a,rfl,l,f,t,u,g⟩;rw[Nat.zero_max,Nat.sub_self] at g;have e:lo=a:=Nat.le_antisymm l (Nat.le_of_sub_eq_zero (Nat.le_zero.mp g));subst e;exact⟨rfl,lo,rfl,f,t,u⟩
 grind[PyProof.Rows.wpS_pure]
theorem nt {a:Nat}(t:a<n)(e:P a=true):YK prog w A E s (rW b n a) Q st:=by
 refine Yo (Yq (Yr (I:=λx c j=>j=st/\∃l o,c=(none,l,o)/\l<o/\x+1<=o/\a+l<n/\P (a+l)=true) (Q:=λc j=>j=st/\∃l o,c=(none,l,o)/\l<o/\a+l<n/\P (a+l)=true/\(n-a<=o\/(o<n-a/\P (a+o)=false))) ?_ ?_ ⟨rfl,0,1,rfl,Yw,Zf _,t,e⟩) ?_)
 .rintro x c j _ _ ⟨rfl,l,o,rfl,m,u,f,g⟩;refine wi (λc=>Yp ⟨rfl,l,o,rfl,m,f,g,.inl c⟩) λc=>?_;have c1:o<n-a:=Yv c;have c2:a+o<n:=Nat.add_lt_of_lt_sub' c1;refine Yo (hb c2 (wi (λq=>Yp ⟨rfl,l,o,rfl,m,f,g,.inr ⟨c1,by simpa using q⟩⟩) λq=>Yp ⟨rfl,o,2*o+1,rfl,(),(),c2,by simpa using q⟩))
 .rintro c j ⟨rfl,l,o,rfl,m,u,f,g⟩;rw[Nat.zero_max] at u;exact⟨rfl,l,o,rfl,m,f,g,.inl (Zh (U9 _ _) (Uz u))⟩
 .rintro c j ⟨rfl,l,o,rfl,m,f,g,p⟩;show wpS _ _ _ _ (kO b n (a+l+1) (a+min o (n-a))) _ _;refine kN hb mono h (Nat.add_lt_add_left (Nat.lt_min.mpr ⟨m,Nat.lt_sub_iff_add_lt'.mpr f⟩) a) (Zh (Nat.add_le_add_left (Nat.min_le_right _ _) _) (Yx (Vw (Zz t)))) (λi B=>?_) λi r v=>?_
  .by_cases z:i=a+l
   .rw[z];exact g
   .exact mono _ _ () f g
  .rcases p with p|⟨p,h8⟩
   .rw[Nat.min_eq_right p,Vw (Zz t)] at r;exact Zn v (Nat.not_lt_of_le r)
   .rw[Vj (Zz p)] at r;cases y:P i with
    |false=>rfl
    |true =>
     by_cases z:i=a+o
     .rw[z,h8] at y;cases y
     .rw[mono _ _ (UD r (Ne.symm z)) v y] at h8;cases h8
theorem nu {a:Nat}(r:a<n)(e:P a=false):YK prog w A E s (rX b n a) Q st:=by
 refine Yo (Yq (Yr (I:=λx c g=>g=st/\∃l o,c=(none,l,o)/\l<o/\x+1<=o/\l<=a/\P (a-l)=false) (Q:=λc g=>g=st/\∃l o,c=(none,l,o)/\l<o/\l<=a/\P (a-l)=false/\(a+1<=o\/(o<a+1/\P (a-o)=true))) ?_ ?_ ⟨rfl,0,1,rfl,Yw,Zf _,Ua _,e⟩) ?_)
 .rintro x c g _ _ ⟨rfl,l,o,rfl,j,u,m,f⟩;refine wi (λc=>Yp ⟨rfl,l,o,rfl,j,m,f,.inl c⟩) λc=>?_;have c1:o<a+1:=Yv c;refine Yo (hb (UL (U9 _ _) r) (wi (λq=>Yp ⟨rfl,l,o,rfl,j,m,f,.inr ⟨c1,q⟩⟩) λq=>Yp ⟨rfl,o,2*o+1,rfl,(),(),Uo c1,Yu.mpr q⟩))
 .rintro c g ⟨rfl,l,o,rfl,j,u,m,f⟩;rw[Nat.zero_max] at u;exact⟨rfl,l,o,rfl,j,m,f,.inl (Zh r (Uz u))⟩
 .rintro c g ⟨rfl,l,o,rfl,j,m,f,p⟩;show wpS _ _ _ _ (kO b n (a+1-min o (a+1)) (a-l)) _ _;refine kN hb mono h (Zh (Nat.sub_le_sub_left (Nat.lt_min.mpr ⟨j,Nat.lt_succ_of_le m⟩) (a+1)) (Yx (Nat.add_sub_add_right a 1 l))) (Zh (U9 _ _) (Zz r)) (λi t=>?_) λi C v=>?_
  .rcases p with p|⟨p,h8⟩
   .rw[Nat.min_eq_right p,Nat.sub_self] at t;exact Zn t (UR _)
   .rw[Vj (Zz p),Nat.succ_sub (Uo p)] at t;have B:a-o<n:=UL (U9 _ _) r;by_cases z:i=a-o
    .rwa [z]
    .exact mono _ _ (UD (Uo t) z) B h8
  .cases y:P i with
   |false=>rfl
   |true =>
    by_cases z:i=a-l
    .rw[z,f] at y;cases y
    .rw[mono _ _ () v y] at f;cases f
end
def Xg {left:Bool}{k:Nat}{b:Yi}{a n c:Nat}{Q:Option Nat->YB}(O:yh prog w A s kind it lt N)(l:kindOf st=kind)(o:k<N)(hz:a+n<=b.size)(p:∀i,i<n->gx b (a+i)<N)(f:c<n)
 (mono:∀i j,i<j->j<n->be lt left (gx b (a+j)) k=true->be lt left (gx b (a+i)) k=true)
 (h:∀m,m<=n->(∀i,i<m->be lt left (gx b (a+i)) k=true)->(∀i,m<=i->i<n->be lt left (gx b (a+i)) k=false)->Q (some m) st):YK prog w A E s (Wf left (it k) (b.map it) a n c) Q st:=by
 have g:∀{i:Nat} {Q:Option Bool->YB},i<n->Q (some (be lt left (gx b (a+i)) k)) st->YK prog w A E s (kP left (it k) (b.map it) a i) Q st:=λr q=>nv O l o () (p _ r) q;rw[kM];exact Yo (g f (wi (λe=>nt g mono h f e) λe=>nu g mono h f (Yu.mpr e)))
end
structure MInv (lt:Yd)(xs ys:Yi)(ia ib:Nat)(o:Yj):Prop where
 a:(o++xs.toList.drop ia).Pairwise (jJ lt)
 b:(o++ys.toList.drop ib).Pairwise (jJ lt)
 pm:(o++xs.toList.drop ia++ys.toList.drop ib).Perm (xs.toList++ys.toList)
def zy (lt:Yd)(a ys:Yi)(o:Yj):Prop:=o.Perm (a.toList++ys.toList)/\o.Pairwise (jJ lt)
section
variable {lt:Yd}{xs ys:Yi}{ia ib:Nat}{o:Yj}
theorem Xh {ix:Yi}{i:Nat}(h:i<ix.size):ix.toList.drop i=gx ix i::ix.toList.drop (i+1):=by
 rw[Uu (by simpa using h)];unfold gx;rw[UA h];simp
def Q5 {ix:Yi}{i:Nat}(h:i<ix.size):gx ix i∈ix.toList:=by
 simp_all [gx]
def EI {ix:Yi}{i x:Nat}(h:x∈ix.toList.drop i):∃j,i<=j/\j<ix.size/\x=gx ix j:=by
 obtain⟨j,a,e⟩:=Ju.mp h;have hz:i+j<ix.size:=by grind
 refine⟨i+j,(),hz,?_⟩
 simp_all [gx]
def MInv.addA {k:Nat}(M:MInv lt xs ys ia ib o)(h:∀c∈(xs.toList.drop ia).take k,∀y∈ys.toList.drop ib,jJ lt c y):MInv lt xs ys (ia+k) ib (o++(xs.toList.drop ia).take k):=by
 have e:xs.toList.drop ia=(xs.toList.drop ia).take k++xs.toList.drop (ia+k):=by rw[<- List.drop_drop,UM]
 have a:=M.a;have b:=M.b;have f:=M.pm;rw[e,<- Uh] at a f;refine⟨a,?_,f⟩;rw[VH] at a b ⊢;refine⟨a.1,b.2.1,λx i y g=>?_⟩;rcases Jb.mp i with z|z
 .exact b.2.2 x z y g
 .exact h x z y g
def MInv.addB {k:Nat}(M:MInv lt xs ys ia ib o)(g:∀c∈(ys.toList.drop ib).take k,∀x∈xs.toList.drop ia,jJ lt c x):MInv lt xs ys ia (ib+k) (o++(ys.toList.drop ib).take k):=by
 have e:ys.toList.drop ib=(ys.toList.drop ib).take k++ys.toList.drop (ib+k):=by rw[<- List.drop_drop,UM]
 have b:=M.a;have a:=M.b;have h:=M.pm;rw[e] at a h;rw[<- Uh] at a;refine⟨?_,a,?_⟩
 .rw[VH] at b a ⊢;refine⟨a.1,b.2.1,λx i y f=>?_⟩;rcases Jb.mp i with z|z
  .exact b.2.2 x z y f
  .exact g x z y f
 .exact by grind
def MInv.doneA (M:MInv lt xs ys ia ib o)(h:ys.size<=ib):zy lt xs ys (o++xs.toList.drop ia++ys.toList.drop ib):=by
 have e:=Vh ();refine⟨M.pm,?_⟩;rw[e,ZB];exact M.a
def MInv.doneB (M:MInv lt xs ys ia ib o)(h:xs.size<=ia):zy lt xs ys (o++xs.toList.drop ia++ys.toList.drop ib):=by
 refine⟨M.pm,?_⟩;rw[(Vh ()),ZB];exact M.b
def MInv.last (M:MInv lt xs ys ia ib o)(h:ia+1=xs.size)(a:∀y∈ys.toList,jJ lt y (gx xs ia)):zy lt xs ys (o++ys.toList.drop ib++xs.toList.drop ia):=by
 have e:xs.toList.drop ia=[gx xs ia]:=by
  grind[Xh,List.drop_eq_nil_of_le]
 have b:=M.a;have c:=M.b;refine⟨Vx ?_ M.pm,?_⟩
 .grind
 grind
def MInv.one (W:Wk lt)(M:MInv lt xs ys ia ib o)(a:ib<ys.size)(b:ia<xs.size)(q:lt (gx ys ib) (gx xs ia)=true):MInv lt xs ys ia (ib+1) (o++[gx ys ib]):=by
 have e:(ys.toList.drop ib).take 1=[gx ys ib]:=by rw[Xh a];rfl
 have:=M.addB λc f x g=>by
  rw[e] at f;rw[Jd.mp f];have hs:=(VH.mp M.a).2.1;rw[Xh b] at g hs;rcases Uq.mp g with z|z
  .rw[z];exact .inl q
  .exact jJ.trans W (.inl q) ((Ji.mp hs).1 x z)
 simp_all
def MInv.two (W:Wk lt)(f:∀x∈xs.toList,∀y∈ys.toList,x<y)(M:MInv lt xs ys ia ib o)(a:ib<ys.size)(b:ia<xs.size)(q:lt (gx ys ib) (gx xs ia)=false):MInv lt xs ys (ia+1) ib (o++[gx xs ia]):=by
 have e:(xs.toList.drop ia).take 1=[gx xs ia]:=by rw[Xh b];rfl
 have r:jJ lt (gx xs ia) (gx ys ib):=.inr ⟨q,f _ (Q5 b) _ (Q5 a)⟩;have:=M.addA λc g y h=>by
  rw[e] at g;rw[Jd.mp g];have hs:=(VH.mp M.b).2.1;rw[Xh a] at h hs;rcases Uq.mp h with z|z
  .rwa [z]
  .exact jJ.trans W r ((Ji.mp hs).1 y z)
 simp_all
end
def ar (it:Nat->Keyed)(o:Yj):Array Keyed:=(o.map it).toArray
section
variable {it:Nat->Keyed}{o:Yj}{xs ys:Yi}{i j k:Nat}
def EJ {x:Nat}:(ar it o).push (it x)=ar it (o++[x]):=by simp[ar]
def Ag:(xs.map it).extract i j=ar it ((xs.toList.take j).drop i):=by
 apply Vk;simp[ar,List.drop_take]
def Ah {p:Yj}:ar it o++ar it p=ar it (o++p):=by simp[ar]
def EK:(ar it o).reverse=ar it o.reverse:=by simp[ar]
def Ai {x:Nat} : #[it x]=ar it [x]:=by simp[ar]
def fu:(xs.toList.take (i+k)).drop i=(xs.toList.drop i).take k:=by simp_all [List.drop_take]
def Oc:(xs.toList.take xs.size).drop i=xs.toList.drop i:=by rw[UX ()]
theorem gv:ar it o++(xs.map it).extract i xs.size++(ys.map it).extract j ys.size=ar it (o++xs.toList.drop i++ys.toList.drop j):=by
 simp_all [Ag,Oc,Ah]
theorem Xi (h:xs.toList.Pairwise R)(b:i<j)(a:j<xs.size):R (gx xs i) (gx xs j):=by
 have:=Jj.mp h i j (by simp;lia) (by simpa using a) b;unfold gx;rw[UA (),UA a];simpa using this
def Cf {x:Nat}(h:x∈(xs.toList.drop i).take k):∃j,j<k/\i+j<xs.size/\x=gx xs (i+j):=by
 obtain⟨j,a,e⟩:=Ju.mp h;rw[Uy,List.length_drop] at a;have hz:i+j<xs.size:=by grind
 refine⟨j,(),hz,?_⟩
 simp_all [gx]
end
structure SEq (s t:SortSt):Prop where
 arr:arrOf t=arrOf s
 kd:kindOf t=kindOf s
 fl:failedOf t=failedOf s
 pd:pendingOf t=pendingOf s
theorem SEq.refl (s):SEq s s:=⟨rfl,rfl,rfl,rfl⟩
theorem SEq.trans {s t u:SortSt}(h:SEq s t)(k:SEq t u):SEq s u:=⟨k.arr.trans h.arr,k.kd.trans h.kd,k.fl.trans h.fl,k.pd.trans h.pd⟩
section
variable {lt:Yd}{xs ys:Yi}{ia ib m:Nat}{o:Yj}(W:Wk lt)
include W
theorem EL {k:Nat}(a:xs.toList.Pairwise (jJ lt)){n:Nat}(b:ia+n<=xs.size):∀i j,i<j->j<n->be lt false (gx xs (ia+j)) k=true->be lt false (gx xs (ia+i)) k=true:=λi j c e h=>by
 have h:(!lt k (gx xs (ia+j)))=true:=h;show(!lt k (gx xs (ia+i)))=true;cases q:lt k (gx xs (ia+i)) with
 |false=>rfl
 |true =>
  rcases W.neg _ (gx xs (ia+j)) _ q with z|z
  .simp_all
  grind[jJ.no,Xi]
theorem EM {k:Nat}(a:xs.toList.Pairwise (jJ lt)){n:Nat}(b:ia+n<=xs.size):∀i j,i<j->j<n->be lt true (gx xs (ia+j)) k=true->be lt true (gx xs (ia+i)) k=true:=λi j c e h=>by
 rcases W.neg _ (gx xs (ia+i)) _ h with z|z
 .grind[jJ.no,Xi]
 .exact z
theorem MInv.galA (a:∀x∈xs.toList,∀y∈ys.toList,x<y)(n:ys.toList.Pairwise (jJ lt))(M:MInv lt xs ys ia ib o)(b:ib<ys.size)(h:∀i,i<m->be lt false (gx xs (ia+i)) (gx ys ib)=true):MInv lt xs ys (ia+m) ib (o++(xs.toList.drop ia).take m):=by
 refine M.addA λc e y f=>?_;obtain⟨j,g,hz,rfl⟩:=Cf e;obtain⟨l,p,s,rfl⟩:=EI f;have q:(!lt (gx ys ib) (gx xs (ia+j)))=true:=h j g;have q:lt (gx ys ib) (gx xs (ia+j))=false:=by simpa using q
 have r:jJ lt (gx xs (ia+j)) (gx ys ib):=.inr ⟨q,a _ (Q5 hz) _ (Q5 b)⟩
 grind[jJ.trans,Xi]
theorem MInv.galB (f:xs.toList.Pairwise (jJ lt))(M:MInv lt xs ys ia ib o)(g:ia<xs.size)(h:∀i,i<m->be lt true (gx ys (ib+i)) (gx xs ia)=true):MInv lt xs ys ia (ib+m) (o++(ys.toList.drop ib).take m):=by
 refine M.addB λc a y b=>?_;obtain⟨j,e,hz,rfl⟩:=Cf a;obtain⟨l,n,p,rfl⟩:=EI b;have r:jJ lt (gx ys (ib+j)) (gx xs ia):=.inl (h j e)
 grind[jJ.trans,Xi]
end
section
variable {prog:Program}{w:World}{A:Around}{E:Ya}{s:Shared}{kind:SortKind}{it:Nat->Keyed}{lt:Yd}{N:Nat}{st:SortSt}
structure MH (lt:Yd)(N:Nat)(xs ys:Yi):Prop where
 W:Wk lt
 xn:∀x∈xs.toList,x<N
 yn:∀y∈ys.toList,y<N
 hxy:∀x∈xs.toList,∀y∈ys.toList,x<y
 px:xs.toList.Pairwise (jJ lt)
 py:ys.toList.Pairwise (jJ lt)
abbrev G7 (α β γ: Type):=Option KA × α × β × γ × Nat×Nat×Nat
abbrev G6 (α β γ: Type):=Option KA × α × β × γ × Nat×Nat
abbrev G5 (α β γ: Type):=Option KA × α × β × γ × Nat
def Aj:Nat->SM PUnit:=sortPriv% PySem.Builtin.setMinGallop
def Cg {m:Nat}{a:SortSt}{Q:PUnit->YB}(b:SEq a st)(h:∀s',SEq a s'->Q ⟨⟩ s'):YK prog w A E s (Aj m) Q st:=wpS_modify (h _ (b.trans ⟨rfl,rfl,rfl,rfl⟩))
section
variable {α β γ: Type}(n:Nat)(f:Nat -> α -> β -> γ -> Nat->Nat->SM (ForInStep (G6 α β γ)))(k:α -> β -> γ -> Nat->Nat->Nat->SM (ForInStep (G7 α β γ)))
noncomputable def mC (c:G7 α β γ):SM (ForInStep (G5 α β γ)):=match c.1 with
 |some r=>pure (.done (some r,c.2.1,c.2.2.1,c.2.2.2.1,c.2.2.2.2.1))
 |none=>Aj (c.2.2.2.2.1+1) >>= λ_=>pure (.yield (none,c.2.1,c.2.2.1,c.2.2.2.1,c.2.2.2.2.1+1))
noncomputable def m2 (x:α)(y:β)(z:γ)(mg ac bc:Nat):SM (ForInStep (G7 α β γ)):=if mg > 1 then k x y z ac bc (mg-1) else k x y z ac bc mg
noncomputable def mB (mg:Nat)(c:G6 α β γ):SM (ForInStep (G5 α β γ)):=match c.1 with
 |some r=>pure (.done (some r,c.2.1,c.2.2.1,c.2.2.2.1,mg))
 |none=>(liftM (rule "list.sort.gallop"):SM PUnit) >>= λ_=>(forIn [:n] ((none,c.2.1,c.2.2.1,c.2.2.2.1,mg+1,c.2.2.2.2.1,c.2.2.2.2.2):G7 α β γ) λ_ c=>m2 k c.2.1 c.2.2.1 c.2.2.2.1 c.2.2.2.2.1 c.2.2.2.2.2.1 c.2.2.2.2.2.2) >>= mC
noncomputable def mA (c:G5 α β γ):SM (ForInStep (G5 α β γ)):=
 (forIn [:n] ((none,c.2.1,c.2.2.1,c.2.2.2.1,0,0):G6 α β γ) λ_ d=>f c.2.2.2.2 d.2.1 d.2.2.1 d.2.2.2.1 d.2.2.2.2.1 d.2.2.2.2.2) >>= mB n k c.2.2.2.2
noncomputable def mT (x:α)(y:β)(z:γ):SM KA:=get >>= λs=>(forIn [:n] ((none,x,y,z,gallopOf s):G5 α β γ) λ_ c=>mA n f k c) >>= λc=>match c.1 with
 |some r=>pure r
 |none=>liftM (unsupported "internal:list.sort.merge-bound")
variable {n f k}{P:Nat -> α -> β -> γ -> Prop}{D:KA->Prop}
structure MR (P:α -> β -> γ -> Prop)(D:KA->Prop)(st0:SortSt)(R:ForInStep (G7 α β γ)->YB):Prop where
 dn:∀{v t sy},SEq st0 sy->D v->R (.done (some v,t)) sy
 go:∀{x y z mg ac bc sy},SEq st0 sy->P x y z->R (.done (none,x,y,z,mg,ac,bc)) sy/\R (.yield (none,x,y,z,mg,ac,bc)) sy
def cG {x:α}{y:β}{z:γ}{mg ac bc:Nat}{R:ForInStep (G7 α β γ)->YB}(h:∀mg,YK prog w A E s (k x y z ac bc mg) R st):YK prog w A E s (m2 k x y z mg ac bc) R st:=wi (λ_=>h _) λ_=>h _
def rO {x:α}{y:β}{z:γ}{Q:KA->YB}(m:kindOf st=kind)(o:P 1 x y z)(q:∀{g x y z},P g x y z->1<=n/\g<=n)(le:∀{g l x y z},P g x y z->l<=g->P l x y z)
 (r:∀{g mg x y z ac bc st} {R:ForInStep (G6 α β γ)->YB},kindOf st=kind->P g x y z->(∀{v t},D v->R (.done (some v,t)) st)->(∀{x y z ac bc},P (g+1) x y z->R (.done (none,x,y,z,ac,bc)) st/\R (.yield (none,x,y,z,ac,bc)) st)->YK prog w A E s (f mg x y z ac bc) R st)
 (u:∀{g x y z ac bc mg i R},MR (P g) D st R->SEq st i->P g x y z->YK prog w A E s (k x y z ac bc mg) R i)
 (h:∀{v i},SEq st i->D v->Q v i):YK prog w A E s (mT n f k x y z) Q st:=by
 refine Yo (wpS_get (Yo (Yq (Yr (I:=λg c j=>SEq st j/\c.1=none/\P (g+1) c.2.1 c.2.2.1 c.2.2.2.1) (Q:=λc j=>SEq st j/\∃v,D v/\c.1=some v) ?_ ?_ ⟨.refl _,rfl,o⟩) ?_)))
 .rintro g c j _ _ ⟨a,_,p⟩;refine Yo (Yq (Yr (I:=λy c b=>b=j/\c.1=none/\P (g+1+y) c.2.1 c.2.2.1 c.2.2.2.1) (Q:=λc b=>b=j/\((∃v,D v/\c.1=some v)\/c.1=none/\P (g+2) c.2.1 c.2.2.1 c.2.2.2.1)) ?_ ?_ ⟨rfl,rfl,p⟩) ?_)
  .rintro y c b _ _ ⟨rfl,_,p⟩;exact r (a.kd.trans m) p (λd=>⟨rfl,.inl ⟨_,d,rfl⟩⟩) λp=>⟨⟨rfl,.inr ⟨rfl,le p ()⟩⟩,rfl,rfl,p⟩
  .rintro c b ⟨rfl,e,p⟩;exact()
  .rintro c b ⟨rfl,⟨v,d,e⟩|⟨e,p⟩⟩
   .unfold mB;rw[e];exact Yp ⟨a,v,d,rfl⟩
   .unfold mB;rw[e];refine Yo (wpS_lift (wpAny_rule ⟨rfl,?_⟩));refine Yo (Yq (Yr (I:=λ_ c b=>SEq st b/\c.1=none/\P (g+2) c.2.1 c.2.2.1 c.2.2.2.1) (Q:=λc b=>SEq st b/\((∃v,D v/\c.1=some v)\/c.1=none/\P (g+2) c.2.1 c.2.2.1 c.2.2.2.1)) ?_ (λc b h=>⟨h.1,.inr h.2⟩) ⟨a,rfl,p⟩) ?_)
    .rintro y c b _ _ ⟨a,_,p⟩;exact cG λ_=>u ⟨λa d=>⟨a,.inl ⟨_,d,rfl⟩⟩,λa p=>⟨⟨a,.inr ⟨rfl,p⟩⟩,a,rfl,p⟩⟩ a p
    .rintro c b ⟨a,⟨v,d,e⟩|⟨e,p⟩⟩
     .unfold mC;rw[e];exact Yp ⟨a,v,d,rfl⟩
     .unfold mC;rw[e];exact Yo (Cg a λb a=>Yp ⟨a,rfl,p⟩)
 .rintro c j ⟨_,_,p⟩;have:=(q p).2;lia
 grind[PyProof.Rows.wpS_pure]
end
theorem sz {a:Yi}:(a.map it).size=a.size:=Ul
def bz {a:Yi}{p:Nat}(h:(p == (a.map it).size)=true):p=a.size:=()
def nz {a:Yi}{p:Nat}(h:¬(p == (a.map it).size)=true):p≠a.size:=()
def wZ {v:KA}{o:Yj}{x:Nat}(e:v=ar it o):v.push (it x)=ar it (o++[x]):=by rw[e,EJ]
def zK {a:Yi}{v:KA}{o:Yj}{i k:Nat}(e:v=ar it o):v++(a.map it).extract i (i+k)=ar it (o++(a.toList.drop i).take k):=by rw[e,Ag,fu,Ah]
def MD (lt:Yd)(it:Nat->Keyed)(a ys:Yi)(v:KA):Prop:=∃o,zy lt a ys o/\v=ar it o
abbrev L7:=G7 KA Nat Nat
def wa (a b o:KA)(i j:Nat):KA:=o++a.extract i a.size++b.extract j b.size
def vE (a b o:KA)(i j:Nat):KA:=o++b.extract j b.size++a.extract i a.size
noncomputable def mU (a b:KA)(mg ac bc i:Nat)(o:KA)(j:Nat):SM (ForInStep L7):=
 elem' a i >>= λx=>if(i+1+1 == a.size)=true then pure (.done (some (vE a b (o.push x) (i+1) j),o.push x,i+1,j,mg,ac,bc))
  else if(decide (ac<7)&&decide (bc<7))=true then pure (.done (none,o.push x,i+1,j,mg,ac,bc)) else pure (.yield (none,o.push x,i+1,j,mg,ac,bc))
noncomputable def rP (a b:KA)(mg ac i:Nat)(o:KA)(j k:Nat):SM (ForInStep L7):=
 if k > 0 then if(j+k == b.size)=true then pure (.done (some (wa a b (o++b.extract j (j+k)) i (j+k)),o++b.extract j (j+k),i,j+k,mg,ac,k))
  else mU a b mg ac k i (o++b.extract j (j+k)) (j+k) else mU a b mg ac k i o j
noncomputable def mV (a b:KA)(mg ac bc j:Nat)(o:KA)(i:Nat):SM (ForInStep L7):=
 elem' b j >>= λx=>if(j+1 == b.size)=true then pure (.done (some (wa a b (o.push x) i (j+1)),o.push x,i,j+1,mg,ac,bc))
  else elem' a i >>= λy=>Wf true y b (j+1) (b.size-(j+1)) 0 >>= λr=>match r with
   |some k=>rP a b mg ac i (o.push x) (j+1) k
   |_=>pure (.done (some (wa a b (o.push x) i (j+1)),o.push x,i,j+1,mg,ac,bc))
noncomputable def cH (a b:KA)(bc j:Nat)(o:KA)(i mg k:Nat):SM (ForInStep L7):=
 if k > 0 then if(i+k+1 == a.size)=true then pure (.done (some (vE a b (o++a.extract i (i+k)) (i+k) j),o++a.extract i (i+k),i+k,j,mg,k,bc))
  else if(i+k == a.size)=true then pure (.done (some (wa a b (o++a.extract i (i+k)) (i+k) j),o++a.extract i (i+k),i+k,j,mg,k,bc))
  else mV a b mg k bc j (o++a.extract i (i+k)) (i+k) else mV a b mg k bc j o i
noncomputable def rQ (a b o:KA)(i j ac bc mg:Nat):SM (ForInStep L7):=
 Aj mg >>= λ_=>elem' b j >>= λx=>Wf false x a i (a.size-i) 0 >>= λr=>match r with
  |some k=>cH a b bc j o i mg k
  |_=>pure (.done (some (wa a b o i j),o,i,j,mg,ac,bc))
noncomputable def wx (a b:KA)(mg:Nat)(o:KA)(i j ac bc:Nat):SM (ForInStep (G6 KA Nat Nat)):=
 elem' b j >>= λx=>elem' a i >>= λy=>lt' x y >>= λr=>match r with
  |some t=>if t=true then elem' b j >>= λx=>if(j+1 == b.size)=true then pure (.done (some (wa a b (o.push x) i (j+1)),o.push x,i,j+1,0,bc+1))
   else if bc+1 ≥ mg then pure (.done (none,o.push x,i,j+1,0,bc+1)) else pure (.yield (none,o.push x,i,j+1,0,bc+1))
   else elem' a i >>= λx=>if(i+1+1 == a.size)=true then pure (.done (some (vE a b (o.push x) (i+1) j),o.push x,i+1,j,ac+1,0))
    else if ac+1 ≥ mg then pure (.done (none,o.push x,i+1,j,ac+1,0)) else pure (.yield (none,o.push x,i+1,j,ac+1,0))
  |_=>pure (.done (some (wa a b o i j),o,i,j,ac,bc))
set_option smartUnfolding false in
noncomputable def k8 {a b:KA}:Cd a b=((liftM (rule "list.sort.merge-lo"):SM PUnit) >>= λ_=>elem' b 0 >>= λx=>if(1 == b.size)=true then pure (wa a b #[x] 0 1) else if(0+1 == a.size)=true then pure (vE a b #[x] 0 1)
 else mT (a.size+b.size) (wx a b) (rQ a b) #[x] 0 1):=rfl
end
structure LI (lt:Yd)(xs ys:Yi)(g i j:Nat)(o:Yj):Prop where
 M:MInv lt xs ys i j o
 a:i+1<xs.size
 b:j<ys.size
 g:g<=i+j
def LP (lt:Yd)(it:Nat->Keyed)(a ys:Yi)(g:Nat)(v:KA)(i j:Nat):Prop:=∃o,LI lt a ys g i j o/\v=ar it o
section
variable {prog:Program}{w:World}{A:Around}{E:Ya}{s:Shared}{kind:SortKind}{it:Nat->Keyed}{lt:Yd}{N:Nat}{st st0:SortSt}{xs ys:Yi}{g mg ac bc i j k:Nat}{o:Yj}{v:KA}{R:ForInStep L7->YB}
def XR (e:v=ar it o):wa (xs.map it) (ys.map it) v i j=ar it (o++xs.toList.drop i++ys.toList.drop j):=by
 grind[wa,sz,gv]
def Ak (e:v=ar it o):vE (xs.map it) (ys.map it) v i j=ar it (o++ys.toList.drop j++xs.toList.drop i):=by
 grind[vE,sz,gv]
variable (lst:∀y∈ys.toList,jJ lt y (gx xs (xs.size-1)))
include lst
theorem hF (M:MInv lt xs ys i j o)(z:i+1=xs.size):zy lt xs ys (o++ys.toList.drop j++xs.toList.drop i):=M.last z ()
variable (H:MH lt N xs ys)(L:LI lt xs ys g i j o)(e:v=ar it o)
include H L e
section
variable (C:MR (LP lt it xs ys g) (MD lt it xs ys) st0 R)(se:SEq st0 st)
include C se
theorem k9 (q:lt (gx ys j) (gx xs i)=false):YK prog w A E s (mU (xs.map it) (ys.map it) mg ac bc i v j) R st:=by
 have a:=UY L.a;refine Yo (Qy a ?_);have M2:=L.M.two H.W H.hxy L.b a q;refine wi (λz=>Yp (C.dn se ⟨_,hF lst M2 (bz z),Ak (wZ e)⟩)) λz=>?_;have b:=C.go (mg:=mg) (ac:=ac) (bc:=bc) se ⟨_,⟨M2,UD L.a (nz z),L.b,by have:=L.g;lia⟩,wZ e⟩;exact wi (λ_=>Yp b.1) λ_=>Yp b.2
theorem mQ (k2:j+k<=ys.size)(k3:∀m,m<k->be lt true (gx ys (j+m)) (gx xs i)=true)(q:j+k<ys.size->lt (gx ys (j+k)) (gx xs i)=false):YK prog w A E s (rP (xs.map it) (ys.map it) mg ac i v j k) R st:=by
 refine wi (λk0=>?_) λk0=>?_
 .have a:=L.M.galB H.W H.px (UY L.a) k3;refine wi (λz=>Yp (C.dn se ⟨_,a.doneA (Yx (bz z).symm),XR (zK e)⟩)) λz=>?_;have b:=UD k2 (nz z);exact k9 lst H ⟨a,L.a,b,by have:=L.g;lia⟩ (zK e) C se (q b)
 .have c:=Nat.eq_zero_of_not_pos k0;subst c;exact k9 lst H L e C se (q L.b)
variable (O:yh prog w A s kind it lt N)(kd:kindOf st0=kind)
include O kd
theorem kA (q:lt (gx ys j) (gx xs i)=true):YK prog w A E s (mV (xs.map it) (ys.map it) mg ac bc j v i) R st:=by
 have a:=UY L.a;refine Yo (Qy L.b ?_);have c:=L.M.one H.W L.b a q;refine wi (λz=>Yp (C.dn se ⟨_,c.doneA (),XR (wZ e)⟩)) λz=>?_;have b:=UD L.b (nz z);have z:(ys.map it).size=ys.size:=sz;exact Yo (Qy a (Yo (Xg O (se.kd.trans kd) (H.xn _ (Q5 a)) () (λi h=>H.yn _ (Q5 ())) () (EM H.W H.py ()) λk k2 k3 f=>(mQ lst H ⟨c,L.a,b,by have:=L.g;lia⟩ (wZ e) C se () k3 λy=>f k (Zf _) ()))))
theorem mR:YK prog w A E s (rQ (xs.map it) (ys.map it) v i j ac bc mg) R st:=by
 have a:=L.a;have z:(xs.map it).size=xs.size:=sz;refine Yo (Cg se λst se=>Yo (Qy L.b (Yo (Xg O (se.kd.trans kd) (H.yn _ (Q5 L.b)) () (λi h=>H.xn _ (Q5 ())) () (EL H.W H.px ()) λk k2 k3 f=>?_))));have q:=λhz=>by
  have:(!lt (gx ys j) (gx xs (i+k)))=false:=f k (Zf _) ();simpa using this
 refine wi (λk0=>?_) λk0=>?_
 .have M2:=L.M.galA H.W H.hxy H.py L.b k3;refine wi (λz=>Yp (C.dn se ⟨_,hF lst M2 (bz z),Ak (zK e)⟩)) λb=>wi (λz=>Yp (C.dn se ⟨_,M2.doneB (),XR (zK e)⟩)) λc=>?_;have b:=nz b;have c:=nz c;exact kA lst H ⟨M2,(),L.b,by have:=L.g;lia⟩ (zK e) C se O kd (q ())
 grind[kA]
end
theorem mS {R:ForInStep (G6 KA Nat Nat)->YB}(O:yh prog w A s kind it lt N)(f:kindOf st=kind)(c:∀{v t},MD lt it xs ys v->R (.done (some v,t)) st)(go:∀{v i j ac bc},LP lt it xs ys (g+1) v i j->R (.done (none,v,i,j,ac,bc)) st/\R (.yield (none,v,i,j,ac,bc)) st):
 YK prog w A E s (wx (xs.map it) (ys.map it) mg v i j ac bc) R st:=by
 have a:=UY L.a;refine Yo (Qy L.b (Yo (Qy a (Yo (XQ O f (H.yn _ (Q5 L.b)) (H.xn _ (Q5 a)) (wi (λq=>Yo (Qy L.b ?_)) λq=>Yo (Qy a ?_)))))))
 .have M2:=L.M.one H.W L.b a q;refine wi (λz=>Yp (c ⟨_,M2.doneA (),XR (wZ e)⟩)) λz=>?_;have b:=go (ac:=0) (bc:=bc+1) ⟨_,⟨M2,L.a,UD L.b (nz z),Vy L.g⟩,wZ e⟩;exact wi (λ_=>Yp b.1) λ_=>Yp b.2
 .have M2:=L.M.two H.W H.hxy L.b a ();refine wi (λz=>Yp (c ⟨_,hF lst M2 (bz z),Ak (wZ e)⟩)) λz=>?_;have b:=go (ac:=ac+1) (bc:=0) ⟨_,⟨M2,UD L.a (nz z),L.b,by have:=L.g;lia⟩,wZ e⟩;exact wi (λ_=>Yp b.1) λ_=>Yp b.2
end
section
variable {prog:Program}{w:World}{A:Around}{E:Ya}{s:Shared}{kind:SortKind}{it:Nat->Keyed}{lt:Yd}{N:Nat}{st:SortSt}{xs ys:Yi}
def Od {Q:Array Keyed->YB}(H:MH lt N xs ys)(O:yh prog w A s kind it lt N)(b:kindOf st=kind)(l:1<=xs.size)(f:1<=ys.size)(c:lt (gx ys 0) (gx xs 0)=true)(lst:∀y∈ys.toList,jJ lt y (gx xs (xs.size-1)))
 (h:∀o a,SEq st a->zy lt xs ys o->Q (ar it o) a):YK prog w A E s (Cd (xs.map it) (ys.map it)) Q st:=by
 have M1:MInv lt xs ys 0 1 [gx ys 0]:=(MInv.one (o:=[]) (ia:=0) (ib:=0) H.W ⟨H.px,H.py,Vz _⟩ f l c);rw[k8];refine Yo (wpS_lift (wpAny_rule ⟨rfl,Yo (Qy f (wi (λz=>?_) λg=>wi (λz=>?_) λi=>?_))⟩))
 .rw[XR Ai];exact Yp (h _ _ (.refl _) (M1.doneA ()))
 .rw[Ak Ai];exact Yp (h _ _ (.refl _) (hF lst M1 (bz z)))
 have g:=nz g;have i:=nz i;have n:LI lt xs ys 1 0 1 [gx ys 0]:=⟨M1,(),(),()⟩;have q:(xs.map it).size=xs.size:=sz;have r:(ys.map it).size=ys.size:=sz;exact rO (P:=LP lt it xs ys) b ⟨_,n,Ai⟩ (λp=>by
  obtain⟨_,L,_⟩:=p;have:=L.a;have:=L.b;have:=L.g;lia) (λ⟨o,L,e⟩ h=>⟨o,⟨L.M,L.a,L.b,Zh h L.g⟩,e⟩) (λb ⟨_,L,e⟩ dn go=>mS lst H L e O b dn go) (λC j ⟨_,L,e⟩=>mR lst H L e C j O b) λj ⟨o,m,e⟩=>by simp_all
end
structure MInvH (lt:Yd)(xs ys:Yi)(na nb:Nat)(o:Yj):Prop where
 a:(xs.toList.take na++o).Pairwise (jJ lt)
 b:(ys.toList.take nb++o).Pairwise (jJ lt)
 pm:(xs.toList.take na++ys.toList.take nb++o).Perm (xs.toList++ys.toList)
section
variable {it:Nat->Keyed}{o:Yj}{xs ys:Yi}{i j k:Nat}
def Oe {x:Nat}:(ar it o.reverse).push (it x)=ar it (x::o).reverse:=by rw[EJ,List.reverse_cons]
def Og {p:Yj}:ar it o.reverse++(ar it p).reverse=ar it (p++o).reverse:=by rw[EK,Ah,List.reverse_append]
def n7:(xs.map it).extract 0 i++(ys.map it).extract 0 j++(ar it o.reverse).reverse=ar it (xs.toList.take i++ys.toList.take j++o):=by
 simp_all [Ag,EK,Ah]
def EN (h:i<=j):xs.toList.take j=xs.toList.take i++(xs.toList.take j).drop i:=by
 grind[List.take_append_drop]
def Ch {x:Nat}(h:x∈(xs.toList.take j).drop i):∃l,i<=l/\l<j/\l<xs.size/\x=gx xs l:=by
 obtain⟨m,a,e⟩:=Ju.mp h;rw[List.length_drop,Uy] at a;have hz:i+m<xs.size:=by grind
 refine⟨i+m,(),(),hz,?_⟩
 simp_all [gx]
def Ci (h:j<=xs.size)(a:1<=j):(xs.toList.take j).drop (j-1)=[gx xs (j-1)]:=by
 grind[List.drop_take,Xh]
def EO {x:Nat}(h:x∈xs.toList.take j):∃l,l<j/\l<xs.size/\x=gx xs l:=have ⟨l,_,a,b,c⟩:=Ch (i:=0) ();⟨l,a,b,c⟩
end
section
variable {lt:Yd}{xs ys:Yi}{na nb m:Nat}{o:Yj}
def MInvH.addA (M:MInvH lt xs ys na nb o)(f:m<=na)(g:∀c∈(xs.toList.take na).drop m,∀y∈ys.toList.take nb,jJ lt y c):MInvH lt xs ys m nb ((xs.toList.take na).drop m++o):=by
 have a:=M.a;have b:=M.b;have h:=M.pm;rw[(EN f)] at a h;rw[Uh] at a;refine⟨a,?_,?_⟩
 .rw[VH] at a b ⊢;refine⟨b.1,a.2.1,λy e x i=>?_⟩;rcases Jb.mp i with z|z
  .exact g x z y e
  .exact b.2.2 y e x z
 grind
def MInvH.addB (M:MInvH lt xs ys na nb o)(f:m<=nb)(g:∀c∈(ys.toList.take nb).drop m,∀x∈xs.toList.take na,jJ lt x c):MInvH lt xs ys na m ((ys.toList.take nb).drop m++o):=by
 have b:=M.a;have a:=M.b;have h:=M.pm;rw[(EN f)] at a h;rw[Uh] at a;refine⟨?_,a,?_⟩
 .rw[VH] at b a ⊢;refine⟨b.1,a.2.1,λy e x i=>?_⟩;rcases Jb.mp i with z|z
  .exact g x z y e
  .exact b.2.2 y e x z
 simp_all
def MInvH.doneA (M:MInvH lt xs ys na nb o)(h:na=0):zy lt xs ys (xs.toList.take na++ys.toList.take nb++o):=by
 refine⟨M.pm,?_⟩;rw[h,List.take_zero,List.nil_append];exact M.b
def MInvH.doneB (M:MInvH lt xs ys na nb o)(h:nb=0):zy lt xs ys (xs.toList.take na++ys.toList.take nb++o):=by
 refine⟨M.pm,?_⟩;rw[h,List.take_zero,ZB];exact M.a
def MInvH.first (M:MInvH lt xs ys na nb o)(h:nb=1)(a:1<=ys.size)(b:∀x∈xs.toList,jJ lt (gx ys 0) x):zy lt xs ys (ys.toList.take nb++xs.toList.take na++o):=by
 have c:=M.a;have f:=M.b;have e:ys.toList.take 1=[gx ys 0]:=by
  have:=Ci a (Zf _)
  simp_all
 refine⟨Vx () M.pm,?_⟩
 grind
variable (W:Wk lt)
include W
theorem MInvH.galA (n:ys.toList.Pairwise (jJ lt))(M:MInvH lt xs ys na nb o)(a:m<=na)(p:1<=nb)(q:nb<=ys.size)(h:∀i,m<=i->i<na->lt (gx ys (nb-1)) (gx xs i)=true):MInvH lt xs ys m nb ((xs.toList.take na).drop m++o):=by
 refine M.addA a λc b y e=>?_;obtain⟨j,f,g,s,rfl⟩:=Ch b;obtain⟨l,t,u,rfl⟩:=EO e;have r:jJ lt (gx ys (nb-1)) (gx xs j):=.inl (h j f g)
 grind[jJ.trans,Xi]
theorem MInvH.galB (a:∀x∈xs.toList,∀y∈ys.toList,x<y)(q:xs.toList.Pairwise (jJ lt))(M:MInvH lt xs ys na nb o)(b:m<=nb)(s:1<=na)(t:na<=xs.size)(h:∀i,m<=i->i<nb->lt (gx ys i) (gx xs (na-1))=false):MInvH lt xs ys na m ((ys.toList.take nb).drop m++o):=by
 refine M.addB b λc e x f=>?_;obtain⟨j,g,n,p,rfl⟩:=Ch e;obtain⟨l,u,v,rfl⟩:=EO f;have r:jJ lt (gx xs (na-1)) (gx ys j):=.inr ⟨h j g n,a _ (Q5 ()) _ (Q5 p)⟩
 grind[jJ.trans,Xi]
theorem MInvH.one (a:ys.toList.Pairwise (jJ lt))(M:MInvH lt xs ys na nb o)(b:1<=na)(c:na<=xs.size)(e:1<=nb)(f:nb<=ys.size)(q:lt (gx ys (nb-1)) (gx xs (na-1))=true):MInvH lt xs ys (na-1) nb (gx xs (na-1)::o):=by
 have:=M.galA (m:=na-1) W a () e f ()
 rwa [Ci c b] at this
theorem MInvH.two (a:∀x∈xs.toList,∀y∈ys.toList,x<y)(b:xs.toList.Pairwise (jJ lt))(M:MInvH lt xs ys na nb o)(c:1<=na)(e:na<=xs.size)(f:1<=nb)(g:nb<=ys.size)(q:lt (gx ys (nb-1)) (gx xs (na-1))=false):MInvH lt xs ys na (nb-1) (gx ys (nb-1)::o):=by
 have:=M.galB (m:=nb-1) W a b () c e ()
 rwa [Ci g f] at this
end
abbrev H7:=G7 Nat Nat KA
def yY (a b:KA)(i j:Nat)(o:KA):KA:=a.extract 0 i++b.extract 0 j++o.reverse
noncomputable def nj (a b:KA)(mg ac bc i j:Nat)(o:KA):SM (ForInStep H7):=
 elem' a (i-1) >>= λx=>if(i-1 == 0)=true then pure (.done (some (yY a b (i-1) j (o.push x)),i-1,j,o.push x,mg,ac,bc))
  else if(decide (ac<7)&&decide (bc<7))=true then pure (.done (none,i-1,j,o.push x,mg,ac,bc)) else pure (.yield (none,i-1,j,o.push x,mg,ac,bc))
noncomputable def rS (a b:KA)(mg ac i j:Nat)(o:KA)(t:Nat):SM (ForInStep H7):=
 if j-t > 0 then if(t == 1)=true then pure (.done (some (yY b a t i (o++(b.extract t j).reverse)),i,t,o++(b.extract t j).reverse,mg,ac,j-t))
  else if(t == 0)=true then pure (.done (some (yY a b i t (o++(b.extract t j).reverse)),i,t,o++(b.extract t j).reverse,mg,ac,j-t))
  else nj a b mg ac (j-t) i t (o++(b.extract t j).reverse) else nj a b mg ac (j-t) i j o
noncomputable def nq (a b:KA)(mg ac bc j i:Nat)(o:KA):SM (ForInStep H7):=
 elem' b (j-1) >>= λx=>if(j-1 == 1)=true then pure (.done (some (yY b a (j-1) i (o.push x)),i,j-1,o.push x,mg,ac,bc))
  else elem' a (i-1) >>= λy=>Wf true y b 0 (j-1) (j-1-1) >>= λr=>match r with
   |some t=>rS a b mg ac i (j-1) (o.push x) t
   |_=>pure (.done (some (yY a b i (j-1) (o.push x)),i,j-1,o.push x,mg,ac,bc))
noncomputable def cI (a b:KA)(bc j i:Nat)(o:KA)(mg t:Nat):SM (ForInStep H7):=
 if i-t > 0 then if(t == 0)=true then pure (.done (some (yY a b t j (o++(a.extract t i).reverse)),t,j,o++(a.extract t i).reverse,mg,i-t,bc))
  else nq a b mg (i-t) bc j t (o++(a.extract t i).reverse) else nq a b mg (i-t) bc j i o
noncomputable def rT (a b:KA)(i j:Nat)(o:KA)(ac bc mg:Nat):SM (ForInStep H7):=
 Aj mg >>= λ_=>elem' b (j-1) >>= λx=>Wf false x a 0 i (i-1) >>= λr=>match r with
  |some t=>cI a b bc j i o mg t
  |_=>pure (.done (some (yY a b i j o),i,j,o,mg,ac,bc))
noncomputable def rV (a b:KA)(mg i j:Nat)(o:KA)(ac bc:Nat):SM (ForInStep (G6 Nat Nat KA)):=
 elem' b (j-1) >>= λx=>elem' a (i-1) >>= λy=>lt' x y >>= λr=>match r with
  |some t=>if t=true then elem' a (i-1) >>= λx=>if(i-1 == 0)=true then pure (.done (some (yY a b (i-1) j (o.push x)),i-1,j,o.push x,ac+1,0))
   else if ac+1 ≥ mg then pure (.done (none,i-1,j,o.push x,ac+1,0)) else pure (.yield (none,i-1,j,o.push x,ac+1,0))
   else elem' b (j-1) >>= λx=>if(j-1 == 1)=true then pure (.done (some (yY b a (j-1) i (o.push x)),i,j-1,o.push x,0,bc+1))
    else if bc+1 ≥ mg then pure (.done (none,i,j-1,o.push x,0,bc+1)) else pure (.yield (none,i,j-1,o.push x,0,bc+1))
  |_=>pure (.done (some (yY a b i j o),i,j,o,ac,bc))
set_option smartUnfolding false in
noncomputable def kJ {a b:KA}:Ce a b=((liftM (rule "list.sort.merge-hi"):SM PUnit) >>= λ_=>elem' a (a.size-1) >>= λx=>if(a.size-1 == 0)=true then pure (yY a b (a.size-1) b.size #[x]) else if(b.size == 1)=true then pure (yY b a b.size (a.size-1) #[x])
 else mT (a.size+b.size) (rV a b) (rT a b) (a.size-1) b.size #[x]):=rfl
structure HI (lt:Yd)(xs ys:Yi)(g i j:Nat)(o:Yj):Prop where
 M:MInvH lt xs ys i j o
 a:1<=i
 b:2<=j
 ax:i<=xs.size
 bx:j<=ys.size
 g:g+i+j<=xs.size+ys.size
def HL (lt:Yd)(it:Nat->Keyed)(a ys:Yi)(g i j:Nat)(v:KA):Prop:=∃o,HI lt a ys g i j o/\v=ar it o.reverse
section
variable {prog:Program}{w:World}{A:Around}{E:Ya}{s:Shared}{kind:SortKind}{it:Nat->Keyed}{lt:Yd}{N:Nat}{st st0:SortSt}{xs ys:Yi}{g mg ac bc i j k t:Nat}{o:Yj}{v:KA}{R:ForInStep H7->YB}
def KY (e:v=ar it o.reverse):yY (xs.map it) (ys.map it) i j v=ar it (xs.toList.take i++ys.toList.take j++o):=by
 unfold yY;rw[e,n7]
def yA {x:Nat}(e:v=ar it o.reverse):v.push (it x)=ar it (x::o).reverse:=by rw[e,Oe]
def zL (e:v=ar it o.reverse):v++((xs.map it).extract t i).reverse=ar it ((xs.toList.take i).drop t++o).reverse:=by rw[e,Ag,Og]
variable (fst:∀x∈xs.toList,jJ lt (gx ys 0) x)(H:MH lt N xs ys)(L:HI lt xs ys g i j o)(e:v=ar it o.reverse)
include fst H L e
section
variable (C:MR (HL lt it xs ys g) (MD lt it xs ys) st0 R)(se:SEq st0 st)
include C se
theorem kK (q:lt (gx ys (j-1)) (gx xs (i-1))=true):YK prog w A E s (nj (xs.map it) (ys.map it) mg ac bc i j v) R st:=by
 have a:=L.a;have c:=L.ax;refine Yo (Qy () ?_);have M2:=L.M.one H.W H.py a c (Uz L.b) L.bx q;refine wi (λz=>Yp (C.dn se ⟨_,M2.doneA (Ys.mp z),KY (yA e)⟩)) λz=>?_;have b:=C.go (mg:=mg) (ac:=ac) (bc:=bc) se ⟨_,⟨M2,(),L.b,(),L.bx,by have:=L.g;lia⟩,yA e⟩;exact wi (λ_=>Yp b.1) λ_=>Yp b.2
theorem nc (f:t<=j)(p:∀m,t<=m->m<j->lt (gx ys m) (gx xs (i-1))=false)(q:1<=t->lt (gx ys (t-1)) (gx xs (i-1))=true):YK prog w A E s (rS (xs.map it) (ys.map it) mg ac i j v t) R st:=by
 have b:=L.b;have c:=L.bx;refine wi (λk0=>?_) λk0=>?_
 .have a:=L.M.galB H.W H.hxy H.px f L.a L.ax p;refine wi (λz=>Yp (C.dn se ⟨_,a.first (Ys.mp z) () fst,KY (zL e)⟩)) λh=>wi (λz=>Yp (C.dn se ⟨_,a.doneB (Ys.mp z),KY (zL e)⟩)) λl=>?_;have n:2<=t:=by
   have h:t≠1:=λy=>h (Ys.mpr y);have l:t≠0:=λy=>l (Ys.mpr y);lia
  exact kK fst H ⟨a,L.a,n,L.ax,Zh f c,by have:=L.g;lia⟩ (zL e) C se (q (Uz n))
 .have r:t=j:=()
  subst r;exact kK fst H L e C se (q (Uz b))
variable (O:yh prog w A s kind it lt N)(kd:kindOf st0=kind)
include O kd
theorem kL (q:lt (gx ys (j-1)) (gx xs (i-1))=false):YK prog w A E s (nq (xs.map it) (ys.map it) mg ac bc j i v) R st:=by
 have a:=L.a;have b:=L.b;have c:=L.bx;have c2:=L.ax;refine Yo (Qy () ?_);have f:=L.M.two H.W H.hxy H.px a c2 (Uz b) c q;refine wi (λz=>Yp (C.dn se ⟨_,f.first (Ys.mp z) () fst,KY (yA e)⟩)) λz=>?_;have z:j-1≠1:=λy=>z (Ys.mpr y);have p:i-1<xs.size:=()
 refine Yo (Qy p (Yo (Xg O (se.kd.trans kd) (H.xn _ (Q5 p)) () (λi n=>H.yn _ (Q5 ())) () (EM H.W H.py ()) λt m h l=>?_)));simp at h l;exact nc fst H ⟨f,a,(),c2,(),by have:=L.g;lia⟩ (yA e) C se m l λy=>h (t-1) (Nat.sub_lt y Yw)
theorem ng:YK prog w A E s (rT (xs.map it) (ys.map it) i j v ac bc mg) R st:=by
 have a:=L.a;have b:=L.b;have c:=L.bx;have c2:=L.ax;have p:j-1<ys.size:=()
 refine Yo (Cg se λst se=>Yo (Qy p (Yo (Xg O (se.kd.trans kd) (H.yn _ (Q5 p)) () (λi x=>H.xn _ (Q5 ())) () (EL H.W H.px ()) λt f h l=>?_))));simp at h l;have q:=λhz=>by
  have:(!lt (gx ys (j-1)) (gx xs (t-1)))=true:=h (t-1) (Nat.sub_lt hz Yw);simpa using this
 refine wi (λk0=>?_) λk0=>?_
 .have M2:=L.M.galA H.W H.py f (Uz b) c λi n r=>by
   have:(!lt (gx ys (j-1)) (gx xs i))=false:=l i n r;simpa using this
  refine wi (λz=>Yp (C.dn se ⟨_,M2.doneA (Ys.mp z),KY (zL e)⟩)) λz=>?_;have m:=Nat.pos_of_ne_zero λy=>z (Ys.mpr y);exact kL fst H ⟨M2,m,b,Zh f c2,c,by have:=L.g;lia⟩ (zL e) C se O kd (q m)
 .have u:t=i:=()
  subst u;exact kL fst H L e C se O kd (q a)
end
theorem nh {R:ForInStep (G6 Nat Nat KA)->YB}(O:yh prog w A s kind it lt N)(n:kindOf st=kind)(m:∀{v t},MD lt it xs ys v->R (.done (some v,t)) st)(go:∀{i j v ac bc},HL lt it xs ys (g+1) i j v->R (.done (none,i,j,v,ac,bc)) st/\R (.yield (none,i,j,v,ac,bc)) st):
 YK prog w A E s (rV (xs.map it) (ys.map it) mg i j v ac bc) R st:=by
 have a:=L.a;have b:=L.b;have c:=L.bx;have c2:=L.ax;have p:=L.g;have h:i-1<xs.size:=()
 have l:j-1<ys.size:=()
 refine Yo (Qy l (Yo (Qy h (Yo (XQ O n (H.yn _ (Q5 l)) (H.xn _ (Q5 h)) (wi (λq=>Yo (Qy h ?_)) λq=>Yo (Qy l ?_)))))))
 .have M2:=L.M.one H.W H.py a c2 (Uz b) c q;refine wi (λz=>Yp (m ⟨_,M2.doneA (Ys.mp z),KY (yA e)⟩)) λz=>?_;have f:=go (ac:=ac+1) (bc:=0) ⟨_,⟨M2,(),b,Zz h,c,()⟩,yA e⟩;exact wi (λ_=>Yp f.1) λ_=>Yp f.2
 .have M2:=L.M.two H.W H.hxy H.px a c2 (Uz b) c (Yu.mpr q);refine wi (λz=>Yp (m ⟨_,M2.first (Ys.mp z) () fst,KY (yA e)⟩)) λz=>?_;have f:=go (ac:=0) (bc:=bc+1) ⟨_,⟨M2,a,(),c2,Zz l,()⟩,yA e⟩;exact wi (λ_=>Yp f.1) λ_=>Yp f.2
end
section
variable {prog:Program}{w:World}{A:Around}{E:Ya}{s:Shared}{kind:SortKind}{it:Nat->Keyed}{lt:Yd}{N:Nat}{st:SortSt}{xs ys:Yi}
def Oh {Q:Array Keyed->YB}(H:MH lt N xs ys)(O:yh prog w A s kind it lt N)(c:kindOf st=kind)(j:1<=xs.size)(g:1<=ys.size)(a:∀x∈xs.toList,jJ lt (gx ys 0) x)(lst:lt (gx ys (ys.size-1)) (gx xs (xs.size-1))=true)
 (h:∀o b,SEq st b->zy lt xs ys o->Q (ar it o) b):YK prog w A E s (Ce (xs.map it) (ys.map it)) Q st:=by
 have M1:MInvH lt xs ys (xs.size-1) ys.size [gx xs (xs.size-1)]:=by
  refine MInvH.one (o:=[]) (na:=xs.size) (nb:=ys.size) H.W H.py ⟨?_,?_,?_⟩ j (Zf _) g (Zf _) lst
  .rw[UX (),ZB];exact H.px
  .rw[UX (),ZB];exact H.py
  grind[List.append_nil,List.take_of_length_le]
 rw[kJ,sz,sz];have p:xs.size-1<xs.size:=()
 have f: #[it (gx xs (xs.size-1))]=ar it [gx xs (xs.size-1)].reverse:=Ai;refine Yo (wpS_lift (wpAny_rule ⟨rfl,Yo (Qy p (wi (λz=>?_) λl=>wi (λz=>?_) λn=>?_))⟩))
 .rw[KY f];exact Yp (h _ _ (.refl _) (M1.doneA (Ys.mp z)))
 .rw[KY f];exact Yp (h _ _ (.refl _) (M1.first (Ys.mp z) g a))
 have l:xs.size-1≠0:=by grind
 have n:ys.size≠1:=by grind
 have q:HI lt xs ys 1 (xs.size-1) ys.size [gx xs (xs.size-1)]:=⟨M1,(),(),(),(),()⟩;exact rO (P:=HL lt it xs ys) c ⟨_,q,f⟩ (λr=>by
  obtain⟨_,L,_⟩:=r;have:=L.g;lia) (λ⟨o,L,e⟩ h=>⟨o,⟨L.M,L.a,L.b,L.ax,L.bx,by have:=L.g;lia⟩,e⟩) (λc ⟨_,L,e⟩ dn go=>nh a H L e O c dn go) (λC i ⟨_,L,e⟩=>ng a H L e C i O c) λi ⟨o,m,e⟩=>by simp_all
end
theorem EQ {α: Type}(k):∀l i (a:Array α),k+i+l.length<=a.size->((l.zipIdx i).foldl (λa (p:α × Nat)=>a.setIfInBounds (k+p.2) p.1) a).toList=a.toList.take (k+i)++l++a.toList.drop (k+i+l.length)
 | [],i,a,h=>by simp
 |x::r,i,a,h=>by
  rw[Zu] at h;rw[List.zipIdx_cons,Vi,EQ k r (i+1) _ (by rw[Array.size_setIfInBounds];lia),Array.toList_setIfInBounds,Zu];have b:(a.toList.set (k+i) x).take (k+(i+1))=a.toList.take (k+i)++[x]:=by
   rw[show k+(i+1)=(k+i)+1 by lia,Vv,List.take_set_of_le (Zf _),UW (by simp;lia)];rfl
  grind[List.append_assoc,List.drop_set_of_lt]
def ER {α β: Type}(f:α -> β)(a:Array α)(i j):(a.map f).extract i j=(a.extract i j).map f:=()
theorem XS {ix:Yi}{i j a:Nat}(h:i+a<j)(b:j<=ix.size):gx (ix.extract i j) a=gx ix (i+a):=by
 grind[gx,Array.getElem?_extract]
section
variable {prog:Program}{w:World}{A:Around}{E:Ya}{s:Shared}{kind:SortKind}{it:Nat->Keyed}{lt:Yd}{st:SortSt}{n:Nat}
theorem Wg {ix:Yi}{i j x:Nat}(a:j<=ix.size)(h:x∈(ix.extract i j).toList):∃l,i<=l/\l<j/\x=gx ix l:=by
 rw[Array.toList_extract,VT] at h;obtain⟨l,b,c,e⟩:=Cf h
 grind
def ES {ix:Yi}{R:Nat->Nat->Prop}{i j:Nat}(g:j<=ix.size)(h:∀a b,i<=a->a<b->b<j->R (gx ix a) (gx ix b)):(ix.extract i j).toList.Pairwise R:=by
 rw[List.pairwise_iff_getElem];have e:∀c f,c<j-i->(ix.extract i j).toList[c]=gx ix (i+c):=λc f h=>by
  grind[gx,sz,XS,Array.getElem?_eq_getElem]
 grind
def Oi {x y k:Nat}(W:Wk lt)(b:jJ lt x y)(h:be lt false y k=true):be lt false x k=true:=by
 have h:(!lt k y)=true:=h;show(!lt k x)=true;cases q:lt k x with
 |false=>rfl
 |true =>
  rcases W.neg _ y _ q with z|z
  .simp_all
  .rw[(jJ.no W b)] at z;cases z
def Oj {x y k:Nat}(W:Wk lt)(b:jJ lt x y)(h:be lt true y k=true):be lt true x k=true:=by
 rcases W.neg _ x _ h with z|z
 .rw[(jJ.no W b)] at z;cases z
 .exact z
end
structure PlO (lo N:Nat)(bs ix:Yi)(k:Nat):Prop where
 size:ix.size=N
 perm:ix.Perm (Array.range N)
 low:∀a,a<lo->gx ix a=gx bs a
 mid:∀a,lo<=a->a<k->lo<=gx ix a/\gx ix a<k
 suf:∀a,k<=a->a<N->gx ix a=a
def ET {N a:Nat}{ix:Yi}(p:ix.Perm (Array.range N))(b:a<ix.size):gx ix a<N:=by
 have:=(Jq.mp p).mem_iff.mp (Q5 b)
 simp_all
section
variable {lo N k:Nat}{bs ix:Yi}
def PlO.all (h:PlO lo N bs ix k){a:Nat}(b:a<N):gx ix a<N:=ET h.perm (by rwa [h.size])
def PlO.succ (h:PlO lo N bs ix k)(g:lo<=k)(b:k<N):PlO lo N bs ix (k+1):=by
 refine⟨h.size,h.perm,h.low,λa e i=>?_,λa j f=>h.suf a () f⟩;by_cases c:a<k
 .have:=h.mid a e c;lia
 .have:a=k:=()
  subst this;rw[h.suf a (Zf _) b];lia
def PlO.rev {i:Nat}(h:PlO lo N bs ix k)(g:k<=N)(j:lo<=i)(l:i<=k):PlO lo N bs (mirror ix i k ((k-i) / 2)) k:=by
 have hz:k<=ix.size:=by rwa [h.size]
 refine⟨by rw[mirror_size];exact h.size,(mirror_perm _ _ _ _).trans h.perm,λa b=>?_,λa c b=>?_,λa e f=>?_⟩
 .rw[XP hz,Ze ()];exact h.low a b
 .rw[XP hz]
  split
  .exact h.mid _ () ()
  .exact h.mid a c b
 .rw[XP hz,Ze ()];exact h.suf a e f
end
def za (lt:Yd)(lo:Nat)(ix:Yi)(k:Nat):Prop:=∀a b,lo<=a->a<b->b<k->jJ lt (gx ix a) (gx ix b)
def bN (lt:Yd)(lo:Nat)(ix:Yi)(k:Nat):Prop:=∀a b,lo<=a->a<b->b<k->jJ lt (gx ix b) (gx ix a)
structure SBp (it:Nat->Keyed)(kind:SortKind)(pn:Array (Nat×Nat×Nat))(ix:Yi)(st:SortSt):Prop where
 arr:arrOf st=ix.map it
 kd:kindOf st=kind
 fl:failedOf st=none
 pd:pendingOf st=pn
structure EqO (lt:Yd)(lo:Nat)(ix:Yi)(x u:Nat):Prop where
 le:lo<=u
 ux:u<x
 out:∀a b,lo<=a->a<b->b<x->a<u->lt (gx ix b) (gx ix a)=true\/(b<u/\jJ lt (gx ix b) (gx ix a))
 same:∀a b,u<=a->a<x->u<=b->b<x->lt (gx ix a) (gx ix b)=false
 rise:∀a b,u<=a->a<b->b<x->gx ix a<gx ix b
def Wh {ix:Yi}{i j k:Nat}(a:j<=ix.size)(b:i<=k)(c:k<j):∃m,i<=m/\m<j/\k+m+1=i+j/\gx (mirror ix i j ((j-i) / 2)) k=gx ix m:=by
 refine⟨i+j-1-k,(),(),(),?_⟩;rw[XP a,Zd ⟨b,c⟩]
def XT {ix:Yi}{i j k:Nat}(a:j<=ix.size)(h:k<i\/j<=k):gx (mirror ix i j ((j-i) / 2)) k=gx ix k:=by
 rw[XP a,Ze ()]
section
variable {lt:Yd}{lo:Nat}{ix:Yi}(W:Wk lt)
include W
theorem Am {a:Nat}:lt a a=false:=by
 cases z:lt a a with
 |false=>rfl
 |true=>have:=W.asy _ _ z;simp_all
theorem EqO.down {x u:Nat}(h:EqO lt lo ix x u)(hz:x<=ix.size):bN lt lo (mirror ix u x ((x-u) / 2)) x:=by
 intro a b j ab g;by_cases f:u<=b
 .obtain⟨n,i,l,p,e⟩:=Wh hz f g;rw[e];by_cases c:u<=a
  .obtain⟨q,o,m,r,e⟩:=Wh hz c (Ug ab g);rw[e];exact .inr ⟨h.same _ _ o m i l,h.rise _ _ i () m⟩
  .have c:=Yv c;rw[XT hz (.inl c)];rcases h.out a n j (Zg c i) l c with z|z
   .exact .inl z
   .exact z.2
 .have f:=Yv f;have c:=Ug ab f;rw[XT hz (.inl f),XT hz (.inl c)];rcases h.out a b j ab g c with z|z
  .exact .inl z
  .exact z.2
theorem EqO.down0 {x:Nat}(h:EqO lt lo ix (x+1) x):bN lt lo ix (x+1):=by
 intro a b e ab c;rcases h.out a b e ab c (Zg ab (Uo c)) with z|z
 .exact .inl z
 .exact z.2
theorem xo {x y:Nat}(m:y+1=x)(n:lo<=y)(D:bN lt lo ix x)(f:lt (gx ix x) (gx ix y)=true):EqO lt lo ix (x+1) x:=by
 have wm:∀a,lo<=a->a<x->lt (gx ix x) (gx ix a)=true:=λa e g=>by
  by_cases c:a=y
  .rwa [c]
  .rcases W.neg _ (gx ix a) _ f with z|z
   .exact z
   .rw[jJ.no W (D a y e () ())] at z;exact JC z
 have eq:∀{a},x<=a->a<x+1->a=x:=()
 refine⟨(),UK _,λa b e ab o g=>?_,λa b h i j l=>?_,()⟩
 .by_cases c:b<x
  .exact .inr ⟨c,D a b e ab c⟩
  simp_all
 .rw[eq h i,eq j l];exact Am W
theorem EqO.more {x y u:Nat}(h:EqO lt lo ix x u)(G:y+1=x)(v:gx ix x=x)(l:∀a,lo<=a->a<x->gx ix a<x)(A:lt (gx ix x) (gx ix y)=false)(B:lt (gx ix y) (gx ix x)=false):EqO lt lo ix (x+1) u:=by
 have le:=h.le;have C:=h.ux;have E:∀k,lt (gx ix y) k=true->lt (gx ix x) k=true:=λk z=>by
  rcases W.neg _ (gx ix x) _ z with y|y
  .rw[B] at y;exact JC y
  lia
 have F:∀k,lt k (gx ix x)=true->lt k (gx ix y)=true:=λk z=>by
  rcases W.neg _ (gx ix y) _ z with y|y
  .exact y
  simp_all
 have m:∀k,lt (gx ix x) k=true->lt (gx ix y) k=true:=λk z=>by
  rcases W.neg _ (gx ix y) _ z with y|y
  .rw[A] at y;exact JC y
  lia
 have n:y<x:=()
 have i:u<=y:=()
 have e:∀{b},b<x+1->¬b=x->b<x:=λh k=>UD (Uo h) k;refine⟨le,UE C,λa b q ab o p=>?_,λa b g r s t=>?_,λa b g ab o=>?_⟩
 .by_cases c:b=x
  .rw[c];rcases h.out a y q (Zg p i) n p with z|z
   .exact .inl (E _ z)
   .exact Zn z.1 (Nat.not_lt_of_le i)
  .exact h.out a b q ab (e o c) p
 .by_cases j:a=x
  .by_cases f:b=x
   .rw[j,f];exact Am W
   .rw[j];cases z:lt (gx ix x) (gx ix b) with
    |false=>rfl
    |true =>
     have w:=m _ z;rw[h.same y b i n s (e t f)] at w;exact JC w
  .by_cases f:b=x
   .rw[f];cases z:lt (gx ix a) (gx ix x) with
    |false=>rfl
    |true =>
     have w:=F _ z;rw[h.same a y g (e r j) i n] at w;exact JC w
   .exact h.same a b g (e r j) s (e t f)
 .by_cases f:b=x
  .rw[f,v];exact l a (Zh le g) (f ▸ ab)
  .exact h.rise a b g ab (e o f)
end
abbrev C2:=Option (Option Nat)×Nat
noncomputable def bH (p c:Nat):SM (ForInStep C2):=ltAt' p (p-1) >>= λr=>match r with
 |some t=>if t=true then pure (.done (none,c)) else pure (.yield (none,c+1))
 |_=>pure (.done (some none,c))
noncomputable def nW (lo a n:Nat):SM (Option Nat):=reverseSlice' lo (lo+n) >>= λ_=>(forIn [n:a] ((none,n):C2) λ_ c=>bH (lo+c.2) c.2) >>= λc=>match c.1 with
 |some r=>pure r
 |none=>pure (some c.2)
noncomputable def so (lo a n q:Nat):SM (Option Nat):=if q > 0 then reverseSlice' (lo+n-(q+1)) (lo+n) >>= λ_=>nW lo a n else nW lo a n
noncomputable def sm (p n q:Nat):SM (ForInStep C3):=ltAt' p (p-1) >>= λr=>match r with
 |some t=>if t=true then(if q > 0 then reverseSlice' (p-(q+1)) p >>= λ_=>pure (.yield (none,n+1,0)) else pure (.yield (none,n+1,0)))
  else ltAt' (p-1) p >>= λr=>match r with
   |some t=>if t=true then pure (.done (none,n,q)) else pure (.yield (none,n+1,q+1))
   |_=>pure (.done (some none,n,q))
 |_=>pure (.done (some none,n,q))
noncomputable def nX (lo a n:Nat):SM (Option Nat):=(liftM (rule "list.sort.descending-run"):SM PUnit) >>= λ_=>(forIn [n+1:a] ((none,n+1,0):C3) λ_ c=>sm (lo+c.2.1) c.2.1 c.2.2) >>= λc=>match c.1 with
 |some r=>pure r
 |none=>so lo a c.2.1 c.2.2
noncomputable def cQ (lo a n:Nat):SM (Option Nat):=if(n == a)=true then pure (some n) else if n > 1 then ltAt' lo (lo+n-1) >>= λr=>match r with
 |some t=>if t=true then pure (some n) else reverseSlice' lo (lo+n) >>= λ_=>nX lo a n
 |_=>pure none
 else nX lo a n
set_option smartUnfolding false in
def fw {lo a:Nat}:countRun' lo a=((forIn [1:a] ((none,1):C2) λ_ c=>bH (lo+c.2) c.2) >>= λc=>match c.1 with|some r=>pure r|none=>cQ lo a c.2):=rfl
section
variable {prog:Program}{w:World}{A:Around}{E:Ya}{s:Shared}{kind:SortKind}{it:Nat->Keyed}{lt:Yd}{lo N:Nat}{bs ix:Yi}{st:SortSt}{pn:Array (Nat×Nat×Nat)}
def XU {a b k:Nat}{Q:Option Bool->YB}(O:yh prog w A s kind it lt N)(B:SBp it kind pn ix st)(L:PlO lo N bs ix k)(c:a<N)(e:b<N)(h:Q (some (lt (gx ix a) (gx ix b))) st):
 YK prog w A E s (ltAt' a b) Q st:=by
 have f:(arrOf st)[a]? = some (it (gx ix a)):=by rw[B.arr,UQ,Cb (by rwa [L.size])];rfl
 have g:(arrOf st)[b]? = some (it (gx ix b)):=by rw[B.arr,UQ,Cb (by rwa [L.size])];rfl
 show wpS _ _ _ _ (elem' (arrOf st) a >>= λx=>elem' (arrOf st) b >>= λy=>lt' x y) Q st;rw[elem'_eq,elem'_eq,f,g];exact Yo (Yp (Yo (Yp (XQ O B.kd (L.all c) (L.all e) h))))
def SBp.set {a:Yi}(B:SBp it kind pn ix st){b:Array Keyed}(e:b=a.map it):SBp it kind pn a (setArr st b):=⟨e,B.kd,B.fl,B.pd⟩
def SBp.rev {i j m:Nat}(B:SBp it kind pn ix st):SBp it kind pn (mirror ix i j m) (setArr st (mirror (arrOf st) i j m)):=B.set (by rw[B.arr,Ob])
variable (W:Wk lt)(O:yh prog w A s kind it lt N)
include W O
theorem Ol {p c:Nat}{R:ForInStep C2->YB}(a:p<N)(g:lo<p)(B:SBp it kind pn ix st)(L:PlO lo N bs ix p)(U:za lt lo ix p)
 (h:lt (gx ix p) (gx ix (p-1))=true->R (.done (none,c)) st) (go:PlO lo N bs ix (p+1)->za lt lo ix (p+1)->R (.yield (none,c+1)) st):YK prog w A E s (bH p c) R st:=by
 obtain⟨y,rfl⟩:∃y,p=y+1:=⟨p-1,()⟩;have b:=Uo g;refine Yo (XU O B L a (UY a) (wi (λq=>Yp (h q)) λq=>Yp (go (L.succ (Vl b) a) λi j f l m=>?_)));have last:jJ lt (gx ix y) (gx ix (y+1)):=.inr ⟨Yu.mpr q,by rw[L.suf _ (Zf _) a];exact(L.mid _ b (UK _)).2⟩;by_cases c:j<y+1
 .exact U i j f l c
 .have e:j=y+1:=()
  subst e;by_cases d:i=y
  .simp_all
  .exact jJ.trans W (U i y f () (UK _)) last
theorem EU {a b:Nat}{Q:C2->YB}
 (j:lo+b<=N) (l:1<=a) (f:a<=b) (B:SBp it kind pn ix st) (L:PlO lo N bs ix (lo+a)) (U:za lt lo ix (lo+a))
 (h:∀m,a<=m->m<=b->PlO lo N bs ix (lo+m)->za lt lo ix (lo+m)->(m=b\/lt (gx ix (lo+m)) (gx ix (lo+m-1))=true)->Q (none,m) st):YK prog w A E s (forIn [a:b] ((none,a):C2) λ_ c=>bH (lo+c.2) c.2) Q st:=by
 refine Yr (I:=λx c e=>e=st/\c=(none,x)/\PlO lo N bs ix (lo+x)/\za lt lo ix (lo+x)) ?_ ?_ ⟨rfl,rfl,L,U⟩
 .rintro x c e n o ⟨rfl,rfl,g,i⟩;exact Ol W O () () B g i () ()
 simp_all
variable {nr x q u:Nat}{Q:Option Nat->YB}(hn:lo+nr<=N)(h:∀k jx st',SBp it kind pn jx st'->1<=k->k<=nr->PlO lo N bs jx (lo+k)->za lt lo jx (lo+k)->Q (some k) st')
include hn h
theorem EV (c:1<=x)(i:x<=nr)(B:SBp it kind pn ix st)(L:PlO lo N bs ix (lo+x))(D:bN lt lo ix (lo+x)):YK prog w A E s (nW lo nr x) Q st:=by
 have hz:lo+x<=ix.size:=by rw[L.size];lia
 refine Yo (wpS_reverse (Yo (EU W O hn c i B.rev (L.rev () (Zf _) ()) (λa b f ab g=>?_) λk k1 k2 j l _=>Yp (h k _ _ B.rev (Zh c k1) k2 j l))));have ⟨p,r,m,t,e⟩:=Wh hz f (Ug ab g);have ⟨v,n,y,z,o⟩:=Wh hz (Zz (UL f ab)) g;rw[e,o];exact D _ _ n () m
theorem Om (a:1<=x)(b:x<=nr)(B:SBp it kind pn ix st)(L:PlO lo N bs ix (lo+x))(X:EqO lt lo ix (lo+x) u)(e:u+(q+1)=lo+x):YK prog w A E s (so lo nr x q) Q st:=by
 refine wi (λc=>?_) λc=>?_
 .rw[show lo+x-(q+1)=u by lia];exact Yo (wpS_reverse (EV W O hn h a b B.rev (L.rev () X.le (Zz X.ux)) (X.down W (by rw[L.size];lia))))
 .have f:q=0:=()
  subst f;rw[<- e] at X;exact EV W O hn h a b B L (e ▸ X.down0 W)
omit hn h in
theorem Oo {p:Nat}{R:ForInStep C3->YB}(b:p<N)(B:SBp it kind pn ix st)(L:PlO lo N bs ix p)(X:EqO lt lo ix p u)(e:u+(q+1)=p)
 (n:R (.done (none,x,q)) st) (go:∀i u q c,SBp it kind pn i c->PlO lo N bs i (p+1)->EqO lt lo i (p+1) u->u+(q+1)=p+1->R (.yield (none,x+1,q)) c):YK prog w A E s (sm p x q) R st:=by
 have le:=X.le;have g:=X.ux;have hz:p<=ix.size:=by rw[L.size];exact Zz b
 obtain⟨y,rfl⟩:∃y,p=y+1:=⟨p-1,()⟩;have j:=UY b;have f:=Zh le (Uo g);refine Yo (XU O B L b j (wi (λz=>wi (λl=>?_) λl=>?_) λz=>?_))
 .have z:lt (gx ix (y+1)) (gx ix y)=true:=z;rw[show y+1-(q+1)=u by lia];refine Yo (wpS_reverse (Yp (go _ _ 0 _ B.rev ((L.rev (Zz b) le (Zz g)).succ (Vl f) b) (xo W rfl f (X.down W hz) ?_) rfl)));have ⟨m,o,m2,_,e⟩:=Wh hz (Uo g) (UK y);rw[XT hz (.inr (Zf _)),e];rcases W.neg _ (gx ix m) _ z with y|y
  .exact y
  .rw[X.same _ _ o m2 (Uo g) (UK _)] at y;exact JC y
 .have r:=Nat.eq_zero_of_not_pos l;subst r;have e:=UN e;subst e;exact Yp (go ix _ 0 st B (L.succ (Vl f) b) (xo W rfl f (X.down0 W) z) rfl)
 .exact Yo (XU O B L j b (wi (λ_=>Yp n) λt=>(Yp (go ix u _ st B (L.succ (Vl f) b) (X.more W rfl (L.suf _ (Zf _) b) (λa v C=>(L.mid a v C).2) (Yu.mpr z) (Yu.mpr t)) (Zt (· + 1) e)))))
theorem EW (m:x+1<=nr)(B:SBp it kind pn ix st)(L:PlO lo N bs ix (lo+x+1))(X:EqO lt lo ix (lo+x+1) (lo+x)):YK prog w A E s (nX lo nr x) Q st:=by
 refine Yo (wpS_lift (wpAny_rule ⟨rfl,Yo (Yq (Yr (I:=λx c i=>∃u q a,c=(none,x,q)/\SBp it kind pn a i/\PlO lo N bs a (lo+x)/\EqO lt lo a (lo+x) u/\u+(q+1)=lo+x) (Q:=λc i=>∃y u q a,c=(none,y,q)/\1<=y/\y<=nr/\SBp it kind pn a i/\PlO lo N bs a (lo+y)/\EqO lt lo a (lo+y) u/\u+(q+1)=lo+y) ?_ ?_ ⟨lo+x,0,ix,rfl,B,L,X,rfl⟩) ?_)⟩))
 .rintro y c i n o ⟨u,q,a,rfl,j,f,g,e⟩;exact Oo W O (show lo+y<N from ()) j f g e ⟨y,u,q,a,rfl,Zh (Nat.le_add_left 1 x) n,Zz o,j,f,g,e⟩ λp u q r b l x e=>⟨u,q,p,rfl,b,l,x,e⟩
 .rintro c i ⟨u,q,a,rfl,j,f,g,e⟩;rw[Nat.max_eq_right m] at f g e ⊢;exact⟨nr,u,q,a,rfl,Zh (Nat.le_add_left 1 x) m,Zf _,j,f,g,e⟩
 .rintro c i ⟨x,u,q,a,rfl,t,m,j,f,g,e⟩;exact Om W O hn h t m j f g e
theorem Op (S:1<=nr)(B:SBp it kind pn ix st)(L:PlO lo N bs ix (lo+1)):YK prog w A E s (countRun' lo nr) Q st:=by
 rw[fw];refine Yo (EU W O hn (Zf 1) S B L (λa b f ab o=>()) λm R m2 i l F=>?_);refine wi (λ_=>Yp (h m ix st B R m2 i l)) λr=>?_;have r:m≠nr:=λz=>r (Ys.mpr z);have t:lt (gx ix (lo+m)) (gx ix (lo+m-1))=true:=F.resolve_left r;have m2:m+1<=nr:=UD m2 r;have j:lo+m<N:=()
 have v:lo<lo+m:=()
 have hz:lo+m<=ix.size:=by rw[i.size];exact Zz j
 refine wi (λT=>?_) λT=>?_
 .have G:=λ{H I}=>EW (E:=E) (bs:=bs) (ix:=H) (st:=I) W O hn h m2;have U:=h m ix st B R (Uz m2) i l;generalize lo+m=p at *;obtain⟨y,rfl⟩:∃y,p=y+1:=⟨p-1,()⟩;have t:lt (gx ix (y+1)) (gx ix y)=true:=t;have J:=Uo v;have X:=UY j;have K:=UK y;refine Yo (XU O B i (Ug v j) X (wi (λ_=>Yp U) λc=>?_));have c:lt (gx ix lo) (gx ix y)=false:=Yu.mpr c;have flat:∀a b,lo<=a->a<y+1->lo<=b->b<y+1->lt (gx ix a) (gx ix b)=false:=λa b f Y Z g=>by
   cases z:lt (gx ix a) (gx ix b) with
   |false=>rfl
   |true =>
    rcases W.neg _ (gx ix lo) _ z with w|w
    .by_cases a0:a=lo
     .rw[a0,Am W] at w;exact JC w
     .rw[jJ.no W (l lo a (Zf _) () Y)] at w;exact JC w
    .rcases W.neg _ (gx ix y) _ w with u|u
     .rw[c] at u;exact JC u
     .by_cases M:b=y
      .rw[M,Am W] at u;exact JC u
      .rw[jJ.no W (l b y Z () K)] at u;exact JC u
  have n:∀a b,lo<=a->a<b->b<y+1->gx ix a<gx ix b:=λa b f ab g=>by
   rcases l a b f ab g with z|z
   .rw[flat a b f (Ug ab g) (Zh f (Zz ab)) g] at z;exact JC z
   .exact z.2
  refine Yo (wpS_reverse (G B.rev ((i.rev (Zz j) (Zf _) (Zz v)).succ (Zz v) j) (xo W rfl J (λa b f ab g=>?_) ?_)))
  .obtain⟨a',P,C,a3,e⟩:=Wh hz f (Ug ab g);obtain⟨b',o,b2,b3,e'⟩:=Wh hz (Zh f (Zz ab)) g;rw[e,e'];exact .inr ⟨flat _ _ P C o b2,n _ _ o () C⟩
  .obtain⟨m,P,C,_,e⟩:=Wh hz J K;rw[XT hz (.inr (Zf _)),e];rcases W.neg _ (gx ix m) _ t with z|z
   .exact z
   .rw[flat _ _ P C J K] at z;exact JC z
 .have e1:m=1:=()
  subst e1;exact EW W O hn h m2 B (i.succ (Uj _ _) j) (xo W rfl (Zf _) (λa b f ab o=>()) t)
omit hn h
omit O W in
theorem Xj {ix:Yi}{p l k:Nat}(hs:p<ix.size)(a:l<=p)(b:k<=p):(k<l/\gx (bubble ix p (p-l)) k=gx ix k)\/(k=l/\gx (bubble ix p (p-l)) k=gx ix p)\/∃j,k=j+1/\l<=j/\j<p/\gx (bubble ix p (p-l)) k=gx ix j:=by
 rw[EH hs (U9 _ _),show p-(p-l)=l by lia]
 grind
omit O W in
theorem Oq {p l:Nat}(v:p<N)(f:l<=p)(o:lo<=l)(L:PlO lo N bs ix p)(U:za lt lo ix p)(low:∀i,lo<=i->i<l->lt p (gx ix i)=false)(y:∀i,l<=i->i<p->lt p (gx ix i)=true):PlO lo N bs (bubble ix p (p-l)) (p+1)/\za lt lo (bubble ix p (p-l)) (p+1):=by
 have hs:p<ix.size:=by rw[L.size];exact v
 have ep:gx ix p=p:=L.suf p (Zf _) v;have md:∀{i},lo<=i->i<p->lo<=gx ix i/\gx ix i<p+1:=λh k=>⟨(L.mid _ h k).1,UE (L.mid _ h k).2⟩;refine⟨⟨by rw[bubble_size];exact L.size,(bubble_perm _ _ _).trans L.perm,λa r=>?_,λa B r=>?_,λa C F=>?_⟩,λa b t ab m=>?_⟩
 .rcases Xj hs f (Zz (Zg r (Zh o f))) with ⟨_,e⟩|⟨z,_⟩|⟨j,z,h,_⟩
  .rw[e];exact L.low a r
  .omega
  .omega
 .rcases Xj hs f (Uo r) with ⟨z,e⟩|⟨z,e⟩|⟨j,z,h,k,e⟩
  .rw[e];exact md B (Zg z f)
  .rw[e,ep];exact⟨Zh o f,UK _⟩
  .rw[e];exact md (Zh o h) k
 .rw[EH hs (U9 _ _),Ze (),Ze ()];exact L.suf a (Uz C) F
 .have m:=Uo m;rcases Xj hs f (Zh (Zz ab) m) with ⟨z,e⟩|⟨z,e⟩|⟨i,z,h,k,e⟩
  .rcases Xj hs f m with ⟨g,c⟩|⟨g,c⟩|⟨j,g,h',n,c⟩
   .rw[e,c];exact U a b t ab (Zg g f)
   .rw[e,c,ep];exact .inr ⟨low a t z,(L.mid a t (Zg z f)).2⟩
   .rw[e,c];exact U a j t (Zg z h') n
  .rcases Xj hs f m with ⟨g,c⟩|⟨g,c⟩|⟨j,g,h',n,c⟩
   .omega
   .omega
   .rw[e,c,ep];exact .inl (y j h' n)
  .rcases Xj hs f m with ⟨g,c⟩|⟨g,c⟩|⟨j,g,h',n,c⟩
   .omega
   .omega
   .rw[e,c];exact U i j (Zh o h) () n
theorem Os {j ok:Nat}{Q:Bool->YB}(Y:lo+j<=N)(Z:ok<=j)(p:1<=ok)(B:SBp it kind pn ix st)(L:PlO lo N bs ix (lo+ok))(U:za lt lo ix (lo+ok))
 (h:∀f g,SBp it kind pn f g->PlO lo N bs f (lo+j)->za lt lo f (lo+j)->Q true g):YK prog w A E s (binarySort' lo j ok) Q st:=by
 rw[binarySort'_eq];have H:max ok 1=ok:=()
 rw[H];refine Yo (Yq (Yr (I:=λk c g=>c=(none,Yt)/\∃f,SBp it kind pn f g/\PlO lo N bs f (lo+k)/\za lt lo f (lo+k)) (Q:=λc g=>c=(none,Yt)/\∃f,SBp it kind pn f g/\PlO lo N bs f (lo+j)/\za lt lo f (lo+j)) ?_ ?_ ⟨rfl,ix,B,L,U⟩) ?_)
 .rintro k c t hk1 hk2 ⟨rfl,f,J,K,M⟩;have ek:gx f (lo+k)=lo+k:=K.suf _ (Zf _) ();refine Yo (Yq (Yr (I:=λx c o=>o=t/\∃l r,c=(none,l,r)/\l<=r/\r<=k/\r-l<=k-x/\(∀i,i<l->lt (lo+k) (gx f (lo+i))=false)/\(∀i,r<=i->i<k->lt (lo+k) (gx f (lo+i))=true))
   (Q:=λc o=>o=t/\∃l r,c=(none,l,r)/\l<=k/\(∀i,i<l->lt (lo+k) (gx f (lo+i))=false)/\(∀i,l<=i->i<k->lt (lo+k) (gx f (lo+i))=true)) ?_ ?_ ()) ?_)
  .rintro x c o _ hx ⟨rfl,l,r,rfl,lr,v,C,low,n⟩;dsimp only;by_cases P:l ≥ r
   .rw[Zd P];have e:l=r:=()
    subst e;exact Yp ⟨rfl,l,l,rfl,v,low,n⟩
   .rw[Ze P];obtain⟨m,H,m1,m2,m3,m4⟩:=EG (Yv P) C;rw[H];have mk:=Zg m2 v;refine Yo (XU O J K () () ?_);rw[ek];cases q:lt (lo+k) (gx f (lo+m)) with
    |true =>
     simp only[if_true];refine Yp ⟨rfl,l,m,rfl,m1,Zz mk,m3,low,λi a b=>?_⟩;by_cases R:i=m
     .rw[R];exact q
     .rcases W.neg (lo+k) (gx f (lo+i)) _ q with z|z
      .exact z
      .rw[jJ.no W (M (lo+m) (lo+i) () () ())] at z;exact JC z
    |false =>
     simp only[UF,if_false];refine Yp ⟨rfl,m+1,r,rfl,m2,v,m4,λi a=>?_,n⟩;by_cases R:i=m
     .rw[R];exact q
     .cases z:lt (lo+k) (gx f (lo+i)) with
      |false=>rfl
      |true =>
       rcases W.neg (lo+k) (gx f (lo+m)) _ z with y|y
       .rw[q] at y;exact JC y
       .rw[jJ.no W (M (lo+i) (lo+m) () () ())] at y;exact JC y
  .rintro c o ⟨rfl,l,r,rfl,lr,v,C,low,n⟩;have e:l=r:=()
   subst e;exact⟨rfl,l,l,rfl,v,low,n⟩
  .rintro c o ⟨rfl,l,r,rfl,lk,low,n⟩;show wpS _ _ _ _ (moveDown' (lo+k) (lo+l) >>= λ_=>pure (ForInStep.yield (none,Yt))) _ _;rw[moveDown'_eq];have low:∀i,lo<=i->i<lo+l->lt (lo+k) (gx f i)=false:=λi p S=>by
    obtain⟨d,rfl⟩:=Va p;exact low d (VA S)
   have n:∀i,lo+l<=i->i<lo+k->lt (lo+k) (gx f i)=true:=λi p S=>by
    obtain⟨d,rfl⟩:=Va (Zh (Uj _ _) p);exact n d (VU p) (VA S)
   have X:=Oq () (Nat.add_le_add_left lk lo) (Uj _ _) K M low n;exact Yo (wpS_modify (Yp ⟨rfl,bubble f (lo+k) (lo+k-(lo+l)),J.set (by rw[J.arr,Oa]),X.1,X.2⟩))
 .rintro c t ⟨rfl,f,T,F,G⟩;have e:max ok j=j:=()
  rw[e] at F G;exact⟨rfl,f,T,F,G⟩
 .rintro c t ⟨rfl,f,T,F,G⟩;exact Yp (h f t T F G)
end
structure Seg (lt:Yd)(ix:Yi)(a b:Nat):Prop where
 pl:∀i,a<=i->i<b->a<=gx ix i/\gx ix i<b
 up:∀i j,a<=i->i<j->j<b->jJ lt (gx ix i) (gx ix j)
def Seg.same {lt:Yd}{ix f:Yi}{a b:Nat}(S:Seg lt ix a b)(h:∀i,a<=i->i<b->gx f i=gx ix i):Seg lt f a b:=⟨λi c e=>by rw[h i c e];exact S.pl i c e,λi j c e g=>by rw[h i c (),h j () g];exact S.up i j c e g⟩
section
variable {prog:Program}{w:World}{A:Around}{E:Ya}{s:Shared}{kind:SortKind}{it:Nat->Keyed}{lt:Yd}{st:SortSt}{N:Nat}
def Seg.join {a m b:Nat}{ix:Yi}(W:Wk lt)(S:Seg lt ix a m)(T:Seg lt ix m b)(l:m<b)(k:∀i,a<=i->i<m->jJ lt (gx ix i) (gx ix m))(n:a<=m):Seg lt ix a b:=by
 refine⟨λi c h=>?_,λi j c f g=>?_⟩
 .by_cases z:i<m
  .have:=S.pl i c z;lia
  .have:=T.pl i () h;lia
 .by_cases z:j<m
  .exact S.up i j c f z
  .by_cases y:m<=i
   .exact T.up i j y f g
   .by_cases e:j=m
    .simp_all
    .exact jJ.trans W (k i c ()) (T.up m j (Zf _) () g)
def Seg.put {a e b m k:Nat}{ix:Yi}{o:Yj}(W:Wk lt)(S:Seg lt ix a e)(T:Seg lt ix e b)(hb:b<=ix.size)(C:a<=m)(I:m<e)(hk:1<=k)(v:e+k<=b)(L:∀i,a<=i->i<m->lt (gx ix e) (gx ix i)=false)(O:∀i,e+k<=i->i<b->lt (gx ix i) (gx ix (e-1))=false)
 (M:zy lt (ix.extract m e) (ix.extract e (e+k)) o):∃n:Yi,n.toList=ix.toList.take m++o++ix.toList.drop (e+k)/\o.length=e+k-m/\n.Perm ix/\Seg lt n a b/\∀i,i<a\/b<=i->gx n i=gx ix i:=by
 have ol:o.length=e+k-m:=by
  rw[M.1.length_eq,Ub,Ui,Ui,VI,VI,Vj (),Vj ()];lia
 have Q:m+o.length=e+k:=()
 have F:ix.toList.take m++((ix.extract m e).toList++(ix.extract e (e+k)).toList)++ix.toList.drop (e+k)=ix.toList:=by
  have ex:(ix.extract m e).toList++ix.toList.drop e=ix.toList.drop m:=by
   rw[Array.toList_extract,VT];have:ix.toList.drop e=(ix.toList.drop m).drop (e-m):=by rw[List.drop_drop,Vw (Zz I)]
   rw[this,UM]
  have ey:(ix.extract e (e+k)).toList++ix.toList.drop (e+k)=ix.toList.drop e:=by
   rw[Array.toList_extract,VT,VJ,<- List.drop_drop,UM]
  rw[Uh,Uh,ey,ex,UM]
 have pm:(ix.toList.take m++o++ix.toList.drop (e+k)).Perm ix.toList:=by
  conv=>rhs;rw[<- F]
  exact List.Perm.append_right _ (List.Perm.append_left _ M.1)
 have G:∀x∈o,(∃b,m<=b/\b<e/\x=gx ix b)\/∃b,e<=b/\b<e+k/\x=gx ix b:=λx hx=>by
  rcases Jb.mp (M.1.mem_iff.mp hx) with z|z
  .exact .inl (Wg () z)
  .exact .inr (Wg (Zh v hb) z)
 obtain⟨n,ej⟩:∃n:Yi,n=(ix.toList.take m++o++ix.toList.drop (e+k)).toArray:=⟨_,rfl⟩;have H:n.toList=ix.toList.take m++o++ix.toList.drop (e+k):=by rw[ej]
 have p:(ix.toList.take m).length=m:=by rw[Uy,Ui];exact Vj ()
 have B:∀i,i<m->gx n i=gx ix i:=λi h=>by
  unfold gx;rw[<- Vm,<- Vm,H,Uh,UO (by rw[p];exact h),List.getElem?_take,Zd h]
 have at2:∀j h,gx n (m+j)=o[j]:=λj h=>by
  unfold gx;rw[<- Vm,H,Uh,US (by rw[p];exact Uj _ _),p,VJ,UO h,Zqg h];rfl
 have g:∀j,gx n (e+k+j)=gx ix (e+k+j):=λj=>by
  unfold gx;rw[<- Vm,<- Vm,H,US (by rw[Ub,p,Q];exact Uj _ _),Ub,p,Q,VJ,List.getElem?_drop]
 have q:∀i,i<m\/(∃j,j<o.length/\i=m+j)\/∃j,i=e+k+j:=λi=>by
  by_cases c1:i<m
  .exact .inl c1
  .by_cases c2:i<e+k
   .exact .inr (.inl ⟨i-m,(),()⟩)
   .exact .inr (.inr ⟨i-(e+k),()⟩)
 have R:∀i j,a<=i->i<m->e<=j->j<b->jJ lt (gx ix i) (gx ix j):=λi j J h f l=>by
  have nb:=UL f l;have U:jJ lt (gx ix i) (gx ix e):=.inr ⟨L i J h,Zg (S.pl i J (Ug h I)).2 (T.pl e (Zf _) nb).1⟩;by_cases z:j=e
  .rw[z];exact U
  .exact jJ.trans W U (T.up e j (Zf _) () l)
 have sq:∀i c,a<=i->i<e->e+k<=c->c<b->jJ lt (gx ix i) (gx ix c):=λi c J f l X=>by
  have Y:jJ lt (gx ix (e-1)) (gx ix c):=.inr ⟨O c l X,Zg (S.pl (e-1) () ()).2 (T.pl c (Zh (Uj _ _) l) X).1⟩;by_cases z:i=e-1
  .rw[z];exact Y
  .exact jJ.trans W (S.up i (e-1) J () ()) Y
 have sp:∀{y},a<=y->y<e->a<=gx ix y/\gx ix y<b:=λf l=>⟨(S.pl _ f l).1,by have:=(S.pl _ f l).2;lia⟩;have Z:∀{y},e<=y->y<b->a<=gx ix y/\gx ix y<b:=λf l=>⟨by have:=(T.pl _ f l).1;lia,(T.pl _ f l).2⟩;refine⟨n,H,ol,?_,⟨λi f l=>?_,λi j f P K=>?_⟩,λi h=>?_⟩
 .rw[Array.perm_iff_toList_perm,H];exact pm
 .rcases q i with c|⟨j,c,rfl⟩|⟨j,rfl⟩
  .rw[B i c];exact sp f (Ug c I)
  .rw[at2 j c];rcases G _ (Uv c) with ⟨y,r,t,u⟩|⟨y,r,t,u⟩
   .rw[u];exact sp (Zh C r) t
   .rw[u];exact Z r (Zg t v)
  .rw[g j];exact Z () l
 .rcases q i with c|⟨i,c,rfl⟩|⟨i,rfl⟩
  .rw[B i c];rcases q j with d|⟨j,d,rfl⟩|⟨j,rfl⟩
   .rw[B j d];exact S.up i j f P (Ug d I)
   .rw[at2 j d];rcases G _ (Uv d) with ⟨y,r,t,u⟩|⟨y,r,t,u⟩
    .rw[u];exact S.up i y f (Zg c r) t
    .rw[u];exact R i y f c r (Zg t v)
   .rw[g j];exact R i _ f c () K
  .rw[at2 i c];rcases q j with d|⟨j,d,rfl⟩|⟨j,rfl⟩
   .omega
   .rw[at2 j d];exact Jj.mp M.2 i j c d (VA P)
   .rw[g j];rcases G _ (Uv c) with ⟨y,r,t,u⟩|⟨y,r,t,u⟩
    .rw[u];exact sq y _ (Zh C r) t (Uj _ _) K
    .rw[u];exact T.up y _ r (Zg t (Uj _ _)) K
  .rcases q j with d|⟨j,d,rfl⟩|⟨j,rfl⟩
   .omega
   .omega
   .rw[g i,g j];exact T.up _ _ () P K
 .rcases h with z|z
  .exact B i (Zg z C)
  .obtain⟨j,rfl⟩:=Va (Zh v z);exact g j
def Ot {l r:Yc}{x y z:Nat×Nat×Nat}:((l++x::y::r).toArray.setIfInBounds l.length z).eraseIdxIfInBounds (l.length+1)=(l++z::r).toArray:=by
 simp_all [List.eraseIdx_append_of_length_le]
noncomputable def mO (b:Nat)(v:KA):SM Bool:=(modify λs=>setArr s (List.foldl (λa x=>match x with|(p,j)=>a.setIfInBounds (b+j) p) (arrOf s) v.toList.zipIdx)) >>= λ_=>get >>= λz=>pure (failedOf z).isNone
noncomputable def rL (a:KA)(c na b k:Nat):SM Bool:=if(k == 0)=true then pure true else if na<=k then Cd (a.extract c b) (a.extract b (b+k)) >>= mO c else Ce (a.extract c b) (a.extract b (b+k)) >>= mO c
noncomputable def rM (a:KA)(b na c nb:Nat):SM Bool:=if(na == 0)=true then pure true else elem' a (b+na-1) >>= λx=>Wf true x a c nb (nb-1) >>= λr=>match r with
 |some k=>rL a b na c k
 |_=>pure false
noncomputable def rN (a:KA)(b na c nb:Nat):SM Bool:=elem' a c >>= λx=>Wf false x a b na 0 >>= λr=>match r with
 |some k=>rM a (b+k) (na-k) c nb
 |_=>pure false
set_option smartUnfolding false in
def ku {i:Nat}:mergeAt' i=(get >>= λz=>match (pendingOf z)[i]?,(pendingOf z)[i+1]? with
 |some (sa,na,pw),some (sb,nb,_)=>set (setPending z (((pendingOf z).setIfInBounds i (sa,na+nb,pw)).eraseIdxIfInBounds (i+1))) >>= λ_=>rN (arrOf z) sa na sb nb
 |_,_=>liftM (unsupported "internal:list.sort.pending")):=rfl
def Cj {p:Array (Nat×Nat×Nat)}:pendingOf (setPending st p)=p:=by rfl
section
variable {a b q am u k x y:Nat}{ix:Yi}{pn:Array (Nat×Nat×Nat)}{Q:Bool->YB}(W:Wk lt)(S:Seg lt ix a (q+1))(T:Seg lt ix (q+1) b)(hz:ix.size=N)(hb:b<=N)(B:SBp it kind pn ix st)
 (h:∀jx st',SBp it kind pn jx st'->jx.Perm ix->Seg lt jx a b->(∀i,i<a\/b<=i->gx jx i=gx ix i)->Q true st')
include W S T hz hb B h
theorem EX {o:Yj}{j:SortSt}(e:a<=am)(g:am<q+1)(k1:1<=k)(l:q+1+k<=b)(m:∀i,a<=i->i<am->lt (gx ix (q+1)) (gx ix i)=false)(n:∀i,q+1+k<=i->i<b->lt (gx ix i) (gx ix q)=false)
 (c:SEq st j) (M:zy lt (ix.extract am (q+1)) (ix.extract (q+1) (q+1+k)) o):YK prog w A E s (mO am (ar it o)) Q j:=by
 obtain⟨p,r,H,t,v,C⟩:=S.put W T (by rwa [hz]) e g k1 l m n M;refine Yo (wpS_modify (Yo (wpS_get (Yp ?_))));have f:=c.fl.trans B.fl;rw[f];refine h p _ ⟨?_,c.kd.trans B.kd,f,c.pd.trans B.pd⟩ t v C;rw[c.arr,B.arr];apply Vk;have F:(ar it o).toList=o.map it:=by simp[ar]
 refine Eq.trans (Zt (λz=>(List.foldl (λ(a:Array Keyed) (x:Keyed×Nat)=>a.setIfInBounds (am+x.2) x.1) (ix.map it) z.zipIdx).toList) F) ?_;have G:am+o.length=q+1+k:=()
 rw[EQ am (o.map it) 0 _ (),Array.toList_map,Array.toList_map,r,Zql,Nat.add_zero,G,Uc,Uc,List.map_take,List.map_drop]
theorem EY (j:∀i,a<=i->i<q+1->jJ lt (gx ix i) (gx ix (q+1)))(c:a<=q+1)(e:q+1<b):Q true st:=h ix st B (.refl _) (S.join W T e j c) λ_ _=>rfl
variable (O:yh prog w A s kind it lt N)(wx:∀i,i<N->gx ix i<N)
include O wx
theorem mK (e:am+u=q+1)(u1:1<=u)(f:a<=am)(G:q+1<b)(r:q+1+k<=b)(m3:∀i,a<=i->i<am->lt (gx ix (q+1)) (gx ix i)=false)(m4:∀i,am<=i->i<q+1->lt (gx ix (q+1)) (gx ix i)=true)
 (k3:∀i,q+1<=i->i<q+1+k->lt (gx ix i) (gx ix q)=true) (I:∀i,q+1+k<=i->i<b->lt (gx ix i) (gx ix q)=false):YK prog w A E s (rL (ix.map it) am u (q+1) k) Q st:=by
 have g:am<q+1:=()
 have bz:b<=ix.size:=by rw[hz];exact hb
 refine wi (λc=>Yp (EY W S T hz hb B h (λi h3 hi=>?_) (Zz (UL f g)) G)) λc=>?_
 .have c:k=0:=Ys.mp c;subst c;have b:jJ lt (gx ix q) (gx ix (q+1)):=.inr ⟨I _ (Zf _) G,Zg (S.pl q (Zh f (Uo g)) (UK _)).2 (T.pl _ (Zf _) G).1⟩;by_cases z:i=q
  .rw[z];exact b
  .exact by grind
 have k1:1<=k:=by grind
 have t:q+1<=ix.size:=()
 have kz:=Zh r bz;have xn:∀x∈(ix.extract am (q+1)).toList,x<N:=λx m=>by
  grind[Wg]
 have yn:∀y∈(ix.extract (q+1) (q+1+k)).toList,y<N:=λx m=>by
  obtain⟨l,n,p,rfl⟩:=Wg kz m;exact wx _ ()
 have J:∀x∈(ix.extract am (q+1)).toList,∀y∈(ix.extract (q+1) (q+1+k)).toList,x<y:=λx m y K=>by
  obtain⟨l,n,p,rfl⟩:=Wg t m;obtain⟨l',L,P,rfl⟩:=Wg kz K;exact Zg (S.pl l (Zh f n) p).2 (T.pl l' L (Zg P r)).1
 have px:=ES (ix:=ix) (R:=jJ lt) (i:=am) (j:=q+1) t λa b h ab U=>S.up a b (Zh f h) ab U;have py:=ES (ix:=ix) (R:=jJ lt) (i:=q+1) (j:=q+1+k) kz λa b h ab U=>T.up a b h ab (Zg U r);have H:MH lt N (ix.extract am (q+1)) (ix.extract (q+1) (q+1+k)):=⟨W,xn,yn,J,px,py⟩;have F:(ix.extract am (q+1)).size=u:=by rw[VI];lia
 have X:(ix.extract (q+1) (q+1+k)).size=k:=by rw[VI];lia
 have Y:gx (ix.extract am (q+1)) 0=gx ix am:=XS g t;have v:gx (ix.extract am (q+1)) (u-1)=gx ix q:=by rw[XS () t,show am+(u-1)=q by lia]
 have C:gx (ix.extract (q+1) (q+1+k)) 0=gx ix (q+1):=XS () kz;have Z:gx (ix.extract (q+1) (q+1+k)) (k-1)=gx ix (q+k):=by rw[XS () kz,show q+1+(k-1)=q+k by lia]
 rw[ER,ER];refine wi (λ_=>Yo (Od H O B.kd (by rw[F];exact u1) (by rw[X];exact k1) (by rw[C,Y];exact m4 am (Zf _) g) (λy K=>?_) λo s2 se M=>EX W S T hz hb B h f g k1 r m3 I se M))
  λ_=>Yo (Oh H O B.kd (by rw[F];exact u1) (by rw[X];exact k1) (λx m=>?_) (by rw[F,X,Z,v];exact k3 _ () ()) λo s2 se M=>EX W S T hz hb B h f g k1 r m3 I se M)
 .obtain⟨l,n,p,rfl⟩:=Wg kz K;rw[F,v];exact .inl (k3 l n p)
 .obtain⟨l,n,p,rfl⟩:=Wg t m;rw[C];exact .inl (m4 l n p)
theorem mL (e:am+u=q+1)(G:1<=y)(H:q+1+y=b)(g:a<=am)(m:∀i,a<=i->i<am->lt (gx ix (q+1)) (gx ix i)=false)(p:∀i,am<=i->i<q+1->lt (gx ix (q+1)) (gx ix i)=true):YK prog w A E s (rM (ix.map it) am u (q+1) y) Q st:=by
 have l:q+1<b:=()
 have r:q+1<N:=()
 have t:a<=q+1:=()
 refine wi (λc=>Yp (EY W S T hz hb B h (λi n v=>.inr ⟨m i n ?_,Zg (S.pl i n v).2 (T.pl _ (Zf _) l).1⟩) t l)) λc=>?_
 .simp_all
 have z:1<=u:=by grind
 rw[show am+u-1=q by rw[e];rfl];refine Yo (Qy () (Yo (Xg O B.kd (wx _ (UY r)) () () () (λi j C I q=>Oj W (T.up _ _ (Uj _ _) (Nat.add_lt_add_left C _) ()) q) λk k2 k3 F=>(mK W S T hz hb B h O wx e z g l () m p (λi f o=>?_) λi f o=>?_))))
 .obtain⟨d,rfl⟩:=Va f;exact k3 d (VA o)
 .obtain⟨d,rfl⟩:=Va (Zh (Uj _ _) f);exact F d (VU f) ()
theorem mM (e:a+x=q+1)(g:1<=x)(l:1<=y)(n:q+1+y=b):YK prog w A E s (rN (ix.map it) a x (q+1) y) Q st:=by
 have o:q+1<N:=()
 refine Yo (Qy () (Yo (Xg O B.kd (wx _ o) () () g (λi j p v q=>Oi W (S.up _ _ (Uj _ _) (Nat.add_lt_add_left p _) ()) q) λm m2 r t=>(mL W S T hz hb B h O wx (by rwa [Nat.add_assoc,Vw m2]) l n (Uj _ _) (λi c f=>?_) λi c f=>?_))))
 .obtain⟨d,rfl⟩:=Va c;have z:(!lt (gx ix (q+1)) (gx ix (a+d)))=true:=r d (VA f);simpa using z
 .obtain⟨d,rfl⟩:=Va (Zh (Uj _ _) c);have z:(!lt (gx ix (q+1)) (gx ix (a+d)))=false:=t d (VU c) ();simpa using z
end
def Ou {a x y b g:Nat}{l r:Yc}{ix:Yi}{Q:Bool->YB}(W:Wk lt)(O:yh prog w A s kind it lt N)(B:SBp it kind (l++(a,x,b)::(a+x,y,g)::r).toArray ix st)(hz:ix.size=N)(m:ix.Perm (Array.range N))(S:Seg lt ix a (a+x))(T:Seg lt ix (a+x) (a+x+y))(n:1<=x)(o:1<=y)(j:a+x+y<=N)
 (h:∀f c,SBp it kind (l++(a,x+y,b)::r).toArray f c->f.Perm ix->Seg lt f a (a+x+y)->(∀i,i<a\/a+x+y<=i->gx f i=gx ix i)->Q true c):YK prog w A E s (mergeAt' l.length) Q st:=by
 have p:(pendingOf st)[l.length]? = some (a,x,b):=by rw[B.pd];simp
 have t:(pendingOf st)[l.length+1]? = some (a+x,y,g):=by
  rw[B.pd,List.getElem?_toArray,US (Uj _ _),VJ];rfl
 rw[ku];refine Yo (wpS_get ?_);rw[p,t];rw[B.arr];have u:SBp it kind (l++(a,x+y,b)::r).toArray ix (setPending st (((pendingOf st).setIfInBounds l.length (a,x+y,b)).eraseIdxIfInBounds (l.length+1))):=⟨B.arr,B.kd,B.fl,by rw[Cj,B.pd];exact Ot⟩;obtain⟨q,e⟩:∃q,a+x=q+1:=⟨a+x-1,()⟩;rw[e] at S T j h ⊢;exact mM W S T hz j u h O (λi v=>ET m (by rwa [hz])) e n o rfl
def ym (lt:Yd)(ix:Yi):Nat->List (Nat×Nat×Nat)->Nat->Prop
 |a,[],b=>a=b
 |a,p::r,b=>p.1=a/\1<=p.2.1/\Seg lt ix a (a+p.2.1)/\ym lt ix (a+p.2.1) r b
theorem ym.le {ix:Yi}:∀{l:Yc} {a b:Nat},ym lt ix a l b->a+l.length<=b
 | [],a,b,h=>by rw[h];simp
 |p::r,a,b,⟨_,h2,_,h4⟩=>by have:=h4.le;grind
theorem ym.app {ix:Yi}:∀{l r:Yc} {a b:Nat},ym lt ix a (l++r) b->∃c,ym lt ix a l c/\ym lt ix c r b
 | [],r,a,b,h=>⟨a,rfl,h⟩
 |p::l,r,a,b,⟨h1,h2,h3,h4⟩=>have ⟨c,c1,c2⟩:=ym.app h4;⟨c,⟨h1,h2,h3,c1⟩,c2⟩
theorem ym.cat {ix:Yi}:∀{l r:Yc} {a b c:Nat},ym lt ix a l c->ym lt ix c r b->ym lt ix a (l++r) b
 | [],r,a,b,c,h,k=>by rwa [h]
 |p::l,r,a,b,c,⟨h1,h2,h3,h4⟩,k=>⟨h1,h2,h3,ym.cat h4 k⟩
theorem ym.same {ix c:Yi}:∀{l:Yc} {a b:Nat},ym lt ix a l b->(∀i,a<=i->i<b->gx c i=gx ix i)->ym lt c a l b
 | [],a,b,h,_=>h
 |p::r,a,b,⟨h1,h2,h3,h4⟩,k=>⟨h1,h2,h3.same λi x y=>k i x (by have:=h4.le;lia),h4.same ()⟩
structure RI (it:Nat->Keyed)(kind:SortKind)(lt:Yd)(N:Nat)(ps:Yc)(lo:Nat)(ix:Yi)(st:SortSt):Prop where
 b:SBp it kind ps.toArray ix st
 size:ix.size=N
 perm:ix.Perm (Array.range N)
 ch:ym lt ix 0 ps lo
 le:lo<=N
def EZ {i lo:Nat}{ps:Yc}{ix:Yi}{Q:Bool->YB}(W:Wk lt)(O:yh prog w A s kind it lt N)(R:RI it kind lt N ps lo ix st)(K:i+1<ps.length)
 (h:∀b e a,b.length+1=ps.length->RI it kind lt N b lo e a->(∀i,lo<=i->gx e i=gx ix i)->Q true a):YK prog w A E s (mergeAt' i) Q st:=by
 obtain⟨l,x,y,r,rfl,hl⟩:∃l x y r,ps=l++x::y::r/\l.length=i:=⟨ps.take i,ps[i],ps[i+1],ps.drop (i+2),by
  simp,()⟩
 have ⟨c,c1,c2⟩:=R.ch.app;have ⟨o,f,p⟩:=x;have ⟨L,g,M⟩:=y;have ⟨q,t,u,v,z,B,C⟩:=c2;have F:=q;have G:=v;have H:=t;have I:=z;have j:ym lt ix (c+f+g) r lo:=C;subst F G;have P:=j.le;have le:=R.le;subst hl;refine Ou W O R.b R.size R.perm u B H I () λe a J m n S=>h (l++(o,f+g,p)::r) e a () ⟨J,by rw[m.size_eq];exact R.size,m.trans R.perm,?_,R.le⟩ ();rw[Nat.add_assoc] at n;refine(c1.same ()).cat ⟨rfl,(),n,?_⟩;rw[<- Nat.add_assoc];exact j.same ()
def Ov {l:Yc}{x:Nat×Nat×Nat}(f):(l++[x]).toArray.modify ((l++[x]).toArray.size-1) f=(l++[f x]).toArray:=by
 have e:∀l:Yc,(l++[x]).modify l.length f=l++[f x]:=λl=>by
  induction l with
  |nil=>rfl
  |cons y l a=>show y::(l++[x]).modify l.length f=_;rw[a];rfl
 simp[e]
abbrev U2:=Option Unit×Unit
abbrev U1:=Option Unit×Nat
noncomputable def rF (a:Nat):SM (ForInStep U2):=get >>= λz=>match (if(pendingOf z).size > 1 then(pendingOf z)[(pendingOf z).size-2]? else none) with
 |some (_,_,older)=>if older<=a then pure (.done (none,Yt)) else mergeAt' ((pendingOf z).size-2) >>= λb=>if(!b)=true then pure (.done (some Yt,Yt)) else pure (.yield (none,Yt))
 |_=>pure (.done (none,Yt))
noncomputable def mu (lo n:Nat):SM (ForInStep U1):=(modify λs=>setPending s ((pendingOf s).push (lo,n,0))) >>= λ_=>pure (.yield (none,lo+n))
noncomputable def rC (lo n a:Nat)(c:U2):SM (ForInStep U1):=match c.1 with
 |some r=>pure (.done (some r,lo))
 |none=>(modify λs=>setPending s ((pendingOf s).modify ((pendingOf s).size-1) λ(st,len,_)=>(st,len,a))) >>= λ_=>mu lo n
noncomputable def fW (N lo n:Nat):SM (ForInStep U1):=get >>= λz=>match (pendingOf z).back? with
 |some (s1,n1,_)=>(forIn [:N] ((none,Yt):U2) λ_ _=>rF (power' N (2*s1+n1) (2*s1+n1+n1+n) N)) >>= rC lo n (power' N (2*s1+n1) (2*s1+n1+n1+n) N)
 |_=>mu lo n
noncomputable def c9 (N a lo:Nat):SM (ForInStep U1):=if lo ≥ N then pure (.done (none,lo)) else countRun' lo (N-lo) >>= λr=>match r with
 |some n=>if n<a then(liftM (rule "list.sort.binary-insertion"):SM PUnit) >>= λ_=>binarySort' lo (min (N-lo) a) n >>= λb=>if(!b)=true then pure (.done (some Yt,lo)) else fW N lo (min (N-lo) a) else fW N lo n
 |_=>pure (.done (some Yt,lo))
def rE (p:Array (Nat×Nat×Nat)):Nat:=if Option.any (λx=>decide (x<p[p.size-2+1]?.elim 0 λx=>x.2.1)) (if p.size-2 > 0 then p[p.size-2-1]?.map (λx=>x.2.1) else none)=true then p.size-2-1 else p.size-2
noncomputable def rG:SM (ForInStep U2):=get >>= λz=>if(pendingOf z).size<=1 then pure (.done (none,Yt)) else mergeAt' (rE (pendingOf z)) >>= λb=>if(!b)=true then pure (.done (some Yt,Yt)) else pure (.yield (none,Yt))
set_option smartUnfolding false in
def uu:sortRuns'=(get >>= λz=>(forIn [:(arrOf z).size] ((none,0):U1) λ_ c=>c9 (arrOf z).size (minRun' (arrOf z).size (arrOf z).size 0) c.2) >>= λc=>match c.1 with
 |some r=>pure r
 |none=>(forIn [:(arrOf z).size] ((none,Yt):U2) λ_ _=>rG) >>= λc=>match c.1 with
  |some r=>pure r
  |none=>pure Yt):=rfl
def Ow {c:Prop}[Decidable c]{x y z:Nat}(h:x<=z)(k:y<=z):(if c then x else y)<=z:=by split<;>assumption
def Ox {p:Array (Nat×Nat×Nat)}:rE p<=p.size-2:=Ow (U9 _ _) (Zf _)
section
variable {ps:Yc}{lo k pw:Nat}{jx px:Yi}{R:ForInStep U1->YB}(Sg:Seg lt jx lo (lo+k))(k1:1<=k)(k2:lo+k<=N)(suf:∀i,lo+k<=i->i<N->gx jx i=i)
 (go:∀ps jx st',RI it kind lt N ps (lo+k) jx st'->(∀i,lo+k<=i->i<N->gx jx i=i)->R (.yield (none,lo+k)) st')
include Sg k1 k2 suf go
theorem Fa (a:RI it kind lt N ps lo jx st):YK prog w A E s (mu lo k) R st:=
 Yo (wpS_modify (Yp (go (ps++[(lo,k,0)]) jx _ ⟨⟨a.b.arr,a.b.kd,a.b.fl,by rw[Cj,a.b.pd];simp⟩,a.size,a.perm,a.ch.cat ⟨rfl,k1,Sg,rfl⟩,k2⟩ suf)))
theorem Oy (h:1<=ps.length)(a:RI it kind lt N ps lo jx st):YK prog w A E s (rC lo k pw (none,Yt)) R st:=by
 rcases List.eq_nil_or_concat ps with z|⟨l2,v,z⟩
 .simp_all
 .subst z;rw[List.concat_eq_append] at a;refine Yo (wpS_modify (Fa (ps:=l2++[(v.1,v.2.1,pw)]) Sg k1 k2 suf go ⟨⟨a.b.arr,a.b.kd,a.b.fl,?_⟩,a.size,a.perm,?_,a.le⟩))
  .rw[Cj,a.b.pd];exact Ov _
  .obtain⟨c,c1,b,e,f,g⟩:=a.ch.app;exact c1.cat ⟨b,e,f,g⟩
end
def Oz {ps:Yc}{lo h:Nat}{e:Yi}{Q:ForInStep U2->YB}(W:Wk lt)(O:yh prog w A s kind it lt N)(m:1<=ps.length)(f:RI it kind lt N ps lo e st)(g:Q (.done (none,Yt)) st)
 (go:∀a c b,1<=a.length->RI it kind lt N a lo c b->(∀i,lo<=i->gx c i=gx e i)->Q (.yield (none,Yt)) b):YK prog w A E s (rF h) Q st:=by
 refine Yo (wpS_get ?_);rw[f.b.pd]
 split
 .have hp:2<=ps.length:=by
   grind
  refine wi (λ_=>Yp g) λ_=>Yo (EZ W O f () λa c b n j l=>Yp (go a c b () j l))
 .exact Yp g
def O0 {ps:Yc}{lo k:Nat}{ix a:Yi}{R:ForInStep U1->YB}(W:Wk lt)(O:yh prog w A s kind it lt N)(B:SBp it kind ps.toArray a st)(L:PlO lo N ix a (lo+k))(U:za lt lo a (lo+k))(ch:ym lt ix 0 ps lo)(le:lo<=N)(k1:1<=k)(k2:lo+k<=N)
 (go:∀ps b e,RI it kind lt N ps (lo+k) b e->(∀i,lo+k<=i->i<N->gx b i=i)->R (.yield (none,lo+k)) e):YK prog w A E s (fW N lo k) R st:=by
 have m:Seg lt a lo (lo+k):=⟨L.mid,U⟩;have n:RI it kind lt N ps lo a st:=⟨B,L.size,L.perm,ch.same λi _ g=>L.low i g,le⟩;refine Yo (wpS_get ?_);rw[B.pd];rcases List.eq_nil_or_concat ps with z|⟨l,y,z⟩
 .subst z;exact Fa m k1 k2 L.suf go n
 .have f:1<=ps.length:=by simp_all
  rw[show ps.toArray.back? = some y by simp_all];refine Yo (Yq (Yr (I:=λ_ c h=>c=(none,Yt)/\∃ps b,1<=ps.length/\RI it kind lt N ps lo b h/\∀i,lo<=i->gx b i=gx a i) ?_ (λ_ _ z=>z) ⟨rfl,_,a,f,n,λ_ _=>rfl⟩) ?_)
  .rintro y c h _ _ ⟨rfl,ps,b,f,j,un⟩;exact Oz W O f j () ()
  .rintro c h ⟨rfl,ps,b,f,j,un⟩;exact Oy (m.same ()) k1 k2 (λi o g=>(un i (Zh (Uj _ _) o)).trans (L.suf i o g)) go f j
def O1 {ps:Yc}{e:Yi}{Q:ForInStep U2->YB}(W:Wk lt)(O:yh prog w A s kind it lt N)(R:RI it kind lt N ps N e st)(f:ps.length<=1->Q (.done (none,Yt)) st)
 (go:∀a g b,a.length+1=ps.length->RI it kind lt N a N g b->Q (.yield (none,Yt)) b):YK prog w A E s rG Q st:=by
 refine Yo (wpS_get ?_);rw[R.b.pd];refine wi (λc=>Yp (f c)) λc=>Yo (EZ W O R ?_ λa e b h i _=>Yp (go a e b h i));have:=Ox (p:=ps.toArray)
 grind
def O2 {ix:Yi}{Q:Unit->YB}(W:Wk lt)(O:yh prog w A s kind it lt N)(C:RI it kind lt N [] 0 ix st)(l:∀i,i<N->gx ix i=i)(o:2<=N)
 (h:∀j f,arrOf f=j.map it->failedOf f=none->Pl N j N->Up lt j N->Q Yt f):YK prog w A E s sortRuns' Q st:=by
 have sz:(arrOf st).size=N:=by rw[C.b.arr,Ul];exact C.size
 rw[uu];refine Yo (wpS_get ?_);rw[sz];refine Yo (Yq (Yr (I:=λx c t=>∃lo ps ix,c=(none,lo)/\x<=lo/\RI it kind lt N ps lo ix t/\∀i,lo<=i->i<N->gx ix i=i) (Q:=λc t=>∃ps ix,c=(none,N)/\RI it kind lt N ps N ix t) ?_ ?_ ⟨0,[],ix,rfl,Zf _,C,λi _ X=>l i X⟩) ?_)
 .rintro x c t _ Y ⟨lo,ps,ix,rfl,J,R,l⟩;have le:=R.le;refine wi (λq=>?_) λq=>?_
  .have e:lo=N:=Nat.le_antisymm le q;subst e;exact Yp ⟨ps,ix,rfl,R⟩
  have q:lo<N:=Yv q;have Z:PlO lo N ix ix (lo+1):=⟨R.size,R.perm,λ_ _=>rfl,λa u o=>by
   rw[l a u (Zg o q)];exact⟨u,o⟩,λa u o=>l a (Uz u) o⟩
  have sub:∀{k},k<=N-lo->lo+k<=N:=λh=>Zh (Nat.add_le_add_left h _) (Yx (Vw le));have y:∀{k z F} {n:ForInStep U1->YB},SBp it kind ps.toArray z F->1<=k->k<=N-lo->PlO lo N ix z (lo+k)->za lt lo z (lo+k)->(∀ps j f,x+1<=lo+k->RI it kind lt N ps (lo+k) j f->(∀i,lo+k<=i->i<N->gx j i=i)->n (.yield (none,lo+k)) f)->YK prog w A E s (fW N lo k) n F:=
   λB k1 k2 L U g=>O0 W O B L U R.ch le k1 (sub k2) λps j f n s'=>g ps j f (Nat.add_le_add J k1) n s'
  exact Yo (Op W O (sub (Zf _)) (λm kx s2 K M m2 P U2=>wi (λS=>Yo (wpS_lift (wpAny_rule ⟨rfl,Yo (Os W O (sub (Nat.min_le_left _ _)) (Nat.le_min.mpr ⟨m2,Zz S⟩) M K P U2 λz F B3 L3 U3=>y B3 (Nat.le_min.mpr ⟨Nat.sub_pos_of_lt q,Nat.zero_lt_of_lt S⟩) (Nat.min_le_left _ _) L3 U3 λps j f g n s'=>⟨_,ps,j,rfl,g,n,s'⟩)⟩))) λ_=>y K M m2 P U2 λps j f g n s'=>⟨_,ps,j,rfl,g,n,s'⟩) (Nat.sub_pos_of_lt q) R.b Z)
 .rintro c t ⟨lo,ps,ix,rfl,J,R,l⟩;have le:=R.le
  grind
 .rintro c t ⟨ps,ix,rfl,R⟩;refine Yo (Yq (Yr (I:=λx c v=>∃ps ix,c=(none,Yt)/\(ps.length<=1\/ps.length+x<=N)/\RI it kind lt N ps N ix v) (Q:=λc v=>∃ps ix,c=(none,Yt)/\ps.length<=1/\RI it kind lt N ps N ix v) ?_ ?_ ⟨ps,ix,rfl,.inr (by have:=R.ch.le;lia),R⟩) ?_)
  .rintro x c v _ Y ⟨ps,ix,rfl,T,R⟩;exact O1 W O R (λc1=>⟨ps,ix,rfl,c1,R⟩) ()
  .grind
  .rintro c v ⟨ps,ix,rfl,T,R⟩;cases ps with
   |nil =>
    have:0=N:=R.ch;lia
   |cons p r =>
    have e:r=[]:=List.eq_nil_of_length_eq_zero (Nat.le_zero.mp (Nat.le_of_succ_le_succ T));subst e;obtain⟨d1,d2,G,H⟩:=R.ch;have H:0+p.2.1=N:=H;rw[H] at G;exact Yp (h ix v R.b.arr R.b.fl ⟨R.size,R.perm,λa ha=>(G.pl a (Ua _) ha).2,λa u o=>Zn o (Nat.not_lt_of_le u)⟩ λa b ab bn=>G.up a b (Ua _) ab bn)
end
open PySem PyProof.Rows
section
variable {prog:Program}{w:World}{A:Around}{E:Ya}{s:Shared}{kind:SortKind}{it:Nat->Keyed}{lt:Yd}{n:Nat}{ix:Yi}{st:SortSt}
def Fb (W:Wk lt)(O:yh prog w A s kind it lt n){Q:Unit->YB}(B:SB it kind ix st)(L:Pl n ix 1)(c:2<=n)(e:n<1000)
 (h:∀b a,arrOf a=b.map it->failedOf a=none->Pl n b n->Up lt b n->Q Yt a):YK prog w A E s sortRuns' Q st:=
 O2 W O ⟨⟨B.arr,B.kd,B.fl,B.pd⟩,L.size,L.perm,rfl,Ua _⟩ (λi f=>if z:i=0 then by rw[z];have:=L.pre 0 ();lia else L.suf i () f) c h
end
def jC (a:Yf)(i:Nat):Value:=a.getD i .none
def Ck (vs):vs.toArray.zip vs.toArray=(Array.range vs.length).map λi=>(jC vs i,jC vs i):=by
 apply Array.ext_getElem?;intro k;rw[UQ];by_cases h:k<vs.length
 .rw[Array.getElem?_range,Zd h];have e:jC vs k=vs[k]:=by unfold jC;rw[Ut,Zqg h];rfl
  simp[Array.getElem?_zip_eq_some,h,e]
 .rw[Array.getElem?_range,Ze h,VV (by simp;lia)];rfl
def Fc (h:k<n):gx (Array.range n) k=k:=by
 simp_all [gx]
def An (n k)(b:k<=n):Pl n (Array.range n) k:=by
 refine⟨Array.size_range,Array.Perm.refl _,λa c=>?_,λa _ h=>Fc h⟩
 rwa [Fc ()]
section
variable {prog:Program}{w:World}{A:Around}{E:Ya}{s:Shared}{lt:Yd}
def zS (prog:Program)(w:World)(A:Around)(s:Shared)(a:Yf)(lt:Yd):Prop:=
 ∃kind,(∀(E:Ya) (Q:SortKind->YC),Q kind s->YJ prog w A (keyKind' a.toArray) Q E s)/\yh prog w A s kind (λi=>(jC a i,jC a i)) lt a.length
def Fd (W:Wk lt)(m:s.heap.get? a=some (seqObj "list" vs.toArray n))(r:vs.length<1000)
 (x:∀h',(∀b o,b≠a->s.heap.get? b=some o->h'.get? b=some o)->2<=vs.length->zS prog w A { s with heap:=h' } vs lt)
 (h:∀c,Pl vs.length c vs.length->Up lt c vs.length->P (.done (.ret .none)) { s with heap:=sortedHeap s.heap a vs (c.map (jC vs)) }):
 YJ prog w A (Builtin.«list.sort» ⟨[.ref a],[]⟩) P E s:=by
 rw[list_sort_plain];have G:a<s.heap.objs.size:=Zk m;obtain⟨c1,g1⟩:∃c1,(s.heap.update a (Obj.mapSeq λ_ => #[])).get? a=some (seqObj "list" #[] c1):=⟨_,get?_update_seq m (λ_ => #[])⟩;refine Za (listItems_at m rfl (Za (listUpdate_at m rfl (Za (seqEpoch_at g1 rfl (Za (wpAny_newTuple (Za (wpAny_newList (wpAny_holding ?_))))))))));have t:∀b,b<s.heap.objs.size->b≠(s.heap.update a (Obj.mapSeq λ_ => #[])).objs.size:=λb p=>by
  rw[Heap.size_update];exact Zi p
 have u:∀b,b<s.heap.objs.size->b≠((s.heap.update a (Obj.mapSeq λ_ => #[])).push (seqObj "tuple" vs.toArray 0)).objs.size:=λb p=>by
  rw[size_push',Heap.size_update];exact by lia
 have q:(((s.heap.update a (Obj.mapSeq λ_ => #[])).push (seqObj "tuple" vs.toArray 0)).push (seqObj "list" #[] 0)).get? a=some (seqObj "list" #[] c1):=by
  grind[Heap.get?_push_ne]
 have y:∀b o,b≠a->s.heap.get? b=some o->(((s.heap.update a (Obj.mapSeq λ_ => #[])).push (seqObj "tuple" vs.toArray 0)).push (seqObj "list" #[] 0)).get? b=some o:=λb o p e=>by
  rw[Heap.get?_push_ne _ _ _ (u b (Zk e)),Heap.get?_push_ne _ _ _ (t b (Zk e)),Heap.get?_update_ne _ _ _ _ p];exact e
 have v:∀(c:Yi),(c.map λi=>(jC vs i,jC vs i)).map (·.2)=c.map (jC vs):=by simp
 show YJ prog w A _ P E { s with heap:=((s.heap.update a (Obj.mapSeq λ_ => #[])).push (seqObj "tuple" vs.toArray 0)).push (seqObj "list" #[] 0) };dsimp only;have sz:vs.toArray.size=vs.length:=by simp
 by_cases g:vs.toArray.size<2
 .rw[Zd g,Zd g];refine Za (Zb ?_);rw[StateT.run_pure];refine Za (Zb ?_);dsimp only;refine Za (seqEpoch_at q rfl (Za (listUpdate_at q rfl ?_ (hsz2:=by rw[Ul,Ck,Ul,Array.size_range,sizeLine_eq];lia))));simp only[bne_self_eq_false,UF,if_false];have f:=h (Array.range vs.length) (An _ _ (Zf _)) λi j H I=>()
  rw[<- v,<- Ck] at f;exact Zb f
 .rw[Ze g,Ze g];obtain⟨kind,k1,k2⟩:=x _ y ();refine Za (k1 _ _ ?_);refine Za (Zc (Fb W k2 (ix:=Array.range vs.length) (st:=SortSt.mk' kind (vs.toArray.zip vs.toArray) #[] 7 none) (Q:=λ_ l=>∃c,arrOf l=c.map (λi=>(jC vs i,jC vs i))/\failedOf l=none/\Pl vs.length c vs.length/\Up lt c vs.length)
   ⟨Ck vs,rfl,rfl,rfl⟩ (An _ _ ()) () r λc l z B C F=>⟨c,z,B,C,F⟩) ?_ λ_ _ e=>e)
  rintro⟨⟨⟩,l⟩ s' ⟨rfl,c,q1,q2,q3,q4⟩;dsimp only;refine Za (seqEpoch_at q rfl (Za (listUpdate_at q rfl ?_ (hsz2:=by
   rw[Ul,q1,Ul,q3.size,sizeLine_eq];lia))))
  rw[q2];simp only[bne_self_eq_false,UF,if_false];have f:=h c q3 q4;rw[<- v,<- q1] at f;exact Zb f
def Fe (W:Wk lt)
 (i:wpAny (model prog w) A.in1 (collect x) (λa c=>a.length<1000/\(∀h',(∀b o,c.heap.get? b=some o->h'.get? b=some o)->2<=a.length->zS prog w A.in1.in1 { c with heap:=h' } a lt) /\
  ∀f h' l,Pl a.length f a.length->Up lt f a.length->(∀b o,c.heap.get? b=some o->h'.get? b=some o)->c.heap.objs.size<=l->(∃e,h'.get? l=some (seqObj "list" (f.map (jC a)) e))->Q (.ref l) { c with heap:=h' }) E s):
 YJ prog w A (call (.builtin "sorted") [x]) Q E s:=by
 refine Calls.call_function_entry kind_sorted plain_sorted entry_sorted (args_sorted1 _) (Za (Zb (Za (Zc i (λa c z=>?_) λ_ _ e=>e))));obtain⟨g,j,m⟩:=z;have h:(c.heap.push (seqObj "list" a.toArray 0)).get? c.heap.objs.size=some (seqObj "list" a.toArray 0):=Zr _ rfl;have n:∀b o,c.heap.get? b=some o->b≠c.heap.objs.size:=λb o e=>Zi (Zk e);refine Za (wpAny_newList (Za (wpAny_holding (wpAny_call_entry slot_list_sort ⟨_,h,rfl⟩ entry_list_sort (Fd W h g (λh' q=>j h' λb o e=>q b o (n b o e) (Zq _ e)) λf p u=>⟨_,rfl,Zb ⟨_,rfl,m f _ _ p u (λb o e=>?_) (Zf _) (sortedHeap_at h)⟩⟩) (args_list_sort _)))))
 grind[size_push',sortedHeap_old,Nat.lt_succ_of_lt,Heap.lt_size,Heap.get?_push_of_some]
end
structure Tot {α: Type}(ltb:α -> α -> Bool):Prop where
 asy:∀a b,ltb a b=true->ltb b a=false
 neg:∀a b c,ltb a c=true->ltb a b=true\/ltb b c=true
 tot:∀a b,ltb a b=false->ltb b a=false->a=b
def Tot.irr {α: Type}{ltb:α -> α -> Bool}(T:Tot ltb)(a):ltb a a=false:=by
 cases q:ltb a a with
 |false=>rfl
 |true=>have:=T.asy _ _ q;simp_all
def Tot.wk {α: Type}{ltb:α -> α -> Bool}(T:Tot ltb)(f:Nat -> α):Wk λi j=>ltb (f i) (f j):=⟨λi j=>T.asy _ _,λi j k=>T.neg _ _ _⟩
def jV (p q:Int×Int):Bool:=decide (p.1<q.1)||(decide (p.1=q.1)&&decide (p.2<q.2))
theorem W6:jV p q=true↔p.1<q.1\/(p.1=q.1/\p.2<q.2):=by
 unfold jV;simp
theorem XV:jV p q=false↔¬(p.1<q.1\/(p.1=q.1/\p.2<q.2)):=by
 rw[<- W6];simp
def we:Tot jV:=by
 refine⟨λa b h=>?_,λa b c h=>?_,λa b e f=>?_⟩
 .rw[W6] at h;rw[XV];lia
 .grind[W6]
 grind[XV]
def j8:Jy->Jy->Bool
 | [],[]=>false
 | [],_::_=>true
 |_::_,[]=>false
 |p::r,q::s=>if p=q then j8 r s else jV p q
def KZ (p q)(r s):j8 (p::r) (q::s)=if p=q then j8 r s else jV p q:=rfl
theorem Ff:∀a b:Jy,j8 a b=true->j8 b a=false
 | [],[],h=>JC h
 | [],_::_,_=>rfl
 |_::_,[],h=>JC h
 |p::r,q::s,h=>by
  rw[KZ] at h ⊢;by_cases e:p=q
  .rw[Zd e] at h;rw[Zd e.symm];exact Ff r s h
  .rw[Ze e] at h;rw[Ze (λz=>e z.symm)];exact we.asy _ _ h
theorem Fg:∀a b c:Jy,j8 a c=true->j8 a b=true\/j8 b c=true
 | [],[],c,h=>.inr h
 | [],_::_,_,_=>.inl rfl
 |_::_,_,[],h=>JC h
 |p::r,[],q::s,_=>.inr rfl
 |p::r,x::t,q::s,h=>by
  rw[KZ] at h;rw[KZ,KZ];by_cases e:p=q
  .rw[Zd e] at h;by_cases f:p=x
   .rw[Zd f,Zd (f.symm.trans e)];exact Fg r t s h
   .rw[Ze f,Ze (λz=>f (e.trans z.symm))];cases z:jV p x with
    |true=>simp
    |false =>
     right;rw[<- e];cases y:jV x p with
     |true=>rfl
     |false=>exact Zn (we.tot _ _ z y) f
  .rw[Ze e] at h;by_cases f:p=x
   .simp_all
   .rw[Ze f];by_cases g:x=q
    .left
     rwa [g]
    .rw[Ze g];exact we.neg _ _ _ h
theorem Fh:∀a b:Jy,j8 a b=false->j8 b a=false->a=b
 | [],[],_,_=>rfl
 | [],_::_,h,_=>by cases h
 |_::_,[],_,h=>by cases h
 |p::r,q::s,h1,h2=>by
  rw[KZ] at h1 h2;by_cases e:p=q
  .rw[Zd e] at h1;rw[Zd e.symm] at h2;rw[e,Fh r s h1 h2]
  .rw[Ze e] at h1;rw[Ze (λz=>e z.symm)] at h2;exact Zn (we.tot _ _ h1 h2) e
def xU:Tot j8:=⟨Ff,Fg,Fh⟩
section
variable {α: Type}(ltb:α -> α -> Bool)
def zg (x:α):List α -> List α
 | []=>[x]
 |y::r=>if ltb x y=true then x::y::r else y::zg x r
def JQ:List α -> List α
 | []=>[]
 |x::r=>zg ltb x (JQ r)
def Sd (l:List α):Prop:=l.Pairwise λa b=>ltb b a=false
variable {ltb}
theorem Cm (x):∀l:List α,(zg ltb x l).Perm (x::l)
 | []=>Vz _
 |y::r=>by
  unfold zg
  split
  .rfl
  .exact((Cm x r).cons y).trans (List.Perm.swap x y r)
theorem Qz:∀l:List α,(JQ ltb l).Perm l
 | []=>Vz _
 |x::r=>(Cm x _).trans ((Qz r).cons x)
theorem Fi (T:Tot ltb)(x):∀l:List α,Sd ltb l->Sd ltb (zg ltb x l)
 | [],_=>VW _ _
 |y::r,h=>by
  have ⟨b,a⟩:=Ji.mp h;unfold zg
  split
  .rename_i c;refine Ji.mpr ⟨λz hz=>?_,h⟩;rcases Uq.mp hz with e|e
   .rw[e];exact T.asy _ _ c
   .cases q:ltb z x with
    |false=>rfl
    |true =>
     rcases T.neg x z y c with u|u
     .rw[T.asy _ _ u] at q;exact JC q
     simp_all
  .refine Ji.mpr ⟨λz hz=>?_,Fi T x r a⟩
   grind[Cm]
theorem W7 (T:Tot ltb):∀l:List α,Sd ltb (JQ ltb l)
 | []=>List.Pairwise.nil
 |x::r=>Fi T x _ (W7 T r)
theorem Ao (T:Tot ltb):∀{a b:List α},a.Perm b->Sd ltb a->Sd ltb b->a=b
 | [],b,p,_,_=>p.nil_eq
 |x::r,b,p,ha,hb=>by
  cases b with
  |nil=>simp_all
  |cons y t =>
   have ⟨c,f⟩:=Ji.mp ha;have ⟨g,h⟩:=Ji.mp hb;have e:x=y:=by
    rcases Uq.mp (p.mem_iff.mp Zqs) with z|z
    .exact z
    .rcases Uq.mp (p.mem_iff.mpr Zqs) with u|u
     .exact u.symm
     .exact T.tot _ _ (g x z) (c y u)
   subst e;rw[Ao T p.cons_inv f h]
def Co (T:Tot ltb){l:List α}{d:α}(p:Pl l.length jx l.length)(u:Up (λi j=>ltb (l.getD i d) (l.getD j d)) jx l.length):jx.toList.map (λi=>l.getD i d)=JQ ltb l:=by
 refine Ao T ?_ ?_ (W7 T l)
 .refine Vx ?_ (Qz l).symm;have q:jx.toList.Perm (List.range l.length):=by
   have:=Jq.mp p.perm;simpa using this
  refine(q.map _).trans (List.Perm.of_eq ?_);apply List.ext_getElem
  .simp
  .intro i m c;simp[c]
 .refine Jj.mpr λa b e f ab=>?_;rw[VL,VL];have sz:jx.toList.length=l.length:=by rw[Ui,p.size]
  rw[Zql] at e f;have g:jx.toList[a]=gx jx a:=by
   simp_all [gx]
  have h:jx.toList[b]=gx jx b:=by
   simp_all [gx]
  rw[g,h];exact jJ.no (T.wk λi=>l.getD i d) (u a b ab ())
end
theorem Qe {α: Type}{l:List α}{d x:α}(h:l[i]? = some x):l.getD i d=x:=()
def W8 (h:Heap)(b:Yf)(ps:Jy):Prop:=b.length=ps.length/\∀(i:Nat) p,ps[i]? = some p->∃a o n t u,b[i]? = some (.ref a)/\h.get? a=some o/\o.cls=.type "tuple" /\ o.data=.seq #[.int p.1 t,.int p.2 u] n
section
variable {prog:Program}{w:World}{A:Around}{s:Shared}
theorem Fj:∀{b:Yf} {ps:Jy},W8 h b ps->∃fs,W.KatTups h b fs/\fs.length=b.length/\∀v∈fs,∃k t,v=Value.int k t
 | [],ps,q=>⟨[],.nil,rfl,()⟩
 |v::b,[],q=>by have:=q.1;simp at this
 |v::b,p::ps,q=>by
  obtain⟨a,o,n,t,u,c,e,f,g⟩:=q.2 0 p rfl;obtain rfl:=Zqi c;have ⟨fs,k1,k2,k3⟩:=Fj ⟨by have:=q.1;simp_all,λi p hp=>q.2 (i+1) p hp⟩;refine⟨.int p.1 t::fs,.cons e f g rfl k1,by simp[k2],λv j=>?_⟩
  grind
def O3 (q:W8 s.heap vs ps)(B:2<=vs.length):zS prog w A s vs λi j=>jV (ps.getD i (0,0)) (ps.getD j (0,0)):=by
 obtain⟨fs,k1,k2,k3⟩:=Fj q;refine⟨tuples' (Value.type "int" != Value.type "tuple"),λE Q h=>W.kat_kind (T:=Value.type "int") k1 () (λv b=>?_) rfl h,λi j C F E Q h=>?_⟩
 .obtain⟨k,t,rfl⟩:=k3 v b;exact W.Looks.of_pure rfl
 .have G:=q.1;obtain⟨p,hp⟩:∃p,ps[i]? = some p:=by grind
  obtain⟨p',hp'⟩:∃p,ps[j]? = some p:=by grind
  obtain⟨a,o,n,t,u,e,f,H,l⟩:=q.2 i p hp;obtain⟨I,J,K,t',m,r,x,L,y⟩:=q.2 j p' hp';dsimp only at h;rw[Qe hp,Qe hp'] at h;show YJ prog w A (keyLt' _ (jC vs i) (jC vs j)) Q E s;unfold jC;rw[Qe e,Qe r];refine W.kat_lt f l x y ?_;refine W.kat_cons (PySem.SeqAt.EqAt.int_int p.1 t p'.1 t' prog w _ _ ?_);by_cases c:p.1=p'.1
  .rw[show(p.1 == p'.1)=true by simpa using c];refine W.kat_yes (W.kat_cons (PySem.SeqAt.EqAt.int_int p.2 u p'.2 m prog w _ _ ?_));by_cases d:p.2=p'.2
   .rw[show(p.2 == p'.2)=true by simpa using d];refine W.kat_yes (W.kat_nil ?_)
    grind[XV]
   .rw[show(p.2 == p'.2)=false by simp_all];refine W.kat_no (W.kat_one _ _ (lt_int ?_));have z:jV p p'=decide (p.2<p'.2):=by
     grind[W6,XV]
    rw[z] at h;exact h
  .rw[show(p.1 == p'.1)=false by simpa using c];refine W.kat_no (oneLt_int ?_);have z:jV p p'=decide (p.1<p'.1):=by
    by_cases g:p.1<p'.1
    .rw[Zp g,W6];lia
    .rw[Zo g,XV];lia
   rwa [z] at h
structure RowAt (h:Heap)(v:Value)(r:Jy)(a:Addr)(o:Obj)(us:Yf)(n:Nat):Prop where
 isv:v=.ref a
 get:h.get? a=some o
 cls:o.cls=.type "tuple"
 dat:o.data=.seq us.toArray n
 prs:W8 h us r
def Cp (ok:qL P w H h)(g:Is H (rD r) x)(j:js x v):∃a o l n,RowAt h v r a o l n:=by
 obtain⟨a,J,rfl,m,c⟩:=g;obtain rfl:=j;obtain⟨_,its,e,o,q,t,n,y⟩:=(ok a _ m);refine⟨a,o,its,n,rfl,q,t,y,?_,λi p hp=>?_⟩
 .have K:=c.length;have L:=e.length
  simp_all
 .obtain⟨x,z,B⟩:=c.get (by rw[Zv,hp];rfl);obtain⟨u,M,C⟩:=e.get z;obtain⟨b,rfl,E⟩:=bQ.mp B;obtain rfl:=C;obtain⟨_,f,F,N,O,Q,R,S⟩:=(ok b _ E);obtain⟨T,U,rfl,G,I⟩:=ZX F;obtain⟨X,rfl⟩:=(G);obtain⟨Y,rfl⟩:=(I)
  simp_all
theorem Fk (I:A.units+4<cLine){f:Bool}{E:Ya}{Q:Bool->YC}:∀{r g:Jy} {e b:Yf} i,W8 s.heap e r->W8 s.heap b g ->
 f=decide (r.length<g.length)->Q (j8 r g) s->W.KatLex prog w A false f Q (e.zip b) i s
 | [],[],e,b,i,q,q',hf,h=>by
  obtain rfl:e=[]:=Jo.mp q.1;refine W.kat_nil ?_;rw[hf];exact h
 | [],p::g,e,b,i,q,q',hf,h=>by
  obtain rfl:e=[]:=Jo.mp q.1;refine W.kat_nil ?_;rw[hf,Zp ()];exact h
 |p::r,[],e,b,i,q,q',hf,h=>by
  obtain rfl:b=[]:=Jo.mp q'.1;rw[List.zip_nil_right];refine W.kat_nil ?_;rw[hf,Zo ()];exact h
 |p::r,p'::g,e,b,i,q,q',hf,h=>by
  obtain⟨a,o,n,t,u,j,m,x,y⟩:=q.2 0 p rfl;obtain⟨B,J,K,t',C,l,F,G,H⟩:=q'.2 0 p' rfl;cases e with
  |nil=>exact J5 j
  |cons v e =>
   cases b with
   |nil=>exact J5 l
   |cons L b =>
    have j:some v=some (Value.ref a):=j;have l:some L=some (Value.ref B):=l;obtain rfl:=Zqi j;obtain rfl:=Zqi l;have M:Reads s.heap (.ref a) (pD p) _:=.tuple m x y (.cons (.int p.1 t) (.cons (.int p.2 u) .nil));have R2:Reads s.heap (.ref B) (pD p') _:=.tuple F G H (.cons (.int p'.1 t') (.cons (.int p'.2 C) .nil));have P:∀z:Int×Int,(pD z).depth=1:=λz=>by
     rfl
    refine W.kat_cons (PySem.SeqAt.eqAt_reads _ _ A s _ _ _ _ M R2 rfl rfl () prog w _ _ ?_);rw[KZ] at h;by_cases c:p=p'
    .subst c;rw[NN (BY p)];rw[Zd rfl] at h;refine W.kat_yes (Fk I (E:=E) (i+1) ⟨by have:=q.1;simp_all,λi z hz=>q.2 (i+1) z hz⟩ ⟨by have:=q'.1;simp_all,λi z hz=>q'.2 (i+1) z hz⟩ () h)
    .rw[Ze c] at h;have ne:pD p≠pD p':=λz=>c (by
      grind[pD])
     rw[NM (BY p) (BY p') ne];have N:IntsAre (#[Value.int p.1 t,Value.int p.2 u]:Yn).toList [p.1,p.2]:=.cons _ _ (.cons _ _ .nil);have O:IntsAre (#[Value.int p'.1 t',Value.int p'.2 C]:Yn).toList [p'.1,p'.2]:=.cons _ _ (.cons _ _ .nil);refine W.kat_one _ _ (HT.lt_tupInts ⟨o,m,x,n,y⟩ ⟨J,F,G,K,H⟩ N O () ?_);have z:HT.lexLt [p.1,p.2] [p'.1,p'.2]=jV p p':=by
      grind[jV,HT.lexLt_cons,HT.lexLt_nil_nil]
     rwa [z]
def Fl {P:Program}{H:Hp}{rs:Jz}{J:YE}{c:Yf}(S:A.units+4<cLine)(ok:qL P w H s.heap)(K:qm H (rs.map rD) J)(L:jv J c)(e:∀r∈rs,r ≠ [])(h2:2<=c.length):
 zS prog w A s c λi j=>j8 (rs.getD i []) (rs.getD j []):=by
 have U:=K.length;have l2:=L.length;rw[Zql] at U;have at_:∀(i:Nat) r,rs[i]? = some r->∃v a o l n,c[i]? = some v/\RowAt s.heap v r a o l n:=λi r g=>by
  obtain⟨x,X,M⟩:=K.get (i:=i) (d:=rD r) (by rw[Zv,g];rfl);obtain⟨v,m,Y⟩:=L.get X;obtain⟨a,o,l,n,R⟩:=Cp ok M Y;exact⟨v,a,o,l,n,m,R⟩
 have f:∀c (rs:Jz),c.length=rs.length->(∀r∈rs,r ≠ [])->(∀(i:Nat) r,rs[i]? = some r->∃v a o l n,c[i]? = some v/\RowAt s.heap v r a o l n)->∃fs,W.KatTups s.heap c fs/\fs.length=c.length/\∀v∈fs,∃b q,v=Value.ref b/\s.heap.get? b=some q/\q.cls=.type "tuple" := by
  intro c
  induction c with
  |nil=>exact λ_ _ _ _=>⟨[],.nil,rfl,λv m=>nomatch m⟩
  |cons v c Z =>
   intro rs N e B;cases rs with
   |nil=>simp at N
   |cons r rs =>
    obtain⟨O,a,o,l,n,C,R⟩:=B 0 r rfl;have C:some v=some O:=C;obtain rfl:=Zqi C;obtain⟨fs,k1,k2,k3⟩:=Z rs (by simpa using N) (λr g=>e r (Zqm _ g)) λi r g=>B (i+1) r g;cases r with
    |nil=>exact Zn rfl (e [] Zqs)
    |cons p r =>
     obtain⟨b,q,nb,t,u,G,I,g3,g4⟩:=R.prs.2 0 p rfl;obtain rfl:v=Value.ref a:=R.isv;refine⟨.ref b::fs,.cons R.get R.cls R.dat (by simpa using G) k1,by simp[k2],λz hz=>?_⟩;rcases Uq.mp hz with y|y
     .exact⟨b,q,y,I,g3⟩
     .exact k3 z y
 obtain⟨fs,k1,k2,k3⟩:=f c rs () e at_;refine⟨tuples' (Value.type "tuple" != Value.type "tuple"),λE Q h=>W.kat_kind (T:=Value.type "tuple") k1 () (λv m=>?_) rfl h,λi j M hj E Q h=>?_⟩
 .obtain⟨b,q,rfl,G,I⟩:=k3 v m;rw[<- I];exact(W.Looks.ld G).andThen .now
 .obtain⟨r,g⟩:∃r,rs[i]? = some r:=by grind
  obtain⟨r',hr'⟩:∃r,rs[j]? = some r:=⟨_,Zqg ()⟩;obtain⟨v,a,o,l,n,C,R⟩:=at_ i r g;obtain⟨O,a',o',us',n',f1,F⟩:=at_ j r' hr';dsimp only at h;rw[Qe g,Qe hr'] at h;show YJ prog w A (keyLt' _ (jC c i) (jC c j)) Q E s;unfold jC;rw[Qe C,Qe f1,R.isv,F.isv];refine W.kat_lt R.get R.dat F.get F.dat ?_;exact Fk S (E:=E) 0 R.prs F.prs (by rw[Zm,Zm,R.prs.1,F.prs.1]) h
end
section
variable {X:Cx}{tg iter elt c:Expr}{scope:Scope}{pos:Pos}{wi:TI}{g:TG}{te:TE}{tt:TT}
def Fo (N)(cap)(p:X.calm=true)(l:QJ scope X.env N X.N cap=true)(r:PI X tg iter wi)(t:∀a C s H f,PG (JJ X scope N a C s H f) tg g)(u:∀a C s H f,PT (JJ X scope N a C s H f) c tt)(v:∀a C s H f,PE (JJ X scope N a C s H f) elt te)
 (hs:∀x,foldedSetIterable iter X.env x=pure x) {use:Option (Value->Sem Unit)} {R:Ya} {i:Pos} {Y:Yb} {s:Shared} {Z: St} {H:Hp} {Q:VK} (I:Inv X Y Z H s) (h:XJ cap wi g tt te Z H Q) (m:XL X Y Z Q use R):
 YI X (comprehension (.ListComp elt [⟨tg,iter,[c],0⟩] scope pos) scope X.env i (newList []) false (eval iter X.env) use) R X.xe s:=
 E2 (test:=λenv R Q s=>YI X (isTrue c env (eval c env)) Q (notedBy (model X.prog X.w) X.A env λe s'=>R (.error e) s') s) N (λI j n h=>W.kct_loop I j n h)
  (λa C s H f _ _ _ _ _ _ _ _ o I q k=>Zc (u a C s H f _ _ _ _ _ I q) (λb w z=>by obtain⟨y,A,B⟩:=z;exact k b w y A B) λe s' E=>Zc E (λ_ F z=>o _ _ z) λ_ _ z=>o _ _ z) cap p l r t (λa C s H f _=>v a C s H f) hs I h m
def O4 (N)(cap)(f:X.calm=true)(e:QJ scope X.env N X.N cap=true)(i:PI X tg iter wi)(j:∀a C s H b,PG (JJ X scope N a C s H b) tg g)(l:∀a C s H b,PT (JJ X scope N a C s H b) c tt)(m:∀a C s H b,PE (JJ X scope N a C s H b) elt te)
 (hs:∀x,foldedSetIterable iter X.env x=pure x:=by intro _;rfl):PE X (.ListComp elt [⟨tg,iter,[c],0⟩] scope pos) (XJ cap wi g tt te):=λY s Z H Q I h=>Fo N cap f e i j l m hs I h E1
end
theorem O5 {L:List (Addr×HO)}{b:Addr}{u:HO}(h:L.lookup b=some u):(b,u)∈L:=by
 induction L with
 |nil=>exact J5 h
 |cons p r a =>
  grind
def q0 (H:Hp)(L:List (Addr×HO)):Hp:=λb=>match L.lookup b with
 |some o=>some o
 |none=>H b
def Ap (h:∀p∈L,p.1≠b):q0 H L b=H b:=by
 grind[q0,List.lookup_cons]
def Fp (b:(L.map (·.1)).Nodup)(h:(a,o)∈L):q0 H L a=some o:=by
 unfold q0;have e:L.lookup a=some o:=by
  induction L with
  |nil=>cases h
  |cons p r c =>
   grind
 rw[e]
def Fq (h:q0 H L b=some u):(b,u)∈L\/((∀p∈L,p.1≠b)/\H b=some u):=by
 grind[q0,Zqi,O5]
def Inv.laidMany (I:Inv X Y Z H s)(k:∀b u,s.heap.get? b=some u->h'.get? b=some u)(hp:∀p∈L,s.heap.objs.size<=p.1)
 (ok:∀p∈L,xT X.prog X.w (q0 H L) h' p.1 p.2):Inv X Y Z (q0 H L) { s with heap:=h',toks:=t' }:=by
 have a:∀b u,s.heap.get? b=some u->∀p∈L,p.1≠b:=λb u e p c z=>Zn (Zg (Zk e) (by rw[<- z];exact hp p c)) (Zy _);have f:∀b u,H b=some u->q0 H L b=some u:=λb u e=>by
  rwa [Ap λp c z=>Zn (Zg (I.hok.lt e) (by rw[<- z];exact hp p c)) (Zy _)]
 refine I.un ⟨(),λb u q _ _ _=>⟨u.slots,k b u q⟩,λb u q n _=>by rwa [Ap (a b u q)],(),(),(),λb ps q=>⟨#[],()⟩⟩ λb u e=>?_;rcases Fq e with z|⟨z,e'⟩
 .exact ok (b,u) z
 .exact(I.hok b u e').stay () () ()
theorem Fs:∀{L:Yj},(∀i∈L,Is H (f i) (g i))->qm H (L.map f) (L.map g)
 | [],_=>by rfl
 |i::L,h=>⟨_,_,rfl,(),Fs ()⟩
theorem Xk:∀{L:Yj},(∀i∈L,js (g i) (u i))->jv (L.map g) (L.map u)
 | [],_=>.nil
 |i::L,h=>.cons () (Xk ())
def Pl.mem (p:Pl n jx n)(h:i∈jx.toList):i<n:=by
 have q:=(Jq.mp p.perm).mem_iff.mp h
 simp_all
def Pl.len (p:Pl n jx k):jx.toList.length=n:=by rw[Ui,p.size]
section
variable {X:Cx}
def O6 (O:X.A.units+64<cLine):jU X (.builtin "sorted") (λt H Q=>∃a ys rs,t=[.ref a]/\Rd H a (.lst ys)/\qm H (rs.map rD) ys/\(∀r∈rs,r ≠ [])/\rs.length<1000 /\
 ∀l (ix:Yj),H l=none->(∀i∈ix,i<rs.length)->ix.map (λi=>rs.getD i [])=JQ j8 rs->Q (.ref l) (upd H l (.lst (ix.map λi=>ys.getD i .non)))):=by
 intro Y s Z H t P Q I z h;obtain⟨a,ys,rs,rfl,A,g,j,B,q⟩:=h;obtain⟨u,rfl,C⟩:=QX z;obtain rfl:u=Value.ref a:=C;obtain⟨its,m,pl,hz⟩:=I.list (.inl A);have E:=g.length;have R:=m.length;rw[Zql] at E;have F:its.length=rs.length:=()
 have G:∀b o,s.heap.get? b=some o->((s.heap.push (seqObj "list" #[] 0)).update s.heap.objs.size (Obj.mapSeq (· ++ its.toArray))).get? b=some o:=λb o e=>by
  rw[Heap.get?_update_ne _ _ _ _ (Zi (Zk e)),Heap.get?_push_ne _ _ _ (Zi (Zk e))];exact e
 refine Fe (xU.wk λi=>rs.getD i []) (collect_list pl.isList ⟨(),λh' w J=>Fl () (I.hok.kept λb o e=>w b o (G b o e)) g m j J,λf h' l p u w S n=>?_⟩ ());obtain⟨e,n⟩:=n;rw[F] at p u;have c:s.heap.objs.size<=l:=by
  grind[Heap.size_update,size_push']
 have at_:∀i∈f.toList,∃x v,ys[i]? = some x/\its[i]? = some v/\js x v/\Is H (rD (rs.getD i [])) x:=λi K=>by
  have T:=p.mem K;obtain⟨x,y,L⟩:=g.get (i:=i) (d:=rD (rs.getD i [])) (by
   grind[List.getElem?_map,Zqg,Qe])
  obtain⟨v,M,N⟩:=m.get y;exact⟨x,v,y,M,N,L⟩
 refine⟨.ref l,upd H l (.lst (f.toList.map λi=>ys.getD i .non)),I.laid () c ⟨?_,f.toList.map (jC its),e,?_,?_⟩,rfl,q l f.toList (I.hok.fresh c) () (Co xU p u)⟩
 .rw[Zql,p.len];lia
 .grind[jC,Xk,Qe]
 .rw[n]
  congr 3
  apply Vk;simp
def Wi (a d:Addr):HO:=.ext λh=>h.IsItemsView a d
def O7:ri X "dict.items" (λx c H Q=>∃d a,x=.ref d/\c=[]/\H d=some (.dK a)/\∀p,H p=none->Q (.ref p) (upd H p (Wi p d))):=by
 intro Y s Z H x c v n Q I f g h;obtain⟨d,a,rfl,rfl,i,q⟩:=h;obtain rfl:=f;obtain rfl:=zn g;obtain⟨z,lo,j,l,dd⟩:=BQ I.hok i;exact call_meetsIn PySem.F.slot_dict_items dd.typeIs PySem.F.entry_dict_items (PySem.F.args_dict_items_1 _) (meets_dict_items (Q2 X.prog X.w) d lo) ⟨⟨j,dd⟩,⟨.ref s.heap.objs.size,upd H s.heap.objs.size (Wi s.heap.objs.size d),I.laid (λb o e=>Zq _ e) (Zf _) (⟨⟨_,Zr _ rfl,rfl,rfl⟩,⟨_,Zr _ rfl⟩,λt u z m=>have ⟨o,e,r⟩:=z;⟨o,m o e,r⟩⟩),rfl,q _ (I.hok.fresh (Zf _))⟩⟩
def O8 (hc:X.calm=true):jU X (.builtin "sorted") (λxs H Q=>∃j d r,xs=[.ref j]/\H j=some (Wi j d)/\H d=some (.dK (xx r))/\r ≠ []/\r.length<1000 /\
 ∀l L,(∀p∈L,H p.1=none)->(L.map (·.1)).Nodup->(∀G,Is (q0 G L) (.list ((JQ jV r).map pD)) (.ref l))->Q (.ref l) (q0 H L)):=by
 intro Y s Z H xs us Q I rv h;obtain⟨j,d,r,rfl,hv,hd,R,h64,q⟩:=h;obtain⟨u,rfl,ru⟩:=QX rv;obtain rfl:u=Value.ref j:=ru;obtain⟨v,_,_⟩:=(show xT X.prog X.w H s.heap j (Wi j d) from I.hok j _ hv);obtain⟨z,lo,ws,F,od,es,ep,d1,d2,d3,d4,d5,d6⟩:=BQ I.hok hd;have lk:=F.length;have lr:(xx r).length=r.length:=Zql _;have S:s.heap.DictAt (Q2 X.prog X.w) d ws ep:=⟨od,es,d1,d2,d3,d4,d5,d6⟩;refine Fe (we.wk λi=>r.getD i (0,0)) (W.kdx_collect (knd:=Q2 X.prog X.w) (I.ok.hd hc) v S (by rw[<- lk,lr];exact QK ()) λh1 tk c T la G=>?_);have U:(c.map Value.ref).length=r.length:=by rw[Zql];lia
 have pa:∀h',(∀b o,h1.get? b=some o->h'.get? b=some o)->W8 h' (c.map Value.ref) r:=λh' w=>by
  refine⟨U,λi p hp=>?_⟩;have f:i<c.length:=by
   have:=(Jc.mp hp).1;lia
  obtain⟨A,k,x,g1,g2,g3⟩:=G.pairs i c[i] ();have kv:KV (xx r) ws:=F;have hk:(xx r)[i]? = some (Ud p.1,V.int p.2):=by unfold xx;rw[Zv,hp];rfl
  have J:∀{l1:List (jA×V)} {l2:List (jA×Value)} {i:Nat} {a:jA×V} {b:jA×Value},KV l1 l2->l1[i]? = some a->l2[i]? = some b->a.1=b.1/\js a.2 b.2:=by
   intro l1 l2 i a b K;unfold KV at K
   induction K generalizing i with
   |nil=>intro e;simp at e
   |cons hh tt ih =>
    cases i with
    |zero =>
     intro n B;simp at n B;subst n B;exact hh
    |succ i =>
     intro n B;exact ih (by simpa using n) (by simpa using B)
  obtain⟨b1,b2⟩:=J kv hk g1;have b1:(Ud p.1:jA)=k:=b1;subst b1;obtain⟨t1,rfl⟩:=(show ∃t,x=Value.int p.2 t from b2);obtain⟨t0,rfl⟩:∃t,A=Value.int p.1 t:=by
   rcases KF (show Wy (Ud p.1) A=true from g2) with ⟨i0,t,n,B⟩|⟨x0,t,n,B⟩
   .cases n;exact⟨t,B⟩
   .cases n
  exact⟨c[i],_,_,t0,t1,by rw[Zv,Zqg f];rfl,w _ _ g3,rfl,rfl⟩
 refine⟨(),λh' w h2=>O3 (pa h' w) h2,λjx h' l p u w hl gl=>?_⟩;obtain⟨e,gl⟩:=gl;rw[U] at p u;have kk:∀b o,s.heap.get? b=some o->h'.get? b=some o:=λb o e=>w b o (T b o e);have M:∀a∈c,s.heap.objs.size<a:=G.above;have N:∀a∈c,a<l:=λa ha=>Zg (G.there ha) hl;have szl:s.heap.objs.size<=l:=by
  cases c with
  |nil=>exact Zn (Jo.mp (by rw[<- U];rfl)) R
  |cons a as'=>exact Zz (Ug (M a Zqs) (N a Zqs))
 obtain⟨L,hL⟩:∃L:List (Addr×HO),L=(l,.lst (jx.toList.map λi=>V.ref (c.getD i 0)))::(c.zip r).map λz=>(z.1,HO.tup [.int z.2.1,.int z.2.2]):=⟨_,rfl⟩;have g:L.map (·.1)=l::c:=by
  rw[hL,Zl,Zw];show l::(c.zip r).map (λz=>z.1)=_;rw[List.map_fst_zip ()]
 have nd:(L.map (·.1)).Nodup:=by
  rw[g];refine Jl.mpr ⟨λm=>Zy _ (N l m),?_⟩;exact G.rise.imp λhlt=>Zi hlt
 have O:∀p∈L,s.heap.objs.size<=p.1:=λp hp=>by
  have:p.1∈L.map (·.1):=Ja.mpr ⟨p,hp,rfl⟩;rw[g] at this;rcases Uq.mp this with z|z
  .rw[z];exact szl
  .exact Zz (M _ z)
 have C:∀G (i:Nat) p,r[i]? = some p->q0 G L (c.getD i 0)=some (.tup [.int p.1,.int p.2]):=λG i p hp=>by
  have f:i<c.length:=by
   have:=(Jc.mp hp).1;lia
  refine Fp nd ?_;rw[hL];refine Zqm _ (Ja.mpr ⟨(c[i],p),?_,by rw[Qe (Zqg f)]⟩);refine Uf (i:=i) ?_;rw[VS];exact⟨Zqg f,hp⟩
 refine⟨.ref l,q0 H L,I.laidMany (t':=tk) kk O λy hy=>?_,rfl,q l L (λp hp=>I.hok.fresh (O p hp)) nd λG'=>?_⟩
 .rw[hL] at hy;rcases Uq.mp hy with z'|z'
  .rw[z'];refine⟨?_,jx.toList.map (jC (c.map Value.ref)),e,?_,?_⟩
   .rw[Zql,p.len];exact QK ()
   .refine Xk λi f=>?_;have hn:=p.mem f;have P:i<c.length:=()
    unfold jC;rw[Qe (Zqg P),Qe (x:=Value.ref c[i]) (by rw[Zv,Zqg P];rfl)];rfl
   .rw[gl]
    congr 3
    apply Vk;simp
  .obtain⟨⟨a,p'⟩,hm,rfl⟩:=Ja.mp z';obtain⟨i,f⟩:=Jm.mp hm;rw[VS] at f;obtain⟨i1,i2⟩:=f;obtain⟨a',o',n',t',u',f1,f2,f3,f4⟩:=(pa h' w).2 i p' i2;rw[Zv,i1] at f1;cases f1;obtain⟨A,k,x,g1,g2,g3⟩:=G.pairs i a i1;have E:=w _ _ g3;rw[E] at f2;obtain rfl:=Zqi f2;exact⟨⟨(by show 2<=sizeLine;decide),_,E,rfl⟩,[.int p'.1 t',.int p'.2 u'],.cons ⟨t',rfl⟩ (.cons ⟨u',rfl⟩ .nil),_,E,rfl,n',f4⟩
 .rw[xD];refine⟨l,_,rfl,Fp nd (by rw[hL];exact Zqs),?_⟩;rw[<- Co we p u,Zw];refine Fs λi f=>?_;have hn:=p.mem f;refine bQ.mpr ⟨c.getD i 0,rfl,?_⟩;have:=C G' i (r.getD i (0,0)) (by rw[Qe (Zqg hn)];exact Zqg hn);exact this
end
def qB (r:Jy)(t w:Int):Jy:=if(r.any λp=>decide (p.1=t))=true then r.map (λp=>if p.1=t then(p.1,w) else p) else r++[(t,w)]
def O9:decide ((Ud a:jA)=Ud b)=decide (a=b):=()
def OA (r)(t w):qw (xx r) (Ud t) (V.int w)=xx (qB r t w):=by
 have e:((xx r).any λa=>decide (a.1=Ud t))=r.any λp=>decide (p.1=t):=by
  unfold xx;rw[List.any_map]
  congr 1
  funext p
  exact O9
 unfold qw qB;rw[e]
 split
 .unfold xx;rw[Zw,Zw];apply UZ;intro p _;by_cases c:p.1=t
  .simp[c]
  .simp[c]
 .unfold xx;rw[Uc];rfl
theorem Aq (p)(r)(t):JB (p::r) t=match JB r t with|some w=>some w|none=>if p.1=t then some p.2 else none:=rfl
def OB (r)(t w j):JB (r.map λp=>if p.1=t then(p.1,w) else p) j=(JB r j).map λx=>if j=t then w else x:=by
 induction r with
 |nil=>rfl
 |cons p r a =>
  grind[List.map_cons,Aq,Option.map]
def OC (r)(t):(r.any λp=>decide (p.1=t))=(JB r t).isSome:=by
 cases q:JB r t with
 |none =>
  grind[Option.isSome_none,List.any_eq_false,EE]
 |some w =>
  rw[Option.isSome_some,VB];exact⟨_,Qi q,()⟩
def OD (r)(t w j):JB (qB r t w) j=if j=t then some w else JB r j:=by
 unfold qB;rw[OC];by_cases a:(JB r t).isSome=true
 .rw[Zd a,OB];by_cases e:j=t
  .rw[Zd e,e];have ⟨x,b⟩:=Js.mp a;rw[b];simp
  simp_all
 .rw[Ze a,NX];show(match (if t=j then some w else none) with|some w=>some w|none=>JB r j)=_
  grind
def OE (r)(t w):(qB r t w).map (·.1)=if(r.any λp=>decide (p.1=t))=true then r.map (·.1) else r.map (·.1)++[t]:=by
 grind[qB,List.map_map,List.map_append,List.map_congr_left]
def OF (h:jB r):jB (qB r t w):=by
 unfold jB;rw[OE]
 split
 .exact h
 .rename_i c;unfold jB at h;rw[List.nodup_append];refine⟨h,(),λa g b f=>?_⟩;simp at f;subst f;rintro rfl;obtain⟨p,hp,e⟩:=Ja.mp g;exact c (VB.mpr ⟨p,hp,by simp[e]⟩)
def OG (r)(t w):(qB r t w).length<=r.length+1:=by
 grind[qB,Zql,List.length_append]
theorem Ft:∀r b,W2 (xx b) (xx r)=xx (r.foldl (λa p=>qB a p.1 p.2) b)
 | [],b=>rfl
 |p::r,b=>by
  have e:W2 (xx b) (xx (p::r))=W2 (qw (xx b) (Ud p.1) (V.int p.2)) (xx r):=rfl;rw[e,OA,Ft r];rfl
theorem Fu:∀r b,jB (b++r)->r.foldl (λa p=>qB a p.1 p.2) b=b++r
 | [],b,_=>by simp
 |p::r,b,h=>by
  have c:(b.any λq=>decide (q.1=p.1))=false:=by
   grind[jB,List.any_eq_false,List.map_append,List.nodup_append]
  have e:qB b p.1 p.2=b++[p]:=by
   unfold qB;rw[c];simp
  rw[Vi,e,Fu r (b++[p]) (),Uh];rfl
def jw:Option Int->Option Int->Option Int
 |none,b=>b
 |some x,none=>some x
 |some x,some y=>some (if x > y then x else y)
def Uk (a:Jy)(p:Int×Int):Jy:=qB a p.1 (if(JB a p.1).getD p.2 > p.2 then(JB a p.1).getD p.2 else p.2)
def Qt (r o:Jy):Jy:=o.foldl Uk r
def OH (acc)(p)(t):JB (Uk acc p) t=if t=p.1 then jw (JB acc t) (some p.2) else JB acc t:=by
 unfold Uk;rw[OD];by_cases e:t=p.1
 .rw[Zd e,Zd e,e];cases JB acc p.1 with
  |none=>simp[jw]
  |some x=>simp[jw]
 simp_all
theorem Ar (t):∀o r,jB o->JB (Qt r o) t=jw (JB r t) (JB o t)
 | [],r,_=>by
  show JB r t=jw (JB r t) none;cases JB r t<;>rfl
 |p::o,r,h=>by
  have ⟨a,b⟩:=Jl.mp (h);have e:Qt r (p::o)=Qt (Uk r p) o:=rfl;rw[e,Ar t o _ b,OH,Aq];by_cases c:t=p.1
  .have n:JB o t=none:=by
    cases q:JB o t with
    |none=>rfl
    |some w=>exact Zn (Ja.mpr ⟨_,Qi q,c⟩) a
   rw[Zd c,n,Zd c.symm];cases jw (JB r t) (some p.2)<;>rfl
  grind
theorem Au:∀o r,jB r->jB (Qt r o)
 | [],r,h=>h
 |p::o,r,h=>Au o _ (OF h)
theorem Cq:∀o r,(Qt r o).length<=r.length+o.length
 | [],r=>Zf _
 |p::o,r=>by
  have a:=Cq o (Uk r p);have b:(Uk r p).length<=r.length+1:=OG _ _ _;show(Qt (Uk r p) o).length<=_
  grind
def Fv (h:r ≠ [])(b:jB o):Qt r o ≠ []:=by
 intro z;cases r with
 |nil=>exact h rfl
 |cons p r =>
  have q:=Ar p.1 o (p::r) b;rw[z] at q;have:∃x,JB (p::r) p.1=some x:=by
   grind[Aq]
  obtain⟨x,c⟩:=this;rw[c] at q;cases a:JB o p.1 with
  |none=>rw[a] at q;exact J5 q
  |some y=>rw[a] at q;exact J5 q
def Fw (h:jB r):(t,w)∈r↔JB r t=some w:=⟨λm=>h.look m,Qi⟩
theorem W9 {α: Type}{ltb:α -> α -> Bool}(T:Tot ltb):∀{a b:List α},a.Pairwise (λx y=>ltb x y=true)->b.Pairwise (λx y=>ltb x y=true)->(∀x,x∈a↔x∈b)->a=b
 | [],[],_,_,_=>rfl
 | [],y::b,_,_,h=>by
  cases ((h y).mpr Zqs)
 |x::a,[],_,_,h=>by
  cases ((h x).mp Zqs)
 |x::a,y::b,ha,hb,h=>by
  obtain⟨f,g⟩:=Ji.mp ha;obtain⟨c,i⟩:=Ji.mp hb;have e:x=y:=by
   rcases Uq.mp ((h x).mp Zqs) with z|z
   .exact z
   .rcases Uq.mp ((h y).mpr Zqs) with u|u
    .exact u.symm
    .have:=T.asy _ _ (c x z)
     simp_all
  subst e
  congr 1
  refine W9 T g i λz=>⟨λhz=>?_,λhz=>?_⟩
  .rcases Uq.mp ((h z).mp (Zqm _ hz)) with u|u
   .rw[u] at hz;have:=f x hz;rw[T.irr] at this;exact JC this
   lia
  .rcases Uq.mp ((h z).mpr (Zqm _ hz)) with u|u
   .rw[u] at hz;have:=c x hz;rw[T.irr] at this;exact JC this
   lia
theorem Fx {α β: Type}(f:α -> β):∀{l:List α},(l.map f).Nodup->l.Nodup
 | [],_=>VC
 |x::r,h=>by
  rw[Zl,List.nodup_cons] at h;exact Jl.mpr ⟨(),Fx f h.2⟩
def OI (h:jB r):(JQ jV r).Pairwise λx y=>jV x y=true:=by
 refine(List.Pairwise.and (W7 we r) ((Qz r).nodup_iff.mpr (Fx (λp:Int×Int=>p.1) h))).imp λ{x y} z=>?_;cases q:jV x y with
 |true=>rfl
 |false=>exact Zn (we.tot _ _ q z.1) z.2
end L2
namespace L2.DL
def Cr {c:Prop}{_:Decidable c}{α: Type}{a z:α}(h:(if c then some a else none)=some z):c/\a=z:=()
inductive D where
 |non|bl (b:Bool)|int (i:Int)|str (x:Str)|ty (n:String)|scr (ns:Yh)
 |tup (ds:List D)|lst (ds:List D)|dct (ks:List jA) (ds:List D)|ins (c:Str) (fs:Yk) (ds:List D)
 |exc (c:Str)|ucl (c:Str)
 |adr (a:Addr)|dcf (ks:List jA) (ds:List D)
 |pin (a:Addr) (d:D)
abbrev _root_.YG:=List D
abbrev _root_.YH:=Option D
inductive Res (α: Type) where
 |ok (a:α)|ex (c:Str) (fs:YG)|no
noncomputable def Res.bind {α β: Type}(r:Res α)(g:α -> Res β):Res β:= match r with
 | .ok a=>g a
 | .ex c fs=>.ex c fs
 | .no=>.no
def Res.need {α: Type}(r:Res α)(p:α -> Prop)(q:Str->YG->Prop):Prop:=match r with
 | .ok a=>p a
 | .ex c fs=>q c fs
 | .no=>False
@[simp]theorem jz {α β: Type}(a)(g:α -> Res β):(Res.ok a).bind g=g a:=rfl
@[simp]def vd {α β: Type}(c)(fs)(g:α -> Res β):(Res.ex c fs:Res α).bind g=.ex c fs:=rfl
@[simp]def vc {α β: Type}(g:α -> Res β):(Res.no:Res α).bind g=.no:=rfl
def ja {α β: Type}{r:Res α}{g:α -> Res β}{p:β -> Prop}(h:(r.bind g).need p q):r.need (λa=>(g a).need p q) q:=by
 cases r<;>exact h
def Res.need.mono {α: Type}{r:Res α}{p b: α -> Prop}(h:r.need p q)(hp:∀a,p a->b a)(e:∀c fs,q c fs->q' c fs):r.need b q':=by
 cases r with
 |ok a=>exact hp a h
 |ex c fs=>exact e c fs h
 |no=>exact h
def Res.need.monoE {α: Type}{r:Res α}{p b: α -> Prop}(h:r.need p q)(hp:∀a,r=.ok a->p a->b a)(e:∀c fs,q c fs->q' c fs):r.need b q':=by
 cases r with
 |ok a=>exact hp a rfl h
 |ex c fs=>exact e c fs h
 |no=>exact h
def fM (C x:Addr):HO:=.ext λh=>∃o,h.get? x=some o/\o.cls=.ref C
def yg (_:W.Frag)(H:Hp)(a:Addr)(b:YE):Prop:=H a=some (.tup b)
def yg.same {K:W.Frag}{H b:Hp}{a:Addr}{c:YE}(e:jk H b)(h:yg K H a c):yg K b a c:=e _ _ h
def yg.of {K:W.Frag}{H:Hp}{a:Addr}{b:YE}(h:H a=some (.tup b)):yg K H a b:=h
def yg.sq {K:W.Frag}{H:Hp}{a:Addr}{b:YE}(h:yg K H a b):yw K H a b:=yw.of h
def xj (_:W.Frag)(H:Hp)(a:Addr)(b:YE):Prop:=Rd H a (.lst b)
def xj.same {K:W.Frag}{H b:Hp}{a:Addr}{c:YE}(e:jk H b)(h:xj K H a c):xj K b a c:=h.imp (λq=>e _ _ q) λ⟨o,q⟩=>⟨o,e _ _ q⟩
def xj.of {K:W.Frag}{H:Hp}{a:Addr}{b:YE}(h:H a=some (.lst b)):xj K H a b:=.inl h
def xj.sq {K:W.Frag}{H:Hp}{a:Addr}{b:YE}(h:xj K H a b):qs K H a b:=.inl h
section
variable (K:W.Frag)
mutual
def jg (H:Hp):D->V->Prop
 | .non,v=>v=.non
 | .bl b,v=>v=.bl b
 | .int i,v=>v=.int i
 | .str x,v=>v=.str x
 | .ty n,v=>v=.ty n
 | .scr ns,v=>∃a,v=.ref a/\qs K H a (ns.map V.int)
 | .tup ds,v=>∃a e,v=.ref a/\yg K H a e/\jd H ds e
 | .lst ds,v=>∃a e,v=.ref a/\xj K H a e/\jd H ds e
 | .dct ks ds,v=>∃a e,v=.ref a/\H a=some (.dK (ks.zip e))/\ks.length=e.length/\jd H ds e
 | .ins c fs ds,v=>∃a C f e,v=.ref a/\W.nsIn K mainGlobals c=some (some (.ref C))/\H a=some (.ins C f (fs.zip e))/\fs.length=e.length/\jd H ds e
 | .exc c,v=>∃a C,v=.ref a/\W.nsIn K mainGlobals c=some (some (.ref C))/\H a=some (fM C a)
 | .ucl c,v=>∃C,v=.ref C/\W.nsIn K mainGlobals c=some (some (.ref C))
 | .adr a,v=>v=.ref a
 | .dcf ks ds,v=>∃a o e,v=.ref a/\H a=some (.frz o (.dK (ks.zip e)))/\ks.length=e.length/\jd H ds e
 | .pin a d,v=>v=.ref a/\jg H d v
def jd (H:Hp):YG->YE->Prop
 | [],xs=>xs=[]
 |d::ds,xs=>∃x r,xs=x::r/\jg H d x/\jd H ds r
end
end
section
variable {K:W.Frag}{H H':Hp}
def jD:jg K H .non v↔v=.non:=.rfl
def jn:jg K H (.bl b) v↔v=.bl b:=.rfl
def je:jg K H (.int i) v↔v=.int i:=.rfl
def jr:jg K H (.str x) v↔v=.str x:=.rfl
def qZ:jg K H (.ty n) v↔v=.ty n:=.rfl
def qo:jg K H (.scr ns) v↔∃a,v=.ref a/\qs K H a (ns.map V.int):=.rfl
theorem j0:jg K H (.tup ds) v↔∃a b,v=.ref a/\yg K H a b/\jd K H ds b:=.rfl
theorem jm:jg K H (.lst ds) v↔∃a b,v=.ref a/\xj K H a b/\jd K H ds b:=.rfl
def qa:jg K H (.dct ks ds) v↔∃a b,v=.ref a/\H a=some (.dK (ks.zip b))/\ks.length=b.length/\jd K H ds b:=.rfl
def jZ:jg K H (.ins c fs ds) v↔∃a C e b,v=.ref a/\W.nsIn K mainGlobals c=some (some (.ref C))/\H a=some (.ins C e (fs.zip b))/\fs.length=b.length/\jd K H ds b:=.rfl
def qP:jg K H (.exc c) v↔∃a C,v=.ref a/\W.nsIn K mainGlobals c=some (some (.ref C))/\H a=some (fM C a):=.rfl
def yH:jg K H (.ucl c) v↔∃C,v=.ref C/\W.nsIn K mainGlobals c=some (some (.ref C)):=.rfl
def qb:jg K H (.adr a) v↔v=.ref a:=.rfl
def qq:jg K H (.dcf ks ds) v↔∃a o b,v=.ref a/\H a=some (.frz o (.dK (ks.zip b)))/\ks.length=b.length/\jd K H ds b:=.rfl
def qp:jg K H (.pin a d) v↔v=.ref a/\jg K H d v:=.rfl
def jd.nil_iff:jd K H [] xs↔xs=[]:=.rfl
theorem jp:jd K H (d::ds) xs↔∃x r,xs=x::r/\jg K H d x/\jd K H ds r:=.rfl
mutual
theorem jg.same (e:jk H H'):∀d v,jg K H d v->jg K H' d v
 | .non,_,h=>h
 | .bl _,_,h=>h
 | .int _,_,h=>h
 | .str _,_,h=>h
 | .ty _,_,h=>h
 | .scr _,_,h=>by
  obtain⟨a,f,g⟩:=qo.mp h;exact qo.mpr ⟨a,f,jk.seq e g⟩
 | .tup ds,_,h=>by
  obtain⟨a,b,f,g,i⟩:=j0.mp h;exact j0.mpr ⟨a,b,f,g.same e,jd.same e ds b i⟩
 | .lst ds,_,h=>by
  obtain⟨a,b,f,g,i⟩:=jm.mp h;exact jm.mpr ⟨a,b,f,g.same e,jd.same e ds b i⟩
 | .dct ks ds,_,h=>by
  obtain⟨a,b,f,g,j,i⟩:=qa.mp h;exact qa.mpr ⟨a,b,f,e _ _ g,j,jd.same e ds b i⟩
 | .ins c fs ds,_,h=>by
  obtain⟨a,C,l,b,f,m,g,j,i⟩:=jZ.mp h;exact jZ.mpr ⟨a,C,l,b,f,m,e _ _ g,j,jd.same e ds b i⟩
 | .exc _,_,h=>by
  obtain⟨a,C,f,g,i⟩:=qP.mp h;exact qP.mpr ⟨a,C,f,g,e _ _ i⟩
 | .ucl _,_,h=>h
 | .adr _,_,h=>h
 | .dcf ks ds,_,h=>by
  obtain⟨a,o,b,f,g,j,i⟩:=qq.mp h;exact qq.mpr ⟨a,o,b,f,e _ _ g,j,jd.same e ds b i⟩
 | .pin a d,v,h=>qp.mpr ⟨(qp.mp h).1,jg.same e d v (qp.mp h).2⟩
theorem jd.same (e:jk H H'):∀ds a,jd K H ds a->jd K H' ds a
 | [],_,h=>h
 |d::ds,_,h=>have ⟨x,r,b,c,f⟩:=jp.mp h;jp.mpr ⟨x,r,b,jg.same e d x c,jd.same e ds r f⟩
end
def jd.mk (h:jg K H d x)(r:jd K H ds xs):jd K H (d::ds) (x::xs):=jp.mpr ⟨x,xs,rfl,h,r⟩
def jd.nil:jd K H [] []:=jd.nil_iff.mpr rfl
theorem jd.length:∀{ds:YG} {a:YE},jd K H ds a->a.length=ds.length
 | [],a,h=>by simp_all [jd.nil_iff]
 |d::ds,a,h=>by
  obtain⟨x,r,rfl,_,b⟩:=h;rw[Zu,Zu,jd.length b]
theorem jd.get:∀{ds:YG} {a:YE} {i:Nat} {d:D},jd K H ds a->ds[i]? = some d->∃x,a[i]? = some x/\jg K H d x
 | [],_,_,_,_,e=>J5 e
 |d::ds,a,i,e,h,q=>by
  obtain⟨x,r,rfl,c,b⟩:=h;cases i with
  |zero=>simp_all
  |succ i=>exact jd.get (i:=i) b q
def jd.getV {ds:YG}{a:YE}{i:Nat}{x:V}(h:jd K H ds a)(q:a[i]? = some x):∃d,ds[i]? = some d/\jg K H d x:=by
 have c:=h.length;have b:i<ds.length:=();obtain⟨y,e,f⟩:=h.get (Zqg b)
 simp_all
theorem jd.append:∀{ds es:YG} {a ys:YE},jd K H ds a->jd K H es ys->jd K H (ds++es) (a++ys)
 | [],_,a,_,h,h'=>by simp_all [jd.nil_iff]
 |d::ds,_,a,_,h,h'=>by
  obtain⟨x,r,rfl,b,c⟩:=h;exact jd.mk b (jd.append c h')
def jd.snoc (h:jd K H ds xs)(h':jg K H d x):jd K H (ds++[d]) (xs++[x]):=h.append (.mk h' .nil)
theorem jd.set:∀n {ds:YG} {a:YE} {d:D} {x:V},jd K H ds a->jg K H d x->jd K H (ds.set n d) (a.set n x)
 |_,[],a,_,_,h,_=>by simp_all [jd.nil_iff]
 | 0,d::ds,a,_,_,h,q=>by
  grind[jp]
 |n+1,d::ds,a,_,_,h,q=>by
  obtain⟨x,r,rfl,b,c⟩:=h;exact jd.mk b (jd.set n c q)
theorem qi:∀(ns:Yh),jd K H (ns.map D.int) (ns.map V.int)
 | []=>.nil
 |n::ns=>.mk (je.mpr rfl) (qi ns)
theorem qr:∀{ns:Yh} {a:YE},jd K H (ns.map D.int) a->a=ns.map V.int
 | [],_,h=>jd.nil_iff.mp h
 |n::ns,a,h=>by
  obtain⟨x,r,rfl,b,c⟩:=h;rw[b,qr c];rfl
end
structure Ext (F H F' H':Hp):Prop where
 ff:jk F F'
 fh:jk F' H'
 hh:jk H H'
 new:∀a,F a=none->H a≠none->F' a=none
theorem Ext.refl (h:jk F H):Ext F H F H:=⟨.refl _,h,.refl _,λ_ e _=>e⟩
theorem Ext.trans (a:Ext F H F1 H1)(b:Ext F1 H1 F2 H2):Ext F H F2 H2:=
 ⟨a.ff.trans b.ff,b.fh,a.hh.trans b.hh,λx e n=>b.new x (a.new x e n) (by
  cases q:H x with
  |none=>exact Zn q n
  |some o=>rw[a.hh _ _ q];simp)⟩
def Qj (h:jk F H)(hp:H p=none):F p=none:=h.free hp
def qj (h:jk F H)(hp:H p=none)(o):Ext F H (upd F p o) (upd H p o):=
 ⟨Kt (h.free hp) o,λb u e=>by
  by_cases q:b=p
  .simp_all [JL]
  .rw[JH q] at e ⊢;exact h _ _ e,Kt hp o,λa e n=>by
  have q:a≠p:=by grind
  rwa [JH q]⟩
def Ext.keep (h:jk F H)(hp:H p=none)(o):Ext F H F (upd H p o):=
 ⟨.refl _,h.trans (Kt hp o),Kt hp o,λ_ e _=>e⟩
def Ext.grow (h:jk F H)(a:jk H H'):Ext F H F H':=⟨.refl _,h.trans a,a,λ_ e _=>e⟩
inductive SV where
 |val (d:D)|own (p:Bool) (d:D)
structure Bs where
 F0:Hp
 H0:Hp
 pa:Nat->Option (Addr×YE)
abbrev SD:=List (Option SV)
def yy (K:W.Frag)(F H:Hp)(l:Addr):D->Prop
 | .lst ds=>∃a,H l=some (.lst a)/\jd K F ds a
 | .dct ks ds=>∃a,H l=some (.dK (ks.zip a))/\ks.length=a.length/\jd K F ds a
 | .ins c fs ds=>∃C b a,W.nsIn K mainGlobals c=some (some (.ref C))/\H l=some (.ins C b (fs.zip a))/\fs.length=a.length/\jd K F ds a
 |_=>False
def yy.has {K:W.Frag}{F H:Hp}{l:Addr}{d:D}(h:yy K F H l d):∃o,H l=some o:=by
 cases d with
 |lst ds=>have ⟨a,e,_⟩:=h;exact⟨_,e⟩
 |dct ks ds=>have ⟨a,e,_⟩:=h;exact⟨_,e⟩
 |ins c fs ds=>have ⟨C,b,a,_,e,_⟩:=h;exact⟨_,e⟩
 |_=>exact False.elim h
def yy.ext {K:W.Frag}{F H g i:Hp}{l:Addr}{d:D}(h:yy K F H l d)(b:jk F g)(f:∀o,H l=some o->i l=some o):yy K g i l d:=by
 cases d with
 |lst ds=>have ⟨a,e,q⟩:=h;exact⟨a,f _ e,jd.same b _ _ q⟩
 |dct ks ds=>obtain⟨a,e,z,q⟩:=h;exact⟨a,f _ e,z,jd.same b _ _ q⟩
 |ins c fs ds=>obtain⟨C,j,a,k,e,z,q⟩:=h;exact⟨C,j,a,k,f _ e,z,jd.same b _ _ q⟩
 |_=>exact False.elim h
def yy.frz {K:W.Frag}{F H:Hp}{l:Addr}{d:D}{o:HO}(h:yy K F H l d)(e:H l=Option.some o)(n:F l=none):jg K (upd F l o) d (.ref l):=by
 cases d with
 |lst ds =>
  have ⟨b,a,q⟩:=h;rw[e] at a;obtain rfl:=Zqi a;exact jm.mpr ⟨l,b,rfl,.of JL,jd.same (Kt n _) _ _ q⟩
 |dct ks ds =>
  obtain⟨b,a,z,q⟩:=h;rw[e] at a;obtain rfl:=Zqi a;exact qa.mpr ⟨l,b,rfl,JL,z,jd.same (Kt n _) _ _ q⟩
 |ins c fs ds =>
  obtain⟨C,f,b,k,a,z,q⟩:=h;rw[e] at a;obtain rfl:=Zqi a;exact jZ.mpr ⟨l,C,f,b,rfl,k,JL,z,jd.same (Kt n _) _ _ q⟩
 |_=>exact False.elim h
def fQ (H:Hp)(l:Addr)(o:Option (Addr×YE)):Prop:=∃a,o=some (l,a)/\H l=some (.lst a)
structure RS (K:W.Frag)(B:Bs)(F H:Hp)(sd:SD)(Z: St):Prop where
 ext:Ext B.F0 B.H0 F H
 len:Z.length=sd.length
 val:∀{i:Nat} {d:D},sd[i]? = some (some (.val d))->∃v,Z[i]? = some (some v)/\jg K F d v
 own:∀{i:Nat} {p:Bool} {d:D},sd[i]? = some (some (.own p d))->∃l,Z[i]? = some (some (.ref l))/\B.H0 l=none/\F l=none/\yy K F H l d/\(p=true->fQ H l (B.pa i))
 apart:∀{i j:Nat} {p q:Bool} {d e:D} {l:Addr},i≠j->sd[i]? = some (some (.own p d))->sd[j]? = some (some (.own q e)) -> Z[i]? = some (some (.ref l)) -> Z[j]? ≠ some (some (.ref l))
section
variable {K:W.Frag}{B:Bs}{F H F' H':Hp}{sd:SD}{Z: St}
def fQ.mono (h:fQ H l o)(k:∀u,H l=some u->H' l=some u):fQ H' l o:=let ⟨xs,h1,h2⟩:=h;⟨xs,h1,k _ h2⟩
def RS.step (r:RS K B F H sd Z)(e:Ext F H F' H'):RS K B F' H' sd Z where
 ext:=r.ext.trans e
 len:=r.len
 val:=λh=>let ⟨v,a,b⟩:=r.val h;⟨v,a,jg.same e.ff _ _ b⟩
 own:=λh=>by
  obtain⟨l,a,b,f,c,g⟩:=r.own h;obtain⟨o,i⟩:=c.has;exact⟨l,a,b,e.new l f (),c.ext e.ff λo q=>e.hh _ _ q,λp=>(g p).mono λu q=>e.hh _ _ q⟩
 apart:=r.apart
def Qn {α: Type}{l:List α}{a:α}(h:i≠j):(l.set i a)[j]? = l[j]?:= Zx h
def QZ {α: Type}{l:List α}{a b:α}(h:(l.set i a)[i]? = some b):b=a/\i<l.length:=()
def RS.setVal (r:RS K B F H sd Z)(h:jg K F d v):RS K B F H (sd.set i (some (.val d))) (Z.set i (some v)) where
 ext:=r.ext
 len:=by rw[UG,UG,r.len]
 val:=λ{j e} q=>by
  by_cases z:i=j
  .subst z;obtain⟨a,o⟩:=QZ q;cases a;exact⟨v,UW (by rwa [r.len]),h⟩
  .rw[Qn z] at q ⊢;exact r.val q
 own:=λ{j p e} q=>by
  by_cases z:i=j
  .subst z;obtain⟨a,_⟩:=QZ q;cases a
  .rw[Qn z] at q ⊢;exact r.own q
 apart:=λ{j k s t u w l} n b c f=>by
  have g:i≠j:=λz=>by subst z;obtain⟨a,_⟩:=QZ b;cases a
  have m:i≠k:=λz=>by subst z;obtain⟨a,_⟩:=QZ c;cases a
  rw[Qn g] at b f;rw[Qn m] at c ⊢;exact r.apart n b c f
def RS.setOwn (r:RS K B F H sd Z)(u:B.H0 l=none)(v:F l=none)(h:yy K F H l d)(g:∀(j:Nat) p e,sd[j]? = some (some (SV.own p e)) -> Z[j]? ≠ some (some (.ref l))):
 RS K B F H (sd.set i (some (.own false d))) (Z.set i (some (.ref l))) where
 ext:=r.ext
 len:=by rw[UG,UG,r.len]
 val:=λ{j e} q=>by
  by_cases z:i=j
  .subst z;obtain⟨f,_⟩:=QZ q;cases f
  .rw[Qn z] at q ⊢;exact r.val q
 own:=λ{j p e} q=>by
  by_cases z:i=j
  .subst z;obtain⟨f,o⟩:=QZ q;cases f;exact⟨l,UW (by rwa [r.len]),u,v,h,λz=>by cases z⟩
  .rw[Qn z] at q ⊢;exact r.own q
 apart:=λ{j k w x y A m} n c a b=>by
  by_cases s:i=j
  .subst s;obtain⟨_,o⟩:=QZ c;rw[Qn n] at a ⊢;rw[UW (by rwa [r.len])] at b;cases b;exact g k x A a
  .rw[Qn s] at c b;by_cases t:i=k
   .subst t;obtain⟨_,o⟩:=QZ a;rw[UW (by rwa [r.len])];intro e;cases e;exact g j w y c b
   .rw[Qn t] at a ⊢;exact r.apart n c a b
def RS.chg {i:Nat}{p:Bool}{d a:D}{l:Addr}{o:HO}(r:RS K B F H sd Z)(b:sd[i]? = some (some (.own p d)))(c:Z[i]? = some (some (.ref l)))(h:yy K F (upd H l o) l a):
 RS K B F (upd H l o) (sd.set i (some (.own false a))) Z:= by
 obtain⟨O,f,v,w,_,_⟩:=r.own b;rw[c] at f;cases f;have x:i<sd.length:=by grind
 refine⟨⟨r.ext.ff,BX o r.ext.fh w,BX o r.ext.hh v,r.ext.new⟩,by rw[UG,r.len],λ{j e} q=>?_,λ{j p e} q=>?_,λ{j k s t P Q m} n y A C=>?_⟩
 .by_cases z:i=j
  .simp_all
  .rw[Qn z] at q;exact r.val q
 .by_cases z:i=j
  .simp_all
  .rw[Qn z] at q;obtain⟨m,E,m2,G,I,J⟩:=r.own q;have ne:m≠l:=λe=>r.apart z b q c (by rwa [<- e]);exact⟨m,E,m2,G,I.ext (.refl _) λu L=>by rwa [JH ne],λp=>(J p).mono λu L=>by rwa [JH ne]⟩
 .have g:∀{j:Nat} {p:Bool} {e:D},(sd.set i (some (.own false a)))[j]? = some (some (.own p e))->∃M N,sd[j]? = some (some (.own M N)):=by grind
  have ⟨_,_,s⟩:=g y;have ⟨_,_,t⟩:=g A;exact r.apart n s t C
def RS.frz1 (r:RS K B F H sd Z)(h:sd[i]? = some (some (.own p d))):∃F',jk F F'/\RS K B F' H (sd.set i (some (.val d))) Z:= by
 obtain⟨l,s,P,t,w,_⟩:=r.own h;obtain⟨o,e⟩:=w.has;have y:i<sd.length:=();have c:=Kt t o;refine⟨upd F l o,c,⟨r.ext.ff.trans c,λb u q=>?_,r.ext.hh,λa f g=>?_⟩,by rw[UG,r.len],λ{j x} q=>?_,λ{j p x} q=>?_,λ{j k Q R S T m} n f g A=>?_⟩
 .by_cases z:b=l
  .simp_all [JL]
  .rw[JH z] at q;exact r.ext.fh _ _ q
 .have z:a≠l:=by grind
  rw[JH z];exact r.ext.new a f g
 .by_cases z:i=j
  .subst z;obtain⟨C,_⟩:=QZ q;cases C;exact⟨_,s,w.frz e t⟩
  .rw[Qn z] at q;have ⟨v,E,G⟩:=r.val q;exact⟨v,E,jg.same c _ _ G⟩
 .by_cases z:i=j
  .simp_all
  .rw[Qn z] at q;obtain⟨m,I,m2,U,J,L⟩:=r.own q;have ne:m≠l:=λe=>r.apart z h q s (by rwa [<- e]);exact⟨m,I,m2,by rwa [JH ne],J.ext c λu M=>M,L⟩
 .have N:i≠j:=λz=>by simp_all
  have O:i≠k:=λz=>by simp_all
  rw[Qn N] at f;rw[Qn O] at g;exact r.apart n f g A
def jW:Yj->SD->SD
 | [],sd=>sd
 |i::is,sd=>jW is (match sd[i]? with
  |some (some (.own _ d))=>sd.set i (some (.val d))
  |_=>sd)
theorem RS.frz:∀is {F:Hp} {sd:SD},RS K B F H sd Z -> ∃F',jk F F'/\RS K B F' H (jW is sd) Z
 | [],F,sd,r=>⟨F,.refl _,r⟩
 |i::is,F,sd,r=>by
  unfold jW
  split
  .rename_i p d h;obtain⟨g,a,b⟩:=r.frz1 h;obtain⟨c,e,f⟩:=RS.frz is b;exact⟨c,a.trans e,f⟩
  .exact RS.frz is r
end
def fN (K:W.Frag)(F H:Hp)(c:Str)(fs:YG)(b:Value)(a:Option Addr):Prop:=
 ∃C,b=.ref C/\W.nsIn K mainGlobals c=some (some (.ref C))/\(fs=[]\/∃p n d x,fs=[d]/\a=some p/\H p=some (.xd [(n,x)])/\jg K F d x)
def XW (K:W.Frag)(E:XK)(F H:Hp)(c:Str)(fs:YG):Prop:=∀e a f b,Ext F H f b->fN K f b c fs e a->E e a b
def XW.ext {K:W.Frag}{E:XK}{F H b f:Hp}{c:Str}{fs:YG}(h:XW K E F H c fs)(e:Ext F H b f):XW K E b f c fs:=λg a i j l q=>h g a i j (e.trans l) q
abbrev FE:=SD->Res D
abbrev FT:=SD->Res Bool
abbrev FA:=SD->Res YG
def y8 (K:W.Frag)(F H:Hp)(Q:VK)(d:D):Prop:=∀v a b,Ext F H a b->jg K a d v->Q v b
def v0 (F H:Hp)(Q:Bool->Hp->Prop)(b:Bool):Prop:=∀c a,Ext F H c a->Q b a
def rg (K:W.Frag)(F H:Hp)(Q:YE->Hp->Prop)(ds:YG):Prop:=∀a b c,Ext F H b c->jd K b ds a->Q a c
def xL (K:W.Frag)(F H:Hp)(Q:VK)(d:D):Prop:=∀l a b,Ext F H a b->H l=none->a l=none->yy K a b l d->Q (.ref l) b
def tD (K:W.Frag)(E:XK)(f:FE):TE:=λZ H Q=>∃B F sd,RS K B F H sd Z /\ (f sd).need (y8 K F H Q) (XW K E F H)
def fT (K:W.Frag)(E:XK)(f:FT):TT:=λZ H Q=>∃B F sd,RS K B F H sd Z /\ (f sd).need (v0 F H Q) (XW K E F H)
def c8 (K:W.Frag)(E:XK)(f:FA):TA:=λZ H Q=>∃B F sd,RS K B F H sd Z /\ (f sd).need (rg K F H Q) (XW K E F H)
def vk (K:W.Frag)(E:XK)(f:FE):TE:=λZ H Q=>∃B F sd,RS K B F H sd Z /\ (f sd).need (xL K F H Q) (XW K E F H)
abbrev QE (X:Cx)(E:XK)(e:Expr)(f:FE):Prop:=PE X e (tD X.K E f)
abbrev QT (X:Cx)(E:XK)(e:Expr)(f:FT):Prop:=PT X e (fT X.K E f)
abbrev QW (X:Cx)(E:XK)(e:Expr)(f:FT):Prop:=PW X e (fT X.K E f)
abbrev QA (X:Cx)(E:XK)(es:Ym)(f:FA):Prop:=PA X es (c8 X.K E f)
abbrev QN (X:Cx)(E:XK)(e:Expr)(f:FE):Prop:=PE X e (vk X.K E f)
def PE.weak (h:PE X e t)(w:∀Z H Q,t' Z H Q->t Z H Q):PE X e t':=λY s Z H Q I q=>h Y s Z H Q I (w _ _ _ q)
def PT.weak (h:PT X e t)(w:∀Z H Q,t' Z H Q->t Z H Q):PT X e t':=λY s Z H Q I q=>h Y s Z H Q I (w _ _ _ q)
def PW.weak (h:PW X e t)(w:∀Z H Q,t' Z H Q->t Z H Q):PW X e t':=λa Y s Z H Q I q=>h a Y s Z H Q I (w _ _ _ q)
def PA.weak (h:PA X e t)(w:∀Z H Q,t' Z H Q->t Z H Q):PA X e t':=λa Y s Z H Q I q=>h a Y s Z H Q I (w _ _ _ q)
def PS.weak (h:PS X e t)(w:∀D Z H,t' D Z H->t D Z H):PS X e t':=λY s Z H D I q=>h Y s Z H D I (w _ _ _ q)
def qK.weak (h:qK X e t)(w:∀D Z H,t' D Z H->t D Z H):qK X e t':=λY s Z H D I q=>h Y s Z H D I (w _ _ _ q)
def PI.weak (h:PI X tg e t)(w:∀Z H R,t' Z H R->t Z H R):PI X tg e t':=λY s Z H R I q=>h Y s Z H R I (w _ _ _ q)
section
variable {K:W.Frag}{E:XK}{F H F' H':Hp}
def y8.ext (h:y8 K F H Q d)(e:Ext F H F' H'):y8 K F' H' Q d:=λv a b c q=>h v a b (e.trans c) q
def v0.ext (h:v0 F H Q b)(e:Ext F H F' H'):v0 F' H' Q b:=λa c f=>h a c (e.trans f)
def xL.ext (h:xL K F H Q d)(e:Ext F H F' H'):xL K F' H' Q d:=λl a b c q=>h l a b (e.trans c) (Qj e.hh q)
def XX {Q:VK}{r:Res D}(h:r.need (y8 K F H Q) (XW K E F H))(e:Ext F H F' H'):r.need (y8 K F' H' Q) (XW K E F' H'):=h.mono (λ_ q=>q.ext e) λ_ _ q=>q.ext e
def Fy {Q:Bool->Hp->Prop}{r:Res Bool}(h:r.need (v0 F H Q) (XW K E F H))(e:Ext F H F' H'):r.need (v0 F' H' Q) (XW K E F' H'):=h.mono (λ_ q=>q.ext e) λ_ _ q=>q.ext e
def Av {Q:VK}{r:Res D}(h:r.need (xL K F H Q) (XW K E F H))(e:Ext F H F' H'):r.need (xL K F' H' Q) (XW K E F' H'):=h.mono (λ_ q=>q.ext e) λ_ _ q=>q.ext e
theorem y8.new (h:y8 K F H Q d):xL K F H Q d:=λl F' H' e n c o=>by
 obtain⟨u,f⟩:=o.has;refine h (.ref l) (upd F' l u) H' ⟨e.ff.trans (Kt c u),λb v q=>?_,e.hh,λa g i=>?_⟩ (o.frz f c)
 .by_cases z:b=l
  .simp_all [JL]
  .rw[JH z] at q;exact e.fh _ _ q
 .have z:a≠l:=by grind
  rw[JH z];exact e.new a g i
end
section
variable {X:Cx}{E:XK}
def j3 (h:QN X E e f):QE X E e f:=PE.weak h λZ H Q ⟨B,F,sd,r,n⟩=>⟨B,F,sd,r,n.mono (λ_ q=>q.new) λ_ _ q=>q⟩
def jb (i:Nat):FE:=λsd=>match sd[i]? with
 |some (some (.val d))=>.ok d
 |_=>.no
def dC (d:D):FE:=λ_=>.ok d
def uG (h:PE X e (xM i)):QE X E e (jb i):=PE.weak h λZ H Q a=>by
 obtain⟨B,F,sd,r,n⟩:=a;unfold jb at n
 split at n
 .rename_i d q;obtain⟨v,b,c⟩:=r.val q;exact⟨v,b,n v F H (.refl r.ext.fh) c⟩
 .exact n.elim
def XY (h:PE X e (tC v))(i:∀F,jg X.K F d v):QE X E e (dC d):=PE.weak h λZ H Q ⟨B,F,sd,r,n⟩=>n v F H (.refl r.ext.fh) (i F)
def J3 {i j pos}:QE X E (.Constant (.int i) j pos) (dC (.int i)):=XY LY λ_=>je.mpr rfl
def Ka {b j pos}:QE X E (.Constant (.bool b) j pos) (dC (.bl b)):=XY uU λ_=>jn.mpr rfl
def Fz {j pos}:QE X E (.Constant .none j pos) (dC .non):=XY LZ λ_=>jD.mpr rfl
def WA {x j pos}:QE X E (.Constant (.str x) j pos) (dC (.str x)):=XY DP λ_=>jr.mpr rfl
def Res.ofO {α: Type}:Option α -> Res α
 |some a=>.ok a
 |none=>.no
@[simp]def wI {α: Type}(a:α):Res.ofO (some a)=.ok a:=rfl
@[simp]def wJ {α: Type}:Res.ofO (none:Option α)=.no:=rfl
def jh {α: Type}{o:Option α}{p:α -> Prop}(h:(Res.ofO o).need p q):∃a,o=some a/\p a:=by
 cases o with
 |none=>exact h.elim
 |some a=>exact⟨a,rfl,h⟩
def jf (g:D->D->YH)(a b:FE):FE:=λsd=>(a sd).bind λx=>(b sd).bind λy=>.ofO (g x y)
def qX (g:D->YH)(a:FE):FE:=λsd=>(a sd).bind λx=>.ofO (g x)
def wY (K:W.Frag)(g:D->D->YH):R2:=λv w H Q=>∃F d e z,jk F H/\jg K F d v/\jg K F e w/\g d e=some z/\y8 K F H Q z
def uC (K:W.Frag)(g:D->D->YH):R2:=λv w H Q=>∃F d e z,jk F H/\jg K F d v/\jg K F e w/\g d e=some z/\xL K F H Q z
def mE (K:W.Frag)(g:D->YH):V->Hp->VK->Prop:=λv H Q=>∃F d z,jk F H/\jg K F d v/\g d=some z/\y8 K F H Q z
def zZ (K:W.Frag)(g:YG->YH):YE->Hp->VK->Prop:=λa H Q=>∃F ds z,jk F H/\jd K F ds a/\g ds=some z/\y8 K F H Q z
def zF (K:W.Frag)(g:YG->YH):YE->Hp->VK->Prop:=λa H Q=>∃F ds z,jk F H/\jd K F ds a/\g ds=some z/\xL K F H Q z
def XZ {K:W.Frag}{g:D->D->YH}{c e:FE}{Z: St}{H:Hp}{Q:VK}(h:tD K E (jf g c e) Z H Q):wW (wY K g) (tD K E c) (tD K E e) Z H Q:=by
 obtain⟨B,F,sd,r,n⟩:=h;refine⟨B,F,sd,r,(ja n).mono (λx f v i p a j=>⟨B,i,sd,r.step a,(ja f).mono (λy l w m s b o=>?_) λ_ _ q=>q.ext a⟩) λ_ _ q=>q⟩;obtain⟨z,hz,q⟩:=jh l;exact⟨m,x,y,z,b.fh,jg.same b.ff _ _ j,o,hz,q.ext (a.trans b)⟩
def OJ {K:W.Frag}{g:D->D->YH}{c e:FE}{Z: St}{H:Hp}{Q:VK}(h:vk K E (jf g c e) Z H Q):wW (uC K g) (tD K E c) (tD K E e) Z H Q:=by
 obtain⟨B,F,sd,r,n⟩:=h;refine⟨B,F,sd,r,(ja n).mono (λx f v i p a j=>⟨B,i,sd,r.step a,(ja f).mono (λy l w m s b o=>?_) λ_ _ q=>q.ext a⟩) λ_ _ q=>q⟩;obtain⟨z,hz,q⟩:=jh l;exact⟨m,x,y,z,b.fh,jg.same b.ff _ _ j,o,hz,q.ext (a.trans b)⟩
def vZ {K:W.Frag}{g:D->YH}{a:FE}{Z: St}{H:Hp}{Q:VK}(h:tD K E (qX g a) Z H Q):rA (mE K g) (tD K E a) Z H Q:=by
 obtain⟨B,F,sd,r,n⟩:=h;refine⟨B,F,sd,r,(ja n).mono (λx c v e i b f=>?_) λ_ _ q=>q⟩;obtain⟨z,hz,q⟩:=jh c;exact⟨e,x,z,b.fh,f,hz,q.ext b⟩
abbrev yL (X:Cx)(f:Value->Value->Sem Value)(g:D->D->YH):Prop:=qY X f (wY X.K g)
abbrev fI (X:Cx)(f:Value->Value->Sem Value)(g:D->D->YH):Prop:=qY X f (uC X.K g)
def qY.weak (h:qY X f r)(w:∀x y H Q,r' x y H Q->r x y H Q):qY X f r':=λY s Z H x y v u Q I a b q=>h Y s Z H x y v u Q I a b (w _ _ _ _ q)
def wF.weak (h:wF X f r)(w:∀x H Q,r' x H Q->r x H Q):wF X f r':=λY s Z H x v Q I a q=>h Y s Z H x v Q I a (w _ _ _ q)
def jU.weak (h:jU X f r)(w:∀x H Q,r' x H Q->r x H Q):jU X f r':=λY s Z H x v Q I a q=>h Y s Z H x v Q I a (w _ _ _ q)
def yN.weak (h:yN X r)(w:∀x y H Q,r' x y H Q->r x y H Q):yN X r':=λa b Y s Z H x y v u Q I c f q e=>h a b Y s Z H x y v u Q I c f (w _ _ _ _ q) e
variable {a b:Expr}{fa fb:FE}{pos:Pos}
def jl (c:yL X (binaryOp op) g)(e:QE X E a fa)(f:QE X E b fb):QE X E (.BinOp a op b pos) (jf g fa fb):=PE.weak (DV c e f) λ_ _ _ h=>XZ h
def uH (c:fI X (binaryOp op) g)(e:QE X E a fa)(f:QE X E b fb):QN X E (.BinOp a op b pos) (jf g fa fb):=PE.weak (DV c e f) λ_ _ _ h=>OJ h
def yT (c:wF X (unaryOp op) (mE X.K g))(e:QE X E a fa):QE X E (.UnaryOp op a pos) (qX g fa):=PE.weak (uS c e) λ_ _ _ h=>vZ h
def Aw (c:yL X (compareOp op) g)(e:QE X E a fa)(f:QE X E b fb)(i:behindInMarks op b=false):QE X E (.Compare a [op] [b] pos) (jf g fa fb):=PE.weak (M7 c e f i) λ_ _ _ h=>XZ h
def JE (fa:FE):FT:=λsd=>(fa sd).bind λx=>match x with
 | .bl b=>.ok b
 |_=>.no
def WC {K:W.Frag}{Z: St}{H:Hp}{Q:Bool->Hp->Prop}(h:fT K E (JE fa) Z H Q):tD K E fa Z H (λx e=>∃k,x=.bl k/\Q k e):=by
 obtain⟨B,F,sd,r,n⟩:=h;refine⟨B,F,sd,r,(ja n).mono (λx c v f g i j=>?_) λ_ _ q=>q⟩;cases x with
 |bl k=>exact⟨k,jn.mp j,c f g i⟩
 |_=>exact c.elim
def Q6 {op:CmpOp}{g:D->D->YH}(c:yL X (compareOp op) g)(e:QE X E a fa)(f:QE X E b fb)(i:behindInMarks op b=false):QT X E (.Compare a [op] [b] pos) (JE (jf g fa fb)):=
 PT.weak (Ea c e f i) λZ H Q h=>have h:=WC h;XZ h
def K5 (e:QE X E a fa)(f:∀c,isTrue a X.env c=(do let v <- c;standAt a.pos;holding [v] (truthy v)):=by intro _;rfl):QT X E a (JE fa):=PT.weak (Md e f) λZ H Q q=>WC q
def Ku (f:FT):FT:=λsd=>(f sd).bind λb=>.ok (!b)
def Xl (f g:FT):FT:=λsd=>(f sd).bind λb=>if b then g sd else .ok false
def wE (f g:FT):FT:=λsd=>(f sd).bind λb=>if b then .ok true else g sd
variable {f g:FT}{rest:Ym}
def Xm (c:QT X E a f):QT X E (.UnaryOp .Not a pos) (Ku f):=PT.weak (Mh c) λZ H Q ⟨B,F,sd,r,n⟩ =>
 ⟨B,F,sd,r,(ja n).mono (λ_ q=>q) λ_ _ q=>q⟩
def F6 (c:QT X E a f):QW X E (.BoolOp .And [a] pos) f:=Me c
def F7 (c:QT X E a f):QW X E (.BoolOp .Or [a] pos) f:=Mf c
def F8 (i:QT X E a f)(j:QW X E (.BoolOp .And (b::rest) pos) g):QW X E (.BoolOp .And (a::b::rest) pos) (Xl f g):=PW.weak (Mg i j) λZ H Q l=>by
 obtain⟨B,F,sd,r,n⟩:=l;refine⟨B,F,sd,r,(ja n).mono (λk e h m c=>?_) λ_ _ q=>q⟩;cases k with
 |true=>exact⟨B,h,sd,r.step c,Fy e c⟩
 |false=>exact e h m c
def F9 (i:QT X E a f)(j:QW X E (.BoolOp .Or (b::rest) pos) g):QW X E (.BoolOp .Or (a::b::rest) pos) (wE f g):=PW.weak (uN i j) λZ H Q l=>by
 obtain⟨B,F,sd,r,n⟩:=l;refine⟨B,F,sd,r,(ja n).mono (λk e h m c=>?_) λ_ _ q=>q⟩;cases k with
 |true=>exact e h m c
 |false=>exact⟨B,h,sd,r.step c,Fy e c⟩
def zc (h:QW X E e f):QT X E e f:=fG h
def Y0 (fa fb:FE):FE:=λsd=>(JE fa sd).bind λb=>if b then fb sd else .ok (.bl false)
def wD (fa fb:FE):FE:=λsd=>(JE fa sd).bind λb=>if b then .ok (.bl true) else fb sd
def Cs (fa:FE):FE:=λsd=>(JE fa sd).bind λb=>.ok (.bl !b)
def Ct {op}(h:QE X E a fa):QE X E (.BoolOp op [a] pos) fa:=Mi h
def Cu (i:QE X E a fa)(j:QE X E (.BoolOp .And (b::rest) pos) fb):QE X E (.BoolOp .And (a::b::rest) pos) (Y0 fa fb):=PE.weak (Mj i j) λZ H Q l=>by
 obtain⟨B,F,sd,r,n⟩:=l;refine WC ⟨B,F,sd,r,(ja n).mono (λk e h m c=>?_) λ_ _ q=>q⟩;cases k with
 |true=>exact⟨B,h,sd,r.step c,XX e c⟩
 |false=>exact e _ h m c (jn.mpr rfl)
def mF (l:QE X E a fa)(m:QE X E (.BoolOp .Or (b::rest) pos) fb):QE X E (.BoolOp .Or (a::b::rest) pos) (wD fa fb):=PE.weak (uT l m) λZ H Q o=>by
 obtain⟨B,F,sd,r,n⟩:=o;refine WC (K:=X.K) (E:=E) (Q:=λc e=>if c=true then Q (.bl true) e else tD X.K E fb Z e Q) ⟨B,F,sd,r,(ja n).mono (λk i j e h=>?_) λ_ _ q=>q⟩;cases k with
 |true=>exact i _ j e h (jn.mpr rfl)
 |false=>exact⟨B,j,sd,r.step h,XX i h⟩
def uI (c:QE X E a fa):QE X E (.UnaryOp .Not a pos) (Cs fa):=PE.weak (Ml c) λZ H Q ⟨B,F,sd,r,n⟩=>WC ⟨B,F,sd,r,(ja n).mono (λk e h i j=>(e _ h i j (jn.mpr rfl))) λ_ _ q=>q⟩
def jc:FA:=λ_=>.ok []
def J0 (fa:FE)(c:FA):FA:=λsd=>(fa sd).bind λx=>(c sd).bind λe=>.ok (x::e)
def J2:QA X E [] jc:=PA.weak W0 λZ H Q ⟨B,F,sd,r,n⟩=>n [] F H (.refl r.ext.fh) .nil
def J1 (i:QE X E e fe)(j:QA X E es fr)(hs:starEach (e::es) X.env=(false,eval e X.env)::starEach es X.env:=by rfl):QA X E (e::es) (J0 fe fr):=
 PA.weak (KS i j hs) λZ H Q ⟨B,F,sd,r,n⟩=>⟨B,F,sd,r,(ja n).mono (λx l v m w c o=>⟨B,m,sd,r.step c,(ja l).mono (λy p z s t h u=>(p _ s t (c.trans h) (.mk (jg.same h.ff _ _ o) u))) λ_ _ q=>q.ext c⟩) λ_ _ q=>q⟩
def qG (e:FA):FE:=λsd=>(e sd).bind λc=>if c.length<=1000 then .ok (.lst c) else .no
def xh (e:FA):FE:=λsd=>(e sd).bind λc=>if c.length<=1000 then .ok (.tup c) else .no
def Kj (h:QA X E es fr):QN X E (.List es pos) (qG fr):=PE.weak (MS h) λZ H Q l=>by
 obtain⟨B,F,sd,r,n⟩:=l;refine⟨B,F,sd,r,(ja n).mono (λs e i m o c j=>?_) λ_ _ q=>q⟩
 split at e
 .have hz:=j.length;exact⟨QK (),λp hp=>(e p m (upd o p (.lst i)) (c.trans (.keep c.fh hp _)) (Qj c.hh hp) (Qj c.fh hp) ⟨i,JL,j⟩)⟩
 .exact e.elim
def WD {x1}(h:QA X E es fr):QE X E (.Tuple es x1 pos) (xh fr):=PE.weak (MQ h) λZ H Q m=>by
 obtain⟨B,F,sd,r,n⟩:=m;refine⟨B,F,sd,r,(ja n).mono (λo c e s t i j=>?_) λ_ _ q=>q⟩
 split at c
 .have hz:=j.length;refine⟨QK (),λp hp=>?_⟩;have l:=qj i.fh hp (.tup e);exact c _ _ _ (i.trans l) (j0.mpr ⟨p,e,rfl,.of JL,jd.same l.ff _ _ j⟩)
 .exact c.elim
def qH (K:W.Frag)(c:YG->Res D):Sp:=λe H Q _=>∃F ds,jk F H/\jd K F ds e/\(c ds).need (y8 K F H Q) (XW K E0 F H)
def zb (K:W.Frag)(c:YG->Res D):Sp:=λe H Q _=>∃F ds,jk F H/\jd K F ds e/\(c ds).need (xL K F H Q) (XW K E0 F H)
def J6 (c:YG->Res D)(e:FA):FE:=λsd=>(e sd).bind c
def jI {name:Str}{k:Nat}{ps:Yk}{h:YG->Res D}{p:Pos}{e:Expr}{es:Ym}{l:FA}(c:z7 X.prog X.w X.K X.mg X.base name k ps (qH X.K h))(o:Room k X.A)(s:Gl X name)(t:QA X E0 (e::es) l)
 (i:(name == ("__debug__" : Str))=false:=by decide) (u:starEach (e::es) X.env=(false,eval e X.env)::starEach es X.env:=by rfl) (j:(backTo pos (starEach es X.env)).any (·.1)=false:=by rfl):
 QE X E0 (.Call (.Name name p) (e::es) [] pos) (J6 h l):=PE.weak (XN c o s t i u j) λZ H Q v=>by
 obtain⟨B,F,sd,r,n⟩:=v;refine⟨B,F,sd,r,(ja n).mono (λw x y z A m C=>?_) λ_ _ q=>q⟩;show qH X.K h (y++[]) A Q E0;rw[ZB];exact⟨z,w,m.fh,C,XX x m⟩
def Ax {name:Str}{k:Nat}{ps:Yk}{h:YG->Res D}{p:Pos}{e:Expr}{es:Ym}{l:FA}(c:z7 X.prog X.w X.K X.mg X.base name k ps (zb X.K h))(o:Room k X.A)(s:Gl X name)(t:QA X E0 (e::es) l)
 (i:(name == ("__debug__" : Str))=false:=by decide) (u:starEach (e::es) X.env=(false,eval e X.env)::starEach es X.env:=by rfl) (j:(backTo pos (starEach es X.env)).any (·.1)=false:=by rfl):
 QN X E0 (.Call (.Name name p) (e::es) [] pos) (J6 h l):=PE.weak (XN c o s t i u j) λZ H Q v=>by
 obtain⟨B,F,sd,r,n⟩:=v;refine⟨B,F,sd,r,(ja n).mono (λw x y z A m C=>?_) λ_ _ q=>q⟩;show zb X.K h (y++[]) A Q E0;rw[ZB];exact⟨z,w,m.fh,C,Av x m⟩
def jt (g:YG->YH)(c:FA):FE:=λsd=>(c sd).bind λe=>.ofO (g e)
def Qb {id:String}{x:Str}{p:Pos}{e:Expr}{es:Ym}{g:YG->YH}{i:FA}(l:jU X (.builtin id) (zZ X.K g))(m:Gl X x)(o:X.mg x=none)(s:bootBuiltins x=some (.builtin id))(t:QA X E (e::es) i)(u:x ≠ "__name__" := by decide)(c:(x == ("__debug__" : Str))=false:=by decide)
 (v:starEach (e::es) X.env=(false,eval e X.env)::starEach es X.env:=by rfl) (h:(backTo pos (starEach es X.env)).any (·.1)=false:=by rfl):QE X E (.Call (.Name x p) (e::es) [] pos) (jt g i):=
 PE.weak (ZY l m o s t u c v h) λZ H Q w=>by
  obtain⟨B,F,sd,r,n⟩:=w;refine⟨B,F,sd,r,(ja n).mono (λy A I C J j G=>?_) λ_ _ q=>q⟩;obtain⟨z,hz,q⟩:=jh A;exact⟨C,y,z,j.fh,G,hz,q.ext j⟩
def FB {id:String}{x:Str}{p:Pos}{e:Expr}{es:Ym}{g:YG->YH}{i:FA}(l:jU X (.builtin id) (zF X.K g))(m:Gl X x)(o:X.mg x=none)(s:bootBuiltins x=some (.builtin id))(t:QA X E (e::es) i)(u:x ≠ "__name__" := by decide)(c:(x == ("__debug__" : Str))=false:=by decide)
 (v:starEach (e::es) X.env=(false,eval e X.env)::starEach es X.env:=by rfl) (h:(backTo pos (starEach es X.env)).any (·.1)=false:=by rfl):QN X E (.Call (.Name x p) (e::es) [] pos) (jt g i):=
 PE.weak (ZY l m o s t u c v h) λZ H Q w=>by
  obtain⟨B,F,sd,r,n⟩:=w;refine⟨B,F,sd,r,(ja n).mono (λy A I C J j G=>?_) λ_ _ q=>q⟩;obtain⟨z,hz,q⟩:=jh A;exact⟨C,y,z,j.fh,G,hz,q.ext j⟩
def WE {T:String}{x:Str}{p:Pos}{e:Expr}{es:Ym}{g:YG->YH}{i:FA}(l:jU X (.type T) (zZ X.K g))(m:Gl X x)(o:X.mg x=none)(s:bootBuiltins x=some (.type T))(t:QA X E (e::es) i)(u:x ≠ "__name__" := by decide)(c:(x == ("__debug__" : Str))=false:=by decide)
 (v:starEach (e::es) X.env=(false,eval e X.env)::starEach es X.env:=by rfl) (h:(backTo pos (starEach es X.env)).any (·.1)=false:=by rfl):QE X E (.Call (.Name x p) (e::es) [] pos) (jt g i):=
 PE.weak (BJ l m o s t u c v h) λZ H Q w=>by
  obtain⟨B,F,sd,r,n⟩:=w;refine⟨B,F,sd,r,(ja n).mono (λy A I C J j G=>?_) λ_ _ q=>q⟩;obtain⟨z,hz,q⟩:=jh A;exact⟨C,y,z,j.fh,G,hz,q.ext j⟩
def K6 {T:String}{x:Str}{p:Pos}{e:Expr}{es:Ym}{g:YG->YH}{i:FA}(l:jU X (.type T) (zF X.K g))(m:Gl X x)(o:X.mg x=none)(s:bootBuiltins x=some (.type T))(t:QA X E (e::es) i)(u:x ≠ "__name__" := by decide)(c:(x == ("__debug__" : Str))=false:=by decide)
 (v:starEach (e::es) X.env=(false,eval e X.env)::starEach es X.env:=by rfl) (h:(backTo pos (starEach es X.env)).any (·.1)=false:=by rfl):QN X E (.Call (.Name x p) (e::es) [] pos) (jt g i):=
 PE.weak (BJ l m o s t u c v h) λZ H Q w=>by
  obtain⟨B,F,sd,r,n⟩:=w;refine⟨B,F,sd,r,(ja n).mono (λy A I C J j G=>?_) λ_ _ q=>q⟩;obtain⟨z,hz,q⟩:=jh A;exact⟨C,y,z,j.fh,G,hz,q.ext j⟩
def K7:D->Bool
 | .tup _=>false
 | .lst _=>false
 | .dct _ _=>false
 | .ins _ _ _=>false
 | .exc _=>false
 | .dcf _ _=>false
 | .pin _ _=>false
 | .scr _=>false
 |_=>true
def jg.scal {K:W.Frag}{F c:Hp}{d:D}{v:V}(s:K7 d=true)(h:jg K F d v):jg K c d v:=by
 cases d with
 |tup _=>exact JC s
 |lst _=>exact JC s
 |dct _ _=>exact JC s
 |ins _ _ _=>exact JC s
 |exc _=>exact JC s
 |dcf _ _=>exact JC s
 |pin _ _=>exact JC s
 |scr _=>exact JC s
 |_=>exact h
def Res.bare {α: Type}(r:Res α):Res α:= match r with
 | .ok a=>.ok a
 | .ex c []=>.ex c []
 |_=>.no
def qV {α: Type}{K:W.Frag}{F H e:Hp}{r:Res α}{p:α -> Prop}(i:jk F H)(h:r.bare.need p (XW K E0 F H)):r.need p (XW K E0 e H):=by
 cases r with
 |ok a=>exact h
 |no=>exact h
 |ex c fs =>
  cases fs with
  |nil=>exact λj a q l m ⟨C,n,o,_⟩=>h j none F l (.grow i m.hh) ⟨C,n,o,.inl rfl⟩
  |cons d r=>exact h.elim
def ye (is:Yj)(f:FE):FE:=λsd=>(f (jW is sd)).bare.bind λd=>if K7 d then .ok d else .no
def Y1 {e:Expr}{j:FE}(is)(h:QE X E0 e j):QE X E0 e (ye is j):=PE.weak h λZ H Q l=>by
 obtain⟨B,F,sd,r,n⟩:=l;obtain⟨m,u,o⟩:=r.frz is;refine⟨B,m,_,o,(qV r.ext.fh (ja n)).mono (λd i v w p s t=>?_) λc fs q=>q⟩
 split at i
 .rename_i hs;exact i v F p (.grow r.ext.fh s.hh) (t.scal hs)
 .exact i.elim
end
inductive Out where
 |next (sd:SD)|ret (d:D)|brk (sd:SD)|cont (sd:SD)
def bL (K:W.Frag)(F H:Hp)(Q:VK)(d:D):Prop:=if K7 d=true then y8 K F H Q d else xL K F H Q d
def Ay (K:W.Frag)(m:Option Bool)(B:Bs)(Q:VK)(d:D):Prop:=match m with
 |some true=>xL K B.F0 B.H0 Q d
 |some false=>y8 K B.F0 B.H0 Q d
 |none=>bL K B.F0 B.H0 Q d
def yX (K:W.Frag)(m:Option Bool)(B:Bs)(F:Hp)(T:Ends):Out->Prop
 | .next sd=>∀Z a b,jk F a->RS K B a b sd Z -> T.nx Z b
 | .brk sd=>∀Z a b,jk F a->RS K B a b sd Z -> T.bk Z b
 | .cont sd=>∀Z a b,jk F a->RS K B a b sd Z -> T.ct Z b
 | .ret d=>Ay K m B T.rt d
abbrev FS:=SD->Res Out
def uj (K:W.Frag)(E:XK)(m:Option Bool)(g:FS):TS:=λT Z H=>∃B F sd,RS K B F H sd Z /\ (g sd).need (yX K m B F T) (XW K E B.F0 B.H0)
abbrev QS (X:Cx)(E:XK)(m:Option Bool)(st:Stmt)(g:FS):Prop:=PS X st (uj X.K E m g)
abbrev zq (X:Cx)(E:XK)(m:Option Bool)(st:List Stmt)(g:FS):Prop:=qK X st (uj X.K E m g)
section
variable {K:W.Frag}{E:XK}{m:Option Bool}{B:Bs}{F F' H:Hp}{T:Ends}
def yX.mono (h:yX K m B F T o)(e:jk F F'):yX K m B F' T o:=by
 cases o with
 |next sd=>exact λZ a b s r=>h Z a b (e.trans s) r
 |brk sd=>exact λZ a b s r=>h Z a b (e.trans s) r
 |cont sd=>exact λZ a b s r=>h Z a b (e.trans s) r
 |ret d=>exact h
end
section
variable {X:Cx}{E:XK}{m:Option Bool}{st:Stmt}{sts:List Stmt}{g g1 g2:FS}{pos:Pos}
def JT:FS:=λsd=>.ok (.next sd)
def jj (g1 g2:FS):FS:=λsd=>(g1 sd).bind λo=>match o with
 | .next sd'=>g2 sd'
 |o=>.ok o
def Qo:zq X E m [] JT:=qK.weak ZU λT Z H ⟨B,F,sd,r,n⟩=>n Z F H (.refl _) r
def J8 (h:QS X E m st g):zq X E m [st] g:=BB h
def J9 (b:QS X E m st g1)(c:zq X E m sts g2):zq X E m (st::sts) (jj g1 g2):=qK.weak (XD b c) λT Z H e=>by
 obtain⟨B,F,sd,r,n⟩:=e;refine⟨B,F,sd,r,(ja n).mono (λo a=>?_) λ_ _ q=>q⟩;cases o with
 |next sd'=>exact λi f j s h=>⟨B,f,sd',h,a.mono (λo q=>q.mono s) λ_ _ q=>q⟩
 |ret d=>exact a
 |brk sd'=>exact a
 |cont sd'=>exact a
def Xn (is)(h:QS X E m st g):QS X E m st (λsd=>g (jW is sd)):=PS.weak h λT Z H a=>by
 obtain⟨B,F,sd,r,n⟩:=a;obtain⟨b,c,e⟩:=r.frz is;exact⟨B,b,_,e,n.mono (λ_ q=>q.mono c) λ_ _ q=>q⟩
def vn:FS:=λsd=>.ok (.brk sd)
def OK:QS X E m (.Break pos) vn:=PS.weak Mn λT Z H ⟨B,F,sd,r,n⟩=>n Z F H (.refl _) r
variable {e:Expr}{fe:FE}
def jy (i:Nat)(f:FE):FS:=λsd=>(f sd).bind λd=>.ok (.next (sd.set i (some (.val d))))
def qf (i:Nat)(f:FE):FS:=λsd=>(f sd).bind λd=>.ok (.next (sd.set i (some (.own false d))))
def JR (b:X.N.Nodup)(c:X.N[i]? = some x)(f:yM X.env.scope x)(h:QE X E e fe)(hs:swapsWith e (some (.Name x pos')) pos.line X.env=pure false:=by rfl)
 (j:X.fn x=true\/X.env.scope.names.lookup x=some .local:=by trivial):QS X E m (.Assign [.Name x pos'] e pos) (jy i fe):=PS.weak (DT b c f h hs j) λT Z H ⟨B,F,sd,r,n⟩=>⟨B,F,sd,r,(ja n).mono (λd l v o p a s=>(l _ o p a.ff ((r.step a).setVal s))) λ_ _ q=>q.ext r.ext⟩
def Kk (b:X.N.Nodup)(c:X.N[i]? = some x)(f:yM X.env.scope x)(h:QN X E e fe)(hs:swapsWith e (some (.Name x pos')) pos.line X.env=pure false:=by rfl)
 (s:X.fn x=true\/X.env.scope.names.lookup x=some .local:=by trivial):QS X E m (.Assign [.Name x pos'] e pos) (qf i fe):=PS.weak (DT b c f h hs s) λT Z H t=>by
 obtain⟨B,F,sd,r,n⟩:=t;refine⟨B,F,sd,r,(ja n).mono (λd u l v w a y z A=>(u _ v w a.ff ((r.step a).setOwn (Qj r.ext.hh y) z A λj p I C J=>?_))) λ_ _ q=>q.ext r.ext⟩;obtain⟨K,L,_,_,G,_⟩:=r.own C;obtain⟨o,M⟩:=G.has
 simp_all
def j4 (f:FE):FS:=λsd=>(f sd).bind λd=>.ok (.ret d)
def JN (a:QE X E e fe):QS X E false (.Return (some e) pos) (j4 fe):=PS.weak (ZV a) λT Z H ⟨B,F,sd,r,n⟩=>⟨B,F,sd,r,(ja n).mono (λd b v c f h i=>(b v c f (r.ext.trans h) i)) λ_ _ q=>q.ext r.ext⟩
def WF (a:QN X E e fe):QS X E true (.Return (some e) pos) (j4 fe):=PS.weak (ZV a) λT Z H ⟨B,F,sd,r,n⟩=>⟨B,F,sd,r,(ja n).mono (λd b l c f h i j o=>(b l c f (r.ext.trans h) (Qj r.ext.hh i) j o)) λ_ _ q=>q.ext r.ext⟩
def Kb (i:Nat):FS:=λsd=>match sd[i]? with
 |some (some (.own _ d))=>.ok (.ret d)
 |_=>.no
def WG (a:PE X e (xM i)):QS X E true (.Return (some e) pos) (Kb i):=PS.weak (ZV a) λT Z H b=>by
 obtain⟨B,F,sd,r,n⟩:=b;unfold Kb at n
 split at n
 .rename_i d q;obtain⟨l,c,f,h,j,_⟩:=r.own q;exact⟨.ref l,c,n l F H r.ext f h j⟩
 .exact n.elim
def qJ (c:FT)(g1 g2:FS):FS:=λsd=>(c sd).bind λb=>if b then g1 sd else g2 sd
def Qp (j:QT X E c fc)(l:zq X E m a g1)(o:zq X E m b g2):QS X E m (.If c a b pos) (qJ fc g1 g2):=PS.weak (BD j l o) λT Z H p=>by
 obtain⟨B,F,sd,r,n⟩:=p;refine⟨B,F,sd,r,(ja n).mono (λb h i s f=>?_) λ_ _ q=>q.ext r.ext⟩;cases b with
 |true=>exact⟨B,i,sd,r.step f,h.mono (λ_ q=>q.mono f.ff) λ_ _ q=>q⟩
 |false=>exact⟨B,i,sd,r.step f,h.mono (λ_ q=>q.mono f.ff) λ_ _ q=>q⟩
def QL (i:Nat)(f:FE):FS:=λsd=>match sd[i]? with
 |some (some (.own false (.lst ds)))=>(f sd).bind λd=>if ds.length<sizeLine then .ok (.next (sd.set i (some (.own false (.lst (ds++[d])))))) else .no
 |_=>.no
def WH (z:PE X o (xM i))(A:QE X E e fe)
 (hp:∀{p:TE} {t:TA},PE X o p->PA X [e] t->PE X (.Call (.Attribute o "append" apos) [e] [] cpos) (fV X.K "list" BM p t))
 (hs:swapsWith (.Call (.Attribute o "append" apos) [e] [] cpos) none pos.line X.env=pure false:=by rfl)
 (f:starEach [e] X.env=(false,eval e X.env)::starEach [] X.env:=by rfl):QS X E m (.Expr (.Call (.Attribute o "append" apos) [e] [] cpos) pos) (QL i fe):=
 PS.weak (BC (hp z (J1 A J2 f)) hs) λT Z H C=>by
  obtain⟨B,F,sd,r,n⟩:=C;unfold QL at n
  split at n
  .rename_i ds s;obtain⟨l,u,L,M,⟨h,x,y⟩,_⟩:=r.own s;refine⟨.ref l,u,.inl ⟨rfl,h,qs.of x⟩,B,F,sd,r,?_⟩;unfold J0 jc;have a:=ja n;cases q:fe sd with
   |no=>rwa [q] at a
   |ex c fs=>rw[q] at a;exact a.ext r.ext
   |ok d =>
    rw[q] at a;intro N G O b I;obtain⟨v,w,rfl,J,K⟩:=I;subst K;have j:=a
    split at j
    .have P:=y.length;exact⟨l,h,v,rfl,rfl,b.hh _ _ x,(),j Z G _ b.ff ((r.step b).chg s u ⟨h++[v],JL,(jd.same b.ff _ _ y).snoc J⟩)⟩
    .exact j.elim
  .exact n.elim
def Xo (i:Nat)(f:FE):FS:=λsd=>match sd[i]? with
 |some (some (.own false (.lst ds)))=>(f sd).bind λd=>match d with
  | .lst es=>if ds.length+es.length<=sizeLine then .ok (.next (sd.set i (some (.own false (.lst (ds++es)))))) else .no
  |_=>.no
 |_=>.no
def OL (x:PE X o (xM i))(y:QN X E e fe)
 (hp:∀{j:TE} {t:TA},PE X o j->PA X [e] t->PE X (.Call (.Attribute o "extend" apos) [e] [] cpos) (fV X.K "list" En j t))
 (hs:swapsWith (.Call (.Attribute o "extend" apos) [e] [] cpos) none pos.line X.env=pure false:=by rfl)
 (c:starEach [e] X.env=(false,eval e X.env)::starEach [] X.env:=by rfl):QS X E m (.Expr (.Call (.Attribute o "extend" apos) [e] [] cpos) pos) (Xo i fe):=
 PS.weak (BC (hp x (KS y W0 c)) hs) λT Z H z=>by
  obtain⟨B,F,sd,r,n⟩:=z;unfold Xo at n
  split at n
  .rename_i ds p;obtain⟨l,s,I,J,⟨f,u,v⟩,_⟩:=r.own p;refine⟨.ref l,s,.inl ⟨rfl,f,qs.of u⟩,B,F,sd,r,(ja n).mono (λd w b A K a L M C=>?_) λ_ _ q=>q.ext r.ext⟩;cases d with
   |lst es =>
    have ⟨ys,g1,g2⟩:=C;have h:(if ds.length+es.length<=sizeLine then Res.ok (Out.next (sd.set i (some (.own false (.lst (ds++es)))))) else .no).need (yX X.K m B F T) (XW X.K E B.F0 B.H0):=w
    split at h
    .have N:=v.length;have G:=g2.length;exact⟨l,b,f,ys,rfl,rfl,a.hh _ _ u,g1,(),h Z A _ a.ff ((r.step a).chg p s ⟨f++ys,JL,(jd.same a.ff _ _ v).append g2⟩)⟩
    .exact h.elim
   |_=>exact w.elim
  .exact n.elim
inductive Tg where
 |one (i:Nat)|tup (is:Yj)
def setAll:Yj->YG->SD->SD
 |i::is,d::ds,sd=>setAll is ds (sd.set i (some (.val d)))
 |_,_,sd=>sd
def JO:Tg->D->SD->Res SD
 | .one i,d,sd=>.ok (sd.set i (some (.val d)))
 | .tup is,.tup ds,sd=>if ds.length=is.length then .ok (setAll is ds sd) else .no
 |_,_,_=>.no
def Az:Yj->YE->St->St
 |i::is,v::vs,Z => Az is vs (Z.set i (some v))
 |_,_,Z => Z
theorem RS.setAll {K:W.Frag}{B:Bs}{F H:Hp}:∀{is:Yj} {ds:YG} {a:YE} {sd:SD} {Z: St},RS K B F H sd Z -> jd K F ds a->RS K B F H (setAll is ds sd) (Az is a Z)
 | [],ds,a,sd,Z,r,_=>r
 |i::is,[],a,sd,Z,r,h=>by
  subst h;exact r
 |i::is,d::ds,a,sd,Z,r,h=>by
  obtain⟨v,w,rfl,b,c⟩:=h;exact RS.setAll (is:=is) (r.setVal b) c
def RS.forget {K:W.Frag}{B:Bs}{F H:Hp}{sd sd':SD}{Z: St}(r:RS K B F H sd Z)(a:sd'.length=sd.length)(h:∀(i:Nat) x,sd'[i]? = some (some x)->sd[i]? = some (some x)):RS K B F H sd' Z:=
 ⟨r.ext,by rw[r.len,a],λq=>r.val (h _ _ q),λq=>r.own (h _ _ q),λn b c f=>r.apart n (h _ _ b) (h _ _ c) f⟩
def gT:Tg->W.Frag->TG
 | .one i,_=>KG i
 | .tup is,K=>λv Z H Q=>∃a b,v=.ref a/\yw K H a b/\b.length=is.length/\Q (Az is b Z) H
def Y2 {K:W.Frag}{tg:Tg}{B:Bs}{F H:Hp}{sd:SD}{Z: St}{d:D}{v:V}{p:SD->Prop}{q:Str->YG->Prop}{Q:St->Hp->Prop}(r:RS K B F H sd Z)(f:jg K F d v)(n:(JO tg d sd).need p q)
 (h:∀sd' j,p sd'->JO tg d sd=.ok sd'->RS K B F H sd' j->Q j H):gT tg K v Z H Q:=by
 cases tg with
 |one i=>exact h _ _ n rfl (r.setVal f)
 |tup is =>
  cases d with
  |tup ds =>
   obtain⟨a,o,rfl,s,l⟩:=f;have b:JO (.tup is) (.tup ds) sd=if ds.length=is.length then .ok (setAll is ds sd) else .no:=rfl
   by_cases c:ds.length=is.length
   .rw[Zd c] at b;rw[b] at n;exact⟨a,o,rfl,(s.same r.ext.fh).sq,by rw[l.length,c],h _ _ n b (r.setAll l)⟩
   .rw[Ze c] at b;rw[b] at n;exact n.elim
  |_=>exact n.elim
abbrev QG (X:Cx)(e:Expr)(tg:Tg):Prop:=PG X e (gT tg X.K)
def zN (K:W.Frag)(h:Hp)(J:It)(ds:YG):Prop:=∀(i:Nat) (b a:Hp),jk h b->jk b a ->
 (i<ds.length->J.go i a/\∀x c,J.yld i a x c->∃d f,ds[i]? = some d/\Ext b a f c/\jg K f d x)/\(ds.length<=i->J.stop i a)
def fU (K:W.Frag)(E:XK)(f:FA):TI:=λZ H R=>∃B F sd,RS K B F H sd Z /\ (f sd).need (λds=>∀J a b,Ext F H a b->zN K a J ds->R J b) (XW K E F H)
abbrev QI (X:Cx)(E:XK)(tg iter:Expr)(f:FA):Prop:=PI X tg iter (fU X.K E f)
def yr (b:D->FS):YG->FS
 | [],sd=>.ok (.next sd)
 |x::xs,sd=>(b x sd).bind λo=>match o with
  | .next sd'=>yr b xs sd'
  | .cont sd'=>yr b xs sd'
  | .brk sd'=>.ok (.next sd')
  | .ret d=>.ok (.ret d)
def jK (it:FA)(tg:Tg)(b:FS):FS:=λsd=>(it sd).bind λds=>yr (λx sd=>(JO tg x sd).bind b) ds sd
def Qq (hp:PassesOwn (model X.prog X.w) X.A X.env X.xe)(Q:X.calm=true)(M:QI X E tg iter fi)(R:QG X tg t)(S:zq X E m body g)
 (w:∀x,foldedSetIterable iter X.env x=pure x:=by intro _;rfl):QS X E m (.For tg iter body [] pos) (jK fi t g):=PS.weak (DU hp Q M R S w) λT Z H U=>by
 obtain⟨B,F,sd,r,n⟩:=U;refine⟨B,F,sd,r,(ja n).mono (λds Y J z H1 N wk=>(⟨λi k Z H=>k=ds.length-i/\i<=ds.length/\∃j sd,jk z j/\RS X.K B j H sd Z /\ (yr (λx sd=>(JO t x sd).bind g) (ds.drop i) sd).need (yX X.K m B j T) (XW X.K E B.F0 B.H0),
  ⟨ds.length,rfl,Ua _,z,sd,.refl _,r.step N,Y.mono (λ_ q=>q.mono N.ff) λ_ _ q=>q⟩,?_⟩)) λ_ _ q=>q.ext r.ext⟩
 rintro i k Z2 O ⟨rfl,M,j,sd2,A,C,p⟩;obtain⟨w1,w2⟩:=wk i j O A C.ext.fh;by_cases c:i<ds.length
 .obtain⟨go,yl⟩:=w1 c;refine .inr ⟨go,λG P=>∃f a,jk z f/\RS X.K B f P a G/\(yr (λx sd=>(JO t x sd).bind g) (ds.drop (i+1)) a).need (yX X.K m B f T) (XW X.K E B.F0 B.H0),
   λG P ⟨f,a,q1,q2,q3⟩=>⟨ds.length-(i+1),(),rfl,c,f,a,q1,q2,q3⟩,λx H3 y=>?_⟩
  obtain⟨d,f,hd,l,i3⟩:=yl x H3 y;rw[Uu c] at p;have I:ds[i]=d:=by simp_all
  rw[I] at p;refine Y2 (C.step l) i3 (ja (ja p)) λsd' G n4 _ r4=>⟨B,f,sd',r4,n4.mono (λo v=>?_) λ_ _ q=>q⟩;cases o with
  |next b=>exact λK s L h u=>⟨s,b,(A.trans l.ff).trans h,u,v.mono (λ_ q=>q.mono (l.ff.trans h)) λ_ _ q=>q⟩
  |cont b=>exact λK s L h u=>⟨s,b,(A.trans l.ff).trans h,u,v.mono (λ_ q=>q.mono (l.ff.trans h)) λ_ _ q=>q⟩
  |brk b=>exact λK s L h u=>v K s L (l.ff.trans h) u
  |ret d=>exact v
 .have he:i=ds.length:=()
  refine .inl ⟨w2 (),?_⟩;subst he;rw[Vb] at p;exact p Z2 j O (.refl _) C
def ya {α β: Type}(f:α -> Res β):List α -> Res (List β)
 | []=>.ok []
 |x::xs=>(f x).bind λy=>(ya f xs).bind λys=>.ok (y::ys)
def jY (cap:List (Option Nat))(sd:SD):SD:=cap.map λo=>o.bind λj=>match sd[j]? with
 |some (some (.val d))=>some (.val d)
 |_=>none
def Um (sd:SD)(i:Nat):Bool:=match sd[i]? with
 |some none=>true
 |_=>false
def Ux (sd:SD):Tg->Bool
 | .one i=>Um sd i
 | .tup is=>is.all (Um sd)
def Qr (cap:List (Option Nat))(it:FA)(tg:Tg)(f:FE):FE:=λsd=>(it sd).bind λds=>if Ux (jY cap sd) tg=true/\ds.length<sizeLine then
 (ya (λx=>(JO tg x (jY cap sd)).bind f) ds).bind λys=>.ok (.lst ys) else .no
theorem RS.cap {K:W.Frag}{B:Bs}{F H:Hp}{sd:SD}{Z: St}(cap)(r:RS K B F H sd Z):RS K B F H (jY cap sd) (KH cap Z):=by
 have a:∀{i:Nat} {x:SV},(jY cap sd)[i]? = some (some x)->∃j d,cap[i]? = some (some j)/\sd[j]? = some (some (.val d))/\x=.val d:=λ{i x} q=>by
  unfold jY at q;rw[Zv] at q;cases c:cap[i]? with
  |none=>rw[c] at q;exact J5 q
  |some o =>
   rw[c] at q;cases o with
   |none=>cases q
   |some j =>
    have q:(match sd[j]? with
     |some (some (.val d))=>some (SV.val d)
     |_=>none)=some x:=Zqi q
    split at q
    .rename_i d u;exact()
    .exact J5 q
 refine⟨r.ext,by unfold jY KH;rw[Zql,Zql],λ{i d} q=>?_,λ{i p d} q=>?_,λ{i j p w d e l} _ q=>?_⟩
 .obtain⟨j,n,f,h,b⟩:=a q;cases b;obtain⟨v,s,t⟩:=r.val h;refine⟨v,?_,t⟩;unfold KH;rw[Zv,f];show some (Option.bind (some j) λj=>(Z[j]?).join)=_;rw[Option.bind_some,s];rfl
 .obtain⟨j,n,f,h,b⟩:=a q;cases b
 grind
theorem Cv:∀is ds a sd,is.all (Um a)=true->sd.length=a.length->(∀(i:Nat) x,a[i]? = some (some x)->sd[i]? = some (some x)) ->
 (setAll is ds sd).length=a.length/\∀(i:Nat) x,a[i]? = some (some x)->(setAll is ds sd)[i]? = some (some x)
 | [],ds,a,sd,_,hl,h=>⟨hl,h⟩
 |i::is,[],a,sd,_,hl,h=>⟨hl,h⟩
 |i::is,d::ds,a,sd,hn,hl,h=>by
  rw[UH,Ue] at hn;refine Cv is ds a (sd.set i (some (.val d))) hn.2 (by rw[UG,hl]) λj x q=>?_;have ne:i≠j:=λz=>by
   subst z;have:=hn.1;unfold Um at this;rw[q] at this;exact JC this
  rw[Qn ne];exact h j x q
def Cw (a:Ux sd0 tg=true)(h:JO tg d sd0=.ok sd):sd0.length=sd.length/\∀(i:Nat) x,sd0[i]? = some (some x)->sd[i]? = some (some x):=by
 cases tg with
 |one i =>
  cases h;have:=Cv [i] [d] sd0 sd0 (by rwa [UH,List.all_nil,Bool.and_true]) rfl λ_ _ q=>q;exact⟨this.1.symm,this.2⟩
 |tup is =>
  cases d with
  |tup ds =>
   have b:JO (.tup is) (.tup ds) sd0=if ds.length=is.length then .ok (setAll is ds sd0) else .no:=rfl
   rw[b] at h
   split at h
   .cases h;have:=Cv is ds sd0 sd0 a rfl λ_ _ q=>q;exact⟨this.1.symm,this.2⟩
   .cases h
  |_=>cases h
def FC {α β: Type}{f:α -> Res β}{a:List α}{x:α}{p:List β -> Prop}(l:a[i]? = some x)(h:(ya f (a.drop i)).need p q):(f x).need (λy=>(ya f (a.drop (i+1))).need (λys=>p (y::ys)) q) q:=by
 have b:i<a.length:=();rw[Uu b] at h;have e:a[i]=x:=by simp_all
 rw[e] at h;exact(ja h).mono (λy c=>((ja c).mono (λys j=>j) λ_ _ z=>z)) λ_ _ z=>z
def A0 {K:W.Frag}{t:Tg}{C:FA}{f:FE}{cap:List (Option Nat)}{Z: St}{H:Hp}{Q:VK}(o:vk K E (Qr cap C t f) Z H Q):Xe cap (fU K E C) (gT t K) (tD K E f) Z H Q:=by
 obtain⟨B,F,sd,r,n⟩:=o;refine⟨B,F,sd,r,(ja n).mono (λds p J G L l wk=>?_) λ_ _ q=>q⟩
 split at p
 .rename_i o;obtain⟨M,hz⟩:=o;refine⟨λi k ys Z b=>k=ds.length-i/\i<=ds.length/\∃a es,Ext G L a b/\RS K B a b (jY cap sd) Z /\ jd K a es ys/\es.length=i /\
   (ya (λx=>(JO t x (jY cap sd)).bind f) (ds.drop i)).need (λrs=>xL K a b Q (.lst (es++rs))) (XW K E a b),⟨ds.length,rfl,Ua _,G,[],.refl l.fh,(r.step l).cap cap,.nil,rfl,?_⟩,?_⟩
  .exact(ja p).mono (λrs q=>(q).ext l) λ_ _ q=>q.ext l
  rintro i k ys Z2 b ⟨rfl,hi,a,es,s,u,w,hl,z⟩;have ly:=w.length;refine⟨(),?_⟩;obtain⟨N,O⟩:=wk i a b s.ff s.fh;by_cases h:i<ds.length
  .obtain⟨go,P⟩:=N h;refine .inr ⟨go,λx R y=>?_⟩;obtain⟨d,S,T,c,U⟩:=P x R y;have Y:=FC T z;have r3:=u.step c;refine Y2 r3 U (ja Y) λsd' Z' n4 hb I=>?_;obtain⟨b1,b2⟩:=Cw M hb;refine⟨B,S,sd',I,n4.mono (λy n5 v F4 H4 j i4=>⟨ds.length-(i+1),(),rfl,h,F4,es++[y],(s.trans c).trans j,(I.step j).forget b1 b2,(jd.same (c.ff.trans j.ff) _ _ w).snoc i4,(),n5.mono (λrs q=>?_) λ_ _ q=>q.ext (c.trans j)⟩) λ_ _ q=>q.ext c⟩;rw[Uh];exact q.ext (c.trans j)
  .have he:i=ds.length:=()
   subst he;refine .inl ⟨O (Zf _),λD A=>?_⟩;rw[Vb] at z;have q:xL K a b Q (.lst (es++[])):=z;rw[ZB] at q;exact q D a _ (.keep u.ext.fh A _) A (Qj u.ext.fh A) ⟨ys,JL,w⟩
 .exact p.elim
def KI (N)(cap)(i:X.calm=true)(a:QJ scope X.env N X.N cap=true)(j:QI X E tg iter fi)
 (l:∀b C s H c,QG (JJ X scope N b C s H c) tg t) (n:∀b C s H c,QE (JJ X scope N b C s H c) E elt f) (hs:∀x,foldedSetIterable iter X.env x=pure x:=by intro _;rfl):
 QN X E (.ListComp elt [⟨tg,iter,[],0⟩] scope pos) (Qr cap fi t f):=PE.weak (NL N cap i a j l n hs) λ_ _ _ h=>A0 h
def Qf (n:Nat)(ds:YG):SD:=ds.map (λd=>some (.val d))++List.replicate (n-ds.length) none
def jE (n ar:Nat)(g:FS)(ds:YG):Res D:=if ds.length=ar then(g (Qf n ds)).bind λo=>match o with
 | .ret d=>.ok d
 | .next _=>.ok .non
 |_=>.no else .no
def qc (n ar:Nat)(g:FS)(ds:YG):Res D:=if ds.length=ar then(g (Qf n ds)).bind λo=>match o with
 | .ret d=>.ok d
 |_=>.no else .no
theorem RS.start {K:W.Frag}{F H:Hp}{N:Yk}{ds:YG}{c:YE}(s:jk F H)(h:jd K F ds c):RS K ⟨F,H,λ_=>none⟩ F H (Qf N.length ds) (start N c):=by
 have a:∀{i:Nat} {x:SV},(Qf N.length ds)[i]? = some (some x)->∃d,ds[i]? = some d/\x=.val d:=λ{i x} q=>by
  unfold Qf at q;by_cases f:i<ds.length
  .rw[UO (by rwa [Zql]),Zv,Zqg f] at q;exact⟨ds[i],Zqg f,(Zqi (Zqi q)).symm⟩
  .rw[US (by rw[Zql];lia),Vt] at q
   split at q<;>(first|exact J5 q|cases q)
 refine⟨.refl s,by unfold Qf L2.start;simp[h.length],λ{i d} q=>?_,λ{i p d} q=>?_,λ{i j p t d e l} _ q=>?_⟩
 .obtain⟨u,o,b⟩:=a q;cases b;obtain⟨v,n,r⟩:=h.get o;refine⟨v,?_,r⟩;unfold L2.start;rw[UO (by rw[Zql];exact(Jc.mp n).1),Zv,n];rfl
 .obtain⟨_,_,b⟩:=a q;cases b
 .obtain⟨_,_,b⟩:=a q;cases b
section
variable {P:Program}{w:World}{K:W.Frag}{mg:Ye}{base:Heap}{x qual:Str}{f:Addr}{fd:FuncData}{N ps:Yk}{k:Nat}
def qy (F:Fun K x qual st f fd)(S:FnScope N ps (JU st))
 (i:∀b A a s H E,Room k (A.deeper (envOfC qual (JU st) s.heap.objs.size f b))->zq (jX yj P w K mg base N qual (JU st) f b A a s H E).nox E0 false (QQ st) g):
 FnOk P w K mg base yj (k+1) f fd ps (qH K (jE N.length ps.length g)):=by
 refine F.ok S (λj H Q E ⟨F,ds,_,h,n⟩=>?_) λb A a s H j Q E l ⟨F,ds,hs,h,n⟩=>⟨_,i b A a s H E l,?_⟩
 .unfold jE at n
  split at n
  .rw[h.length];lia
  .exact n.elim
 .unfold jE at n
  split at n
  .refine⟨⟨F,H,λ_=>none⟩,F,_,RS.start hs h,(ja n).mono (λo c=>?_) λ_ _ q=>q⟩;cases o with
   |next sd=>exact λZ p t _ r=>c .non p t r.ext (jD.mpr rfl)
   |ret d=>exact c
   |brk sd=>exact c.elim
   |cont sd=>exact c.elim
  .exact n.elim
def yt (F:Fun K x qual st f fd)(S:FnScope N ps (JU st))
 (i:∀b A a s H E,Room k (A.deeper (envOfC qual (JU st) s.heap.objs.size f b))->zq (jX yj P w K mg base N qual (JU st) f b A a s H E).nox E0 true (QQ st) g):
 FnOk P w K mg base yj (k+1) f fd ps (zb K (qc N.length ps.length g)):=by
 refine F.ok S (λj H Q E ⟨F,ds,_,h,n⟩=>?_) λb A a s H j Q E l ⟨F,ds,hs,h,n⟩=>⟨_,i b A a s H E l,?_⟩
 .unfold qc at n
  split at n
  .rw[h.length];lia
  .exact n.elim
 .unfold qc at n
  split at n
  .refine⟨⟨F,H,λ_=>none⟩,F,_,RS.start hs h,(ja n).mono (λo c=>?_) λ_ _ q=>q⟩;cases o with
   |next sd=>exact c.elim
   |ret d=>exact c
   |brk sd=>exact c.elim
   |cont sd=>exact c.elim
  .exact n.elim
end
end
def qd (p:Int×Int):D:=.tup [.int p.1,.int p.2]
def jq (r:Jy):D:=.tup (r.map qd)
def A1:D->Option (Int×Int)
 | .tup [.int i,.int j]=>some (i,j)
 |_=>none
def Q3 {α: Type}(f:D->Option α):YG->Option (List α)
 | []=>some []
 |d::ds=>(f d).bind λx=>(Q3 f ds).map λa=>x::a
def Kv:D->Option Jy
 | .tup ds=>Q3 A1 ds
 |_=>none
def Y3:D->Option Int
 | .int i=>some i
 |_=>none
theorem Y4 {α β: Type}{f:D->Option α}{g:β -> D}{k:β -> α}(h:∀x,f (g x)=some (k x)):∀l:List β,Q3 f (l.map g)=some (l.map k)
 | []=>rfl
 |x::r=>by rw[Zl];unfold Q3;rw[h,Y4 h r];rfl
theorem Y5 {α: Type}{f:D->Option α}{g:α -> D}(h:∀d x,f d=some x->d=g x):∀{ds:YG} {l:List α},Q3 f ds=some l->ds=l.map g
 | [],l,e=>by cases e;rfl
 |d::ds,l,e=>by
  unfold Q3 at e;cases a:f d with
  |none=>simp_all
  |some x =>
   cases b:Q3 f ds with
   |none=>simp_all
   |some c =>
    rw[a,b] at e;obtain rfl:=Zqi e;rw[Zl,<- h d x a,<- Y5 h b]
def OM (p):A1 (qd p)=some p:=rfl
def ON (h:A1 d=some p):d=qd p:=by
 cases d with
 |tup ds =>
  cases ds with
  |nil=>exact J5 h
  |cons x ds =>
   cases x with
   |int i =>
    cases ds with
    |nil=>exact J5 h
    |cons y ds =>
     cases y with
     |int j =>
      cases ds with
      |nil=>obtain rfl:=Zqi h;rfl
      |cons _ _=>exact J5 h
     |_=>exact J5 h
   |_=>exact J5 h
 |_=>exact J5 h
def FD (r):Kv (jq r)=some r:=by
 show Q3 A1 (r.map qd)=some r;rw[Y4 (k:=id) OM,List.map_id]
def FF (h:Kv d=some r):d=jq r:=by
 cases d with
 |tup ds=>unfold jq;rw[<- Y5 (λ_ _=>ON) (h)]
 |_=>exact J5 h
def OO (h:Y3 d=some i):d=.int i:=by
 cases d with
 |int j=>cases h;rfl
 |_=>exact J5 h
def OP (h:Q3 Y3 ds=some l):ds=l.map D.int:=Y5 (λ_ _=>OO) h
def OQ (l):Q3 Y3 (l.map D.int)=some l:=by
 rw[(Y4 (f:=Y3) (λ_=>rfl) l),List.map_id']
def Cy (l):Q3 Kv (l.map jq)=some l:=by rw[Y4 (k:=id) FD,List.map_id]
def Cz (h:Q3 Kv ds=some l):ds=l.map jq:=Y5 (λ_ _=>FF) h
section
variable {K:W.Frag}{H:Hp}
def rq:jg K H (qd p) v↔Is H (pD p) v:=by
 rfl
theorem vI:∀{r:Jy} {a:YE},jd K H (r.map qd) a↔qm H (r.map pD) a
 | [],a=>by rfl
 |p::r,a=>by
  constructor
  .rintro⟨x,w,rfl,b,c⟩;exact⟨x,w,rfl,rq.mp b,vI.mp c⟩
  .intro h;obtain⟨x,w,e,b,c⟩:=h;exact⟨x,w,e,rq.mpr b,vI.mpr c⟩
def bP:jg K H (jq r) v↔Is H (rD r) v:=by
 constructor
 .rintro⟨a,b,e,c,f⟩;exact⟨a,b,e,c,vI.mp f⟩
 .rintro⟨a,b,e,c,f⟩;exact⟨a,b,e,c,vI.mpr f⟩
theorem zY:∀{r:Jz} {a:YE},jd K H (r.map jq) a↔qm H (r.map rD) a
 | [],a=>by rfl
 |p::r,a=>by
  constructor
  .rintro⟨x,w,rfl,b,c⟩;exact⟨x,w,rfl,bP.mp b,zY.mp c⟩
  .intro h;obtain⟨x,w,e,b,c⟩:=h;exact⟨x,w,e,bP.mpr b,zY.mpr c⟩
end
section
variable {X:Cx}{E:XK}
def gI (f:Int->Int->D):D->D->YH
 | .int i,.int j=>some (f i j)
 |_,_=>none
def gh (c:Int->Int->Bool)(f:Int->Int->D):D->D->YH
 | .int i,.int j=>if c i j then some (f i j) else none
 |_,_=>none
def A3 (o:qY X h (wX g))(a:∀i j F,jg X.K F (f i j) (g i j)):yL X h (gI f):=qY.weak o λx y H Q b=>by
 obtain⟨F,d,e,z,c,id,l,hz,q⟩:=b;cases d with
 |int i =>
  cases e with
  |int j=>cases hz;exact⟨i,j,je.mp id,je.mp l,q _ F H (.refl c) (a i j F)⟩
  |_=>exact J5 hz
 |_=>exact J5 hz
def A4 (o:qY X h (rI C g))(b:∀i j,c i j=true->C i j)(l:∀i j F,jg X.K F (f i j) (g i j)):yL X h (gh c f):=qY.weak o λx y H Q m=>by
 obtain⟨F,d,e,z,n,id,p,hz,q⟩:=m;cases d with
 |int i =>
  cases e with
  |int j =>
   have hz:(if c i j then some (f i j) else none)=some z:=hz
   split at hz
   .rename_i a;cases hz;exact⟨i,j,je.mp id,je.mp p,b i j a,q _ F H (.refl n) (l i j F)⟩
   simp_all
  |_=>exact J5 hz
 |_=>exact J5 hz
def yK (i)(F):jg X.K F (.int i) (.int i):=je.mpr rfl
def zH (b)(F):jg X.K F (.bl b) (.bl b):=jn.mpr rfl
def yb:=gI λi j=>.int (i-j)
def yF:Nat:=10715086071862673209484250490600018105614048117055336074437503883703510511249361224931983788156958581275946729175531468251871452856923140435984577574698574803934567774824230985421074605062371141877954182153046474983581941267398767559165543946077062914571196477686542167660429831652624386837205668069376
def Kl (i j:Int):Bool:=(UI i.natAbs 18446744073709551616||UI j.natAbs 18446744073709551616)||(UI i.natAbs yF&&UI j.natAbs yF)
def FG (h:k.natAbs<yF):Builtin.Int.intBits k<=2 ^ 20:=by
 have e:yF<=2 ^ 1000:=Nat.le_of_ble_eq_true rfl;have a:k.natAbs<2 ^ 1000:=()
 unfold Builtin.Int.intBits
 split
 .exact Ua _
 .have l:k.natAbs.log2<1000:=by
   rcases Vn k.natAbs with h0|hp
   .simp_all
   .exact(Nat.log2_lt (U7 hp)).mpr a
  lia
def OR (h:Kl i j=true):IntMulOk i j:=by
 unfold Kl at h;rw[U8,U8,Ue,UJ,UJ,UJ,UJ] at h;rcases h with (h|h)|⟨h1,h2⟩
 .exact .of_left (intBits_le_64 () ())
 .exact .of_right (intBits_le_64 () ())
 .exact .of_bits (FG h1) (FG h2)
def OS:qY X (binaryOp .Mult) (rI (λi j=>Kl i j=true) λi j=>.int (i*j)):=hB λ_ _ _ _ _ _ _ a q=>mul_int q (OR a)
def qD:=gh Kl λi j=>.int (i*j)
def Qk:=gh (λ_ j=>UI 0 j.toNat&&UI j.toNat 1073741824) λi j=>.int (i / j)
def jF:=gh (λ_ j=>UI 0 j.toNat) λi j=>.int (i % j)
def qT:=gh (λi j=>Nat.ble (-j).toNat 0&&(Nat.ble j.toNat 1000000&&UI i.natAbs 18446744073709551616)) λi j=>.int (i ^ j.toNat)
def hO:=gI λi j=>.bl (decide (i<j))
def wb:=gI λi j=>.bl (decide (i<=j))
def vF:=gI λi j=>.bl (decide (j<i))
def Y6:yL X (binaryOp .Sub) yb:=A3 M0 λ_ _ F=>yK _ F
def WI:yL X (binaryOp .Mult) qD:=A4 OS (λi j h=>h) λ_ _ F=>yK _ F
def QU:yL X (binaryOp .FloorDiv) Qk:=A4 M3 (λi j h=>by simp_all [fP]) λ_ _ F=>yK _ F
def Qg:yL X (binaryOp .Mod) jF:=A4 M4 () λ_ _ F=>yK _ F
def Wj:yL X (binaryOp .Pow) qT:=A4 M5 (λi j h=>by simp_all [fO]) λ_ _ F=>yK _ F
def mJ:yL X (compareOp .Lt) hO:=A3 kc λ_ _ F=>zH _ F
def vr:yL X (compareOp .LtE) wb:=A3 ke λ_ _ F=>zH _ F
def vt:yL X (compareOp .Gt) vF:=A3 kf λ_ _ F=>zH _ F
def xy:D->YH
 | .int i=>some (.int (-i))
 |_=>none
def WJ:wF X (unaryOp .USub) (mE X.K xy):=wF.weak M6 λx H Q a=>by
 obtain⟨F,d,z,b,id,hz,q⟩:=a;cases d with
 |int i=>cases hz;exact⟨i,je.mp id,q _ F H (.refl b) (yK _ F)⟩
 |_=>exact J5 hz
def ju:D->D->YH
 | .int i,.int j=>some (.int (i+j))
 | .str x,.str y=>if x.length+y.length<=sizeLine then some (.str (x++y)) else none
 | .tup a,.tup b=>if a ≠ []/\b ≠ []/\a.length+b.length<=sizeLine then some (.tup (a++b)) else none
 | .lst a,.lst b=>if a.length+b.length<=sizeLine then some (.lst (a++b)) else none
 |_,_=>none
def uE (K:W.Frag):R2:=λx y H Q=>∃l b a c,x=.ref l/\y=.ref b/\xj K H l a/\xj K H b c/\a.length+c.length<=sizeLine/\∀p,H p=none->Q (.ref p) (upd H p (.lst (a++c)))
def FH:qY X (binaryOp .Add) (uE X.K):=by
 intro Y s Z H x y v u Q I f g h;obtain⟨l,b,w,z,rfl,rfl,i,j,hz,q⟩:=h;obtain rfl:=f;obtain rfl:=g;obtain⟨_,its,n,c,m⟩:=i.ok I.hok;obtain⟨_,a,A,e,o⟩:=j.ok I.hok;have p:=c.length;have r:=e.length;refine PySem.P.add_list m o ?_ ();have t:its.toArray++a.toArray=(its++a).toArray:=by simp
 rw[t];exact⟨.ref _,_,I.lnew (c.append e) (),rfl,q _ I.fresh⟩
def JS:yL X (binaryOp .Add) ju:=by
 intro Y s Z H x y v u Q I m n ⟨F,d,e,z,c,id,o,hz,q⟩;cases d with
 |int i =>
  cases e with
  |int j=>cases hz;exact Mz Y s Z H x y v u Q I m n ⟨i,j,je.mp id,je.mp o,q _ F H (.refl c) (yK _ F)⟩
  |_=>exact J5 hz
 |str a =>
  cases e with
  |str b =>
   have hz:(if a.length+b.length<=sizeLine then some (D.str (a++b)) else none)=some z:=hz
   split at hz
   .rename_i B;cases hz;exact M8 Y s Z H x y v u Q I m n ⟨a,b,jr.mp id,jr.mp o,B,q _ F H (.refl c) (jr.mpr rfl)⟩
   simp_all
  |_=>exact J5 hz
 |tup a =>
  cases e with
  |tup b =>
   have hz:(if a ≠ []/\b ≠ []/\a.length+b.length<=sizeLine then some (D.tup (a++b)) else none)=some z:=hz
   split at hz
   .obtain rfl:=Zqi hz;obtain⟨r,f,rfl,t,g⟩:=id;obtain⟨w,ys,rfl,A,h⟩:=o;have C:=g.length;have G:=h.length;have J:f ≠ []:=by grind
    have K:ys ≠ []:=by grind
    refine Ng Y s Z H _ _ v u Q I m n ⟨r,w,f,ys,rfl,rfl,(t.same c).sq,(A.same c).sq,J,(),λz=>Zn z K,λ_ p hp=>?_⟩;have l:=qj c hp (.tup (f++ys));exact q _ _ _ l (j0.mpr ⟨p,_,rfl,.of JL,jd.same l.ff _ _ (g.append h)⟩)
   simp_all
  |_=>exact J5 hz
 |lst a =>
  cases e with
  |lst b =>
   have hz:(if a.length+b.length<=sizeLine then some (D.lst (a++b)) else none)=some z:=hz
   split at hz
   .obtain rfl:=Zqi hz;obtain⟨r,f,rfl,t,g⟩:=id;obtain⟨w,ys,rfl,A,h⟩:=o;have C:=g.length;have G:=h.length;refine FH Y s Z H _ _ v u Q I m n ⟨r,w,f,ys,rfl,rfl,t.same c,A.same c,(),λp hp=>?_⟩;have l:=qj c hp (.lst (f++ys));exact q _ _ _ l (jm.mpr ⟨p,_,rfl,.of JL,jd.same l.ff _ _ (g.append h)⟩)
   simp_all
  |_=>exact J5 hz
 |_=>exact J5 hz
mutual
def xW:D->PyData
 | .non=>.none
 | .bl b=>.bool b
 | .int i=>.int i
 | .str x=>.str x
 | .tup ds=>.tuple (KJ ds)
 | .lst ds=>.list (KJ ds)
 | .ty _=>.none
 | .scr _=>.none
 | .dct _ _=>.none
 | .ins _ _ _=>.none
 | .exc _=>.none
 | .ucl _=>.none
 | .adr _=>.none
 | .dcf _ _=>.none
 | .pin _ _=>.none
def KJ:YG->List PyData
 | []=>[]
 |d::ds=>xW d::KJ ds
end
def qN:Nat->D->Bool
 | 0,_=>false
 |_+1,.int _=>true
 |_+1,.str x=>PyData.strOk x
 |_+1,.non=>true
 |n+1,.tup ds=>ds.all (qN n)
 |n+1,.lst ds=>ds.all (qN n)
 |_+1,_=>false
def Xp:∀n d,qN n d=true->(xW d).canLay0=true/\(xW d).depth<=n:=λn=>by
 induction n with
 |zero=>intro _ h;exact JC h
 |succ n a =>
  intro d h;have all:∀ds:YG,ds.all (qN n)=true->PyData.canLayAll0 (KJ ds)=true/\PyData.depthAll (KJ ds)<=n:=by
   intro ds
   induction ds with
   |nil=>intro _;exact⟨rfl,Ua _⟩
   |cons d ds b =>
    intro h;rw[UH,Ue] at h;obtain⟨c,e⟩:=a d h.1;obtain⟨f,g⟩:=b h.2;exact⟨Jt.mpr ⟨c,f⟩,Nat.max_le.mpr ⟨e,g⟩⟩
  cases d with
  |int i=>exact⟨rfl,Ua _⟩
  |str i=>exact⟨h,Ua _⟩
  |non=>exact⟨rfl,Ua _⟩
  |tup ds=>exact⟨(all ds h).1,Vy (all ds h).2⟩
  |lst ds=>exact⟨(all ds h).1,Vy (all ds h).2⟩
  |_=>exact JC h
def D.ne {d e:D}(h:(d.ctorIdx == e.ctorIdx)=false):¬d=e:=λq=>by
 simp_all
def C0:∀n d e,qN n d=true->qN n e=true->(PyData.eqv (xW d) (xW e)=true↔d=e):=λn=>by
 induction n with
 |zero=>intro _ _ h;exact JC h
 |succ n a =>
  intro d e h h';have all:∀ds es:YG,ds.all (qN n)=true->es.all (qN n)=true->(PyData.eqvAll (KJ ds) (KJ es)=true↔ds=es):=by
   intro ds
   induction ds with
   |nil =>
    intro es _ _;cases es with
    |nil=>exact iff_of_true rfl rfl
    |cons e es=>exact Zs Zj ()
   |cons d ds b =>
    intro es c f;cases es with
    |nil=>exact Zs Zj ()
    |cons e es =>
     show(PyData.eqv (xW d) (xW e)&&PyData.eqvAll (KJ ds) (KJ es))=true↔_
     simp_all
  cases d with
  |int i =>
   cases e with
   |int j=>exact⟨λq=>Zt D.int (Ys.mp q),λq=>Ys.mpr (D.int.inj q)⟩
   |str _=>exact Zs Zj (D.ne rfl)
   |non=>exact Zs Zj (D.ne rfl)
   |tup _=>exact Zs Zj (D.ne rfl)
   |lst _=>exact Zs Zj (D.ne rfl)
   |_=>exact JC h'
  |str i =>
   cases e with
   |str j=>exact⟨λq=>Zt D.str (of_decide_eq_true q),λq=>Zp (D.str.inj q)⟩
   |int _=>exact Zs Zj (D.ne rfl)
   |non=>exact Zs Zj (D.ne rfl)
   |tup _=>exact Zs Zj (D.ne rfl)
   |lst _=>exact Zs Zj (D.ne rfl)
   |_=>exact JC h'
  |non =>
   cases e with
   |non=>exact iff_of_true rfl rfl
   |int _=>exact Zs Zj (D.ne rfl)
   |str _=>exact Zs Zj (D.ne rfl)
   |tup _=>exact Zs Zj (D.ne rfl)
   |lst _=>exact Zs Zj (D.ne rfl)
   |_=>exact JC h'
  |tup ds =>
   cases e with
   |tup es=>exact(all ds es h h').trans ()
   |int _=>exact Zs Zj (D.ne rfl)
   |str _=>exact Zs Zj (D.ne rfl)
   |non=>exact Zs Zj (D.ne rfl)
   |lst _=>exact Zs Zj (D.ne rfl)
   |_=>exact JC h'
  |lst ds =>
   cases e with
   |lst es=>exact(all ds es h h').trans ()
   |int _=>exact Zs Zj (D.ne rfl)
   |str _=>exact Zs Zj (D.ne rfl)
   |non=>exact Zs Zj (D.ne rfl)
   |tup _=>exact Zs Zj (D.ne rfl)
   |_=>exact JC h'
  |_=>exact JC h
theorem WK {P:Program}{w:World}{K:W.Frag}{H:Hp}{h:Heap}(ok:qL P w H h):∀n d v u,qN n d=true->jg K H d v->js v u->∃g,Reads h u (xW d) g
 | 0,_,_,_,p,_,_=>JC p
 |n+1,d,v,u,p,q,r=>by
  have all:∀ds b l,ds.all (qN n)=true->jd K H ds b->jv b l->∃g,ReadsAll h l (KJ ds) g:=by
   intro ds
   induction ds with
   |nil =>
    intro b l _ m f;subst m;cases f;exact⟨_,.nil⟩
   |cons d ds z =>
    intro b l hp m f;rw[UH,Ue] at hp;obtain⟨x,rs,rfl,j,A⟩:=m;cases f with
    |cons B C =>
     obtain⟨g,s⟩:=WK ok n d x _ hp.1 j B;obtain⟨bs,F⟩:=z rs _ hp.2 A C;exact⟨_,.cons s F⟩
  cases d with
  |int i =>
   subst q;obtain⟨t,rfl⟩:=(r);exact⟨_,.int i t⟩
  |str x =>
   subst q;obtain⟨t,rfl⟩:=(r);exact⟨_,.str x t⟩
  |non =>
   subst q;obtain rfl:=r;exact⟨_,.none⟩
  |tup ds =>
   obtain⟨a,b,rfl,f,j⟩:=q;obtain rfl:=r;obtain⟨_,its,y,o,e,c,G,I⟩:=(ok a _ f);obtain⟨g,s⟩:=all ds b its p j y;exact⟨_,.tuple e c I ()⟩
  |lst ds =>
   obtain⟨a,b,rfl,f,j⟩:=q;obtain rfl:=r;obtain⟨_,its,G,y,e⟩:=f.ok ok;obtain⟨g,s⟩:=all ds b its p j y;exact⟨_,.list e rfl rfl ()⟩
  |_=>exact JC p
section
open Classical
def Q0 (d e:D):Bool:=decide (d=e)
def C1 (d):Q0 d d=true:=Zp rfl
def bU:Q0 d e=true↔d=e:=decide_eq_true_iff
def bT:Q0 d e=false↔d≠e:=decide_eq_false_iff_not
def xK:D->D->YH
 | .bl a,.bl b=>some (.bl (a == b))
 |d,e=>if qN 12 d&&qN 12 e then some (.bl (Q0 d e)) else none
def zj:D->D->YH
 | .bl a,.bl b=>some (.bl (a != b))
 |d,e=>if qN 12 d&&qN 12 e then some (.bl (!Q0 d e)) else none
end
def FI (a:qN 12 d=true)(b:qN 12 e=true):xK d e=some (.bl (Q0 d e)):=by
 unfold xK
 split
 .exact JC a
 simp_all
def OT (a:qN 12 d=true)(b:qN 12 e=true):zj d e=some (.bl (!Q0 d e)):=by
 unfold zj
 split
 .exact JC a
 simp_all
def OU (i j):xK (.int i) (.int j)=some (.bl (decide (i=j))):=by
 rw[FI rfl rfl];by_cases h:i=j
 .simp_all [C1]
 .rw[Zo h,bT.mpr ()]
def OV (i j):zj (.int i) (.int j)=some (.bl (!decide (i=j))):=by
 rw[OT rfl rfl];by_cases h:i=j
 .simp_all [C1]
 .rw[Zo h,bT.mpr ()]
def xG (n:X.A.units+64<cLine):yL X (compareOp .Eq) xK:=by
 intro Y s Z H x y v u Q I g h ⟨F,d,e,z,c,id,f,hz,q⟩;unfold xK at hz
 split at hz
 .rename_i a b;obtain rfl:=Zqi hz;refine kg Y s Z H x y v u Q I g h ⟨?_,?_⟩
  .rw[jn.mp id,jn.mp f];rfl
  .rw[jn.mp id,jn.mp f];refine q _ F H (.refl c) ?_;cases a<;>cases b<;>rfl
 .split at hz
  .rename_i hp;rw[Ue] at hp;obtain rfl:=Zqi hz;obtain⟨o,i⟩:=WK I.hok 12 d x v hp.1 (jg.same c _ _ id) g;obtain⟨bs,j⟩:=WK I.hok 12 e y u hp.2 (jg.same c _ _ f) h;have ⟨l,p⟩:=Xp 12 d hp.1;have ⟨m,r⟩:=Xp 12 e hp.2;refine PySem.SeqAt.compareEq_reads i j l m () ?_;rw[(Vg.mpr ((C0 12 d e hp.1 hp.2).trans bU.symm))];exact⟨.bl _,H,I,rfl,q _ F H (.refl c) (zH _ F)⟩
  simp_all
def ww (n:X.A.units+64<cLine):yL X (compareOp .NotEq) zj:=by
 intro Y s Z H x y v u Q I g h ⟨F,d,e,z,c,id,f,hz,q⟩;unfold zj at hz
 split at hz
 .rename_i a b;obtain rfl:=Zqi hz;refine kb Y s Z H x y v u Q I g h ⟨?_,?_⟩
  .rw[jn.mp id,jn.mp f];rfl
  .rw[jn.mp id,jn.mp f];refine q _ F H (.refl c) ?_;cases a<;>cases b<;>rfl
 .split at hz
  .rename_i hp;rw[Ue] at hp;obtain rfl:=Zqi hz;obtain⟨o,i⟩:=WK I.hok 12 d x v hp.1 (jg.same c _ _ id) g;obtain⟨bs,j⟩:=WK I.hok 12 e y u hp.2 (jg.same c _ _ f) h;have ⟨l,p⟩:=Xp 12 d hp.1;have ⟨m,r⟩:=Xp 12 e hp.2;refine PySem.SeqAt.compareNe_reads i j l m () ?_;rw[(Vg.mpr ((C0 12 d e hp.1 hp.2).trans bU.symm))];exact⟨.bl _,H,I,rfl,q _ F H (.refl c) (zH _ F)⟩
  simp_all
end
def PE.or (h:PE X e t)(h':PE X e t'):PE X e (λZ H Q=>t Z H Q\/t' Z H Q):=λY s Z H Q I q=>q.elim (h Y s Z H Q I) (h' Y s Z H Q I)
def PT.or (h:PT X e t)(h':PT X e t'):PT X e (λZ H Q=>t Z H Q\/t' Z H Q):=λY s Z H Q I q=>q.elim (h Y s Z H Q I) (h' Y s Z H Q I)
def QC:D->Option jA
 | .int i=>some (.inl i)
 | .str x=>some (.inr x)
 |_=>none
def WL {K:W.Frag}{H:Hp}{d:D}{k:jA}{v:V}(h:QC d=some k)(i:jg K H d v):v=kV k:=by
 cases d with
 |int j=>cases h;exact je.mp i
 |str x=>cases h;exact jr.mp i
 |_=>exact J5 h
def jG:List jA->YG->jA->YH
 |k::ks,d::ds,q=>if k=q then some d else jG ks ds q
 |_,_,_=>none
theorem OW (k q:jA)(v)(r):qu ((k,v)::r) q=if k=q then some v else qu r q:=by
 grind[qu,List.find?_cons]
theorem C4:jG (k::ks) (d::ds) q=if k=q then some d else jG ks ds q:=rfl
theorem Xq {K:W.Frag}{H:Hp}(q):∀{ks:List jA} {ds:YG} {a:YE},ks.length=a.length->jd K H ds a ->
 (∀d,jG ks ds q=some d->∃x,qu (ks.zip a) q=some x/\jg K H d x)/\(jG ks ds q=none->qu (ks.zip a) q=none)
 | [],ds,a,hl,h=>by
  refine⟨λd e=>?_,λ_=>rfl⟩;cases ds<;>exact J5 e
 |k::ks,[],a,hl,h=>by
  simp_all [jd.nil_iff]
 |k::ks,d::ds,a,hl,h=>by
  obtain⟨x,r,rfl,c,b⟩:=h;have f:=Xq q (UN hl) b
  grind[List.zip_cons_cons,OW,C4]
def zl:List jA->YG->jA->D->YG
 |k::ks,d::ds,q,v=>(if k=q then v else d)::zl ks ds q v
 |_,_,_,_=>[]
def zk:List jA->YE->jA->V->YE
 |k::ks,d::ds,q,v=>(if k=q then v else d)::zk ks ds q v
 |_,_,_,_=>[]
def FJ:zl (k::ks) (d::ds) q v=(if k=q then v else d)::zl ks ds q v:=rfl
def OX:zk (k::ks) (d::ds) q v=(if k=q then v else d)::zk ks ds q v:=rfl
theorem FK {K:W.Frag}{H:Hp}{q:jA}{d:D}{v:V}(e:jg K H d v):∀{ks:List jA} {ds:YG} {a:YE},ks.length=a.length->jd K H ds a->jd K H (zl ks ds q d) (zk ks a q v)/\(zk ks a q v).length=ks.length /\
 (ks.zip a).map (λc=>if c.1=q then(c.1,v) else c)=ks.zip (zk ks a q v)
 | [],ds,a,hl,h=>by
  refine⟨?_,rfl,rfl⟩;rfl
 |k::ks,[],a,hl,h=>by
  simp_all [jd.nil_iff]
 |k::ks,d'::ds,a,hl,h=>by
  obtain⟨x,r,rfl,j,f⟩:=h;obtain⟨g,i,l⟩:=FK e (UN hl) f;rw[FJ,OX];refine⟨jd.mk ?_ g,by rw[Zu,i];rfl,?_⟩
  .by_cases b:k=q
   .rwa [Zd b,Zd b]
   .rwa [Ze b,Ze b]
  grind[List.zip_cons_cons,List.map_cons]
def yC (q:jA)(ks:List jA):Bool:=ks.any λk=>decide (k=q)
theorem FL (q):∀{ks:List jA} {a:YE},ks.length=a.length->((ks.zip a).any λb=>decide (b.1=q))=yC q ks
 | [],a,_=>rfl
 |k::ks,[],h=>by cases h
 |k::ks,x::a,h=>by
  rw[Vu,List.any_cons,FL q (UN h)];rfl
def V0 (ks:List jA)(q:jA):List jA:=if yC q ks=true then ks else ks++[q]
def Wl (ks:List jA)(ds:YG)(q:jA)(v:D):YG:=if yC q ks=true then zl ks ds q v else ds++[v]
def FM {K:W.Frag}{H:Hp}{q:jA}{d:D}{v:V}{ks:List jA}{ds:YG}{b:YE}(c:ks.length=b.length)(h:jd K H ds b)(e:jg K H d v):
 ∃ys,qw (ks.zip b) q v=(V0 ks q).zip ys/\(V0 ks q).length=ys.length/\jd K H (Wl ks ds q d) ys:=by
 unfold qw V0 Wl;rw[FL q c];by_cases a:yC q ks=true
 .rw[Zd a,Zd a,Zd a];obtain⟨f,g,i⟩:=FK e c h;exact⟨_,i,g.symm,f⟩
 .rw[Ze a,Ze a,Ze a];exact⟨b++[v],by rw[List.zip_append c];rfl,by simp[c],h.snoc e⟩
section
variable {X:Cx}{E:XK}{m:Option Bool}{a b o i e:Expr}{fa fb fo fi fv:FE}{pos pos' apos cpos:Pos}
def C5 {K:W.Frag}{H:Hp}{ds:YG}{c:YE}{k:Int}{d:D}(h:jd K H ds c)(e:qh ds k=some d):∃x,qh c k=some x/\jg K H d x:=by
 unfold qh at e ⊢;rw[h.length];cases f:xJ ds.length k with
 |none=>simp_all
 |some j =>
  rw[f] at e;exact h.get e
def j6:D->D->YH
 | .lst ds,.int k=>qh ds k
 | .tup ds,.int k=>qh ds k
 | .scr ns,.int k=>(qh ns k).map .int
 | .str x,.int k=>if x.length<=sizeLine then(qh x.cps.toList k).map λc=>.str ⟨#[c]⟩ else none
 | .dct ks ds,k=>(QC k).bind λq=>jG ks ds q
 | .dcf ks ds,k=>(QC k).bind λq=>jG ks ds q
 |_,_=>none
def FN {K:W.Frag}{H:Hp}{d:D}{ks:List jA}{ds:YG}{v:V}(l:d=.dct ks ds\/d=.dcf ks ds)(h:jg K H d v):∃a c,v=.ref a/\Rd H a (.dK (ks.zip c))/\ks.length=c.length/\jd K H ds c:=by
 rcases l with rfl|rfl
 .obtain⟨a,c,f,g,j⟩:=qa.mp h;exact⟨a,c,f,.inl g,j⟩
 .obtain⟨a,o,c,f,g,j⟩:=qq.mp h;exact⟨a,c,f,.inr ⟨o,g⟩,j⟩
def C6 {H c:Hp}{a:Addr}{u:HO}(e:jk H c)(h:Rd H a u):Rd c a u:=h.imp (λq=>e _ _ q) λ⟨o,q⟩=>⟨o,e _ _ q⟩
def C7 {H:Hp}{a:Addr}{c:List (jA×V)}{k:jA}(e:Rd H a (.dK c)):x6 H a (kV k) (qu c k):=.inl ⟨c,k,e,rfl,rfl⟩
def FP:yN X (wY X.K λd e=>match d with
 | .dct _ _=>none
 | .dcf _ _=>none
 |d=>j6 d e):=yN.weak Ni λx y H Q ⟨F,d,e,z,f,id,h,hz,q⟩=>by
 cases d with
 |lst ds =>
  cases e with
  |int k =>
   obtain⟨p,n,rfl,g,r⟩:=id;obtain⟨x,l,s⟩:=C5 r (hz);exact .inl ⟨p,n,k,x,rfl,je.mp h,(g.same f).sq,l,q _ F H (.refl f) s⟩
  |_=>exact J5 hz
 |tup ds =>
  cases e with
  |int k =>
   obtain⟨p,n,rfl,g,r⟩:=id;obtain⟨x,l,s⟩:=C5 r (hz);exact .inr (.inl ⟨p,n,k,x,rfl,je.mp h,(g.same f).sq,l,q _ F H (.refl f) s⟩)
  |_=>exact J5 hz
 |scr ns =>
  cases e with
  |int k =>
   obtain⟨p,rfl,g⟩:=id;obtain⟨j,v,hz⟩:=Jk.mp (hz);subst hz;refine .inl ⟨p,_,k,.int j,rfl,je.mp h,jk.seq f g,?_,q _ F H (.refl f) (yK _ F)⟩;unfold qh at v ⊢;cases l:xJ ns.length k with
   |none=>simp_all
   |some i=>simp_all
  |_=>exact J5 hz
 |str t =>
  cases e with
  |int k =>
   have hz:(if t.length<=sizeLine then(qh t.cps.toList k).map λc=>D.str ⟨#[c]⟩ else none)=some z:=hz
   split at hz
   .rename_i w;cases u:qh t.cps.toList k with
    |none=>rw[u] at hz;exact J5 hz
    |some c =>
     rw[u] at hz;obtain rfl:=Zqi hz;exact .inr (.inr ⟨t,k,c,jr.mp id,je.mp h,w,u,q _ F H (.refl f) (jr.mpr rfl)⟩)
   simp_all
  |_=>exact J5 hz
 |_=>exact J5 hz
def JK (C:X.A.units+1<cLine)(t:QE X E a fa)(u:QE X E b fb)(hs:ZZ b)(j:zQ b):QE X E (.Subscript a b pos) (jf j6 fa fb):=
 PE.weak (PE.or (BR C t u j) (BL (FP) t u hs)) λZ H Q h=>by
  obtain⟨B,F,sd,r,n⟩:=h;by_cases l:∃d ks ds,fa sd=.ok d/\(d=.dct ks ds\/d=.dcf ks ds)
  .obtain⟨d,ks,ds,l,A⟩:=l;refine .inl ⟨B,F,sd,r,(ja n).monoE (λx f G v I T g J=>?_) λ_ _ q=>q⟩;rw[l] at f;cases f;refine⟨B,I,sd,r.step g,(ja G).mono (λy K w L M s N=>?_) λ_ _ q=>q.ext g⟩;obtain⟨z,hz,q⟩:=jh K;obtain⟨k,O,hz⟩:=Jg.mp (show(QC y).bind (λq=>jG ks ds q)=some z by rcases A with rfl|rfl<;>exact hz);obtain⟨p,U,rfl,P,R,S⟩:=FN A J;obtain⟨x,f,ix⟩:=(Xq k R S).1 z hz;refine⟨p,x,rfl,?_,q x L M (g.trans s) (jg.same s.ff _ _ ix)⟩;rw[WL O N,<- f];exact C7 (C6 s.hh (C6 g.fh P))
  .refine .inr (XZ ⟨B,F,sd,r,?_⟩);unfold jf at n ⊢;cases f:fa sd with
   |ok d =>
    simp_all
   |no=>simp_all
   |ex c fs=>simp_all
def w5 (c:Bool):D->D->YH
 |k,.dct ks ds=>(QC k).map λq=>.bl (if c then !(jG ks ds q).isSome else(jG ks ds q).isSome)
 |k,.dcf ks ds=>(QC k).map λq=>.bl (if c then !(jG ks ds q).isSome else(jG ks ds q).isSome)
 |d,.lst ds=>if qN 12 d&&ds.all (qN 12) then some (.bl (if c then !ds.any (λe=>Q0 e d) else ds.any λe=>Q0 e d)) else none
 |d,.tup ds=>if qN 12 d&&ds.all (qN 12) then some (.bl (if c then !ds.any (λe=>Q0 e d) else ds.any λe=>Q0 e d)) else none
 |_,_=>none
theorem FQ {K:W.Frag}{H:Hp}:∀n d e v,qN n d=true->qN n e=true->jg K H d v->jg K H e v->d=e
 | 0,_,_,_,h,_,_,_=>by exact JC h
 |n+1,d,e,v,hd,he,f,c=>by
  have all:∀ds es g,ds.all (qN n)=true->es.all (qN n)=true->jd K H ds g->jd K H es g->ds=es:=by
   intro ds
   induction ds with
   |nil =>
    intro es g _ _ f c;rw[jd.nil_iff] at f;subst f;have:=c.length
    grind
   |cons d ds A =>
    intro es g w y f c;rw[UH,Ue] at w;rw[jp] at f;obtain⟨x,r,rfl,B,C⟩:=f;cases es with
    |nil=>rw[jd.nil_iff] at c;cases c
    |cons e es =>
     rw[UH,Ue] at y;rw[jp] at c;obtain⟨J,L,t,F,G⟩:=c;cases t;rw[FQ n d e x w.1 y.1 B F,A es r w.2 y.2 C G]
  have ne:∀{a:Addr} {g ys:YE},yg K H a g->xj K H a ys->False:=λ{a g ys} p l=>by
   rcases l with l|⟨o,l⟩
   .rw[p] at l;cases l
   .rw[p] at l;cases l
  cases d with
  |int i =>
   rw[je] at f;subst f;cases e with
   |int j=>rw[je] at c;cases c;rfl
   |str j=>rw[jr] at c;cases c
   |non=>rw[jD] at c;cases c
   |tup es=>grind[j0]
   |lst es=>grind[jm]
   |_=>exact JC he
  |str i =>
   rw[jr] at f;subst f;cases e with
   |int j=>rw[je] at c;cases c
   |str j=>rw[jr] at c;cases c;rfl
   |non=>rw[jD] at c;cases c
   |tup es=>simp_all [j0]
   |lst es=>simp_all [jm]
   |_=>exact JC he
  |non =>
   rw[jD] at f;subst f;cases e with
   |int j=>rw[je] at c;cases c
   |str j=>rw[jr] at c;cases c
   |non=>rfl
   |tup es=>grind[j0]
   |lst es=>grind[jm]
   |_=>exact JC he
  |tup ds =>
   rw[j0] at f;obtain⟨a,g,rfl,p,l⟩:=f;cases e with
   |int j=>rw[je] at c;cases c
   |str j=>simp_all [jr]
   |non=>simp_all [jD]
   |tup es =>
    rw[j0] at c;obtain⟨I,q,t,s,z⟩:=c;cases t;have u:H a=some (.tup g):=p;rw[show H a=some (.tup q) from s] at u;cases u;rw[all ds es _ hd he l z]
   |lst es =>
    grind[jm]
   |_=>exact JC he
  |lst ds =>
   rw[jm] at f;obtain⟨a,g,rfl,p,l⟩:=f;cases e with
   |int j=>rw[je] at c;cases c
   |str j=>cases c
   |non=>cases c
   |tup es =>
    grind[j0]
   |lst es =>
    rw[jm] at c;obtain⟨I,q,t,s,z⟩:=c;cases t;have:g=q:=by
     rcases p with p|⟨_,p⟩<;>rcases s with s|⟨_,s⟩<;>rw[p] at s<;>cases s<;>rfl
    subst this;rw[all ds es _ hd he l z]
   |_=>exact JC he
  |_=>exact JC hd
def fD (K:W.Frag)(H:Hp)(d:D)(u:Value):Prop:=∃v,js v u/\jg K H d v
def xz (K:W.Frag)(H:Hp)(d:D)(u:Value):Bool:=@decide (fD K H d u) (Classical.propDecidable _)
def OY {K:W.Frag}{H:Hp}{d e:D}{v:V}{u:Value}(c:qN 12 d=true)(f:qN 12 e=true)(h:jg K H e v)(r:js v u):xz K H d u=Q0 e d:=by
 by_cases q:e=d
 .rw[q,C1];exact @decide_eq_true _ (Classical.propDecidable _) ⟨v,r,q ▸ h⟩
 .rw[bT.mpr q];refine @decide_eq_false _ (Classical.propDecidable _) λ⟨j,g,h'⟩=>q ?_;rw[g.inj r] at h';exact FQ 12 e d v f c h h'
def FR {P:Program}{w:World}{K:W.Frag}{A:Around}{s:Shared}{H:Hp}(B:A.units+60<cLine)(ok:qL P w H s.heap){d:D}{x:V}{v:Value}(hp:qN 12 d=true)(p:jg K H d x)(q:js x v):
 ∀{ds:YG} {g:YE} {f:Yf},ds.all (qN 12)=true->jd K H ds g->jv g f->f.map (xz K H d)=ds.map (λe=>Q0 e d)/\∀u∈f,SeqAt.EqAt A s u v (xz K H d u):=by
 intro ds
 induction ds with
 |nil =>
  intro g f _ h j;subst h;cases j;simp
 |cons e ds r =>
  intro g f c h j;rw[UH,Ue] at c;obtain⟨y,rs,rfl,l,t⟩:=h;cases j with
  |cons n z =>
   obtain⟨C,F⟩:=r c.2 t z;obtain⟨G,I⟩:=WK ok 12 e y _ c.1 l n;obtain⟨J,L⟩:=WK ok 12 d x v hp p q;obtain⟨M,N⟩:=Xp 12 e c.1;obtain⟨O,Q⟩:=Xp 12 d hp;have es:=OY hp c.1 l n;refine⟨(),λu hm=>?_⟩;rcases Uq.mp hm with hm|hm
   .subst hm;rw[es,<- (Vg.mpr ((C0 12 e d c.1 hp).trans bU.symm):PyData.eqv (xW e) (xW d)=Q0 e d)]
    grind[SeqAt.eqAt_reads]
   simp_all
def A5 {α: Type}{f:α -> Bool}{l:List α}:l.any f=(l.map f).any id:=()
def OZ (C:X.A.units+64<cLine)(c:Bool):qY X (compareOp (if c then .NotIn else .In)) (wY X.K λd e=>match e with
 | .dct _ _=>none
 | .dcf _ _=>none
 |e=>w5 c d e):=by
 intro Y s Z H x y v u Q I r t ⟨F,d,e,z,f,id,h,hz,q⟩;have id':=jg.same f _ _ id;cases e with
 |lst ds =>
  have hz:(if qN 12 d&&ds.all (qN 12) then some (D.bl (if c then !ds.any (λe=>Q0 e d) else ds.any λe=>Q0 e d)) else none)=some z:=hz
  split at hz
  .rename_i hp;rw[Ue] at hp;obtain rfl:=Zqi hz;rw[jm] at h;obtain⟨p,w,rfl,j,l⟩:=h;obtain rfl:u=Value.ref p:=t;obtain⟨its,n,pl,B⟩:=I.list (j.same f).sq;obtain⟨k1,k2⟩:=FR (A:=X.A.in1) (by show X.A.units+1+60<cLine;lia) I.hok hp.1 id' r hp.2 (jd.same f _ _ l) n;have g:its.toArray.any (xz X.K H d)=ds.any (λe=>Q0 e d):=by
    rw[show its.toArray.any (xz X.K H d)=its.any (xz X.K H d) by simp,A5,k1,<- A5]
   cases c with
   |true =>
    refine SeqAt.notIn_listAt (xz X.K H d) pl.isList () ⟨.bl _,H,I,rfl,?_⟩;rw[g];exact q _ F H (.refl f) (zH _ F)
   |false =>
    refine SeqAt.in_listAt (xz X.K H d) pl.isList () ⟨.bl _,H,I,rfl,?_⟩;rw[g];exact q _ F H (.refl f) (zH _ F)
  simp_all
 |tup ds =>
  have hz:(if qN 12 d&&ds.all (qN 12) then some (D.bl (if c then !ds.any (λe=>Q0 e d) else ds.any λe=>Q0 e d)) else none)=some z:=hz
  split at hz
  .rename_i hp;rw[Ue] at hp;obtain rfl:=Zqi hz;obtain⟨p,w,rfl,j,l⟩:=h;obtain rfl:=t;obtain⟨its,n,pl,B⟩:=I.tuple (j.same f).sq;obtain⟨k1,k2⟩:=FR (A:=X.A.in1) (by show X.A.units+1+60<cLine;lia) I.hok hp.1 id' r hp.2 (jd.same f _ _ l) n;have g:its.toArray.any (xz X.K H d)=ds.any (λe=>Q0 e d):=by
    rw[show its.toArray.any (xz X.K H d)=its.any (xz X.K H d) by simp,A5,k1,<- A5]
   cases c with
   |true =>
    refine SeqAt.notIn_tupleAt (xz X.K H d) pl () ⟨.bl _,H,I,rfl,?_⟩;rw[g];exact q _ F H (.refl f) (zH _ F)
   |false =>
    refine SeqAt.in_tupleAt (xz X.K H d) pl () ⟨.bl _,H,I,rfl,?_⟩;rw[g];exact q _ F H (.refl f) (zH _ F)
  simp_all
 |_=>exact J5 hz
def ub {K:W.Frag}{f:Bool}{Z: St}{H:Hp}{Q:VK}(h:tD K E (jf (w5 f) fa fb) Z H Q):
 (λZ H Q=>tD K E fa Z H λy u=>tD K E fb Z u λx j=>∃a o,x=.ref a/\x6 j a y o/\Q (.bl (if f then !o.isSome else o.isSome)) j) Z H Q\/wW (wY K λd e=>match e with
 | .dct _ _=>none
 | .dcf _ _=>none
 |e=>w5 f d e) (tD K E fa) (tD K E fb) Z H Q:=by
 obtain⟨B,F,sd,r,n⟩:=h;by_cases l:∃d ks ds,fb sd=.ok d/\(d=.dct ks ds\/d=.dcf ks ds)
 .obtain⟨d,ks,ds,l,A⟩:=l;refine .inl ⟨B,F,sd,r,(ja n).mono (λx J v L u s M=>⟨B,L,sd,r.step s,(ja J).monoE (λy g N w O j C P=>?_) λ_ _ q=>q.ext s⟩) λ_ _ q=>q⟩;rw[l] at g;cases g;obtain⟨z,hz,q⟩:=jh N;obtain⟨k,R,hz⟩:=Jk.mp (show(QC x).map (λq=>D.bl (if f then !(jG ks ds q).isSome else(jG ks ds q).isSome))=some z by rcases A with rfl|rfl<;>exact hz);subst hz;obtain⟨p,G,rfl,S,T,U⟩:=FN A P;obtain⟨Y,g2⟩:=Xq k T U;refine⟨p,qu (ks.zip G) k,rfl,?_,?_⟩
  .rw[WL R M];exact C7 (C6 C.fh S)
  .have es:(qu (ks.zip G) k).isSome=(jG ks ds k).isSome:=by
    cases I:jG ks ds k with
    |none=>rw[g2 I];rfl
    |some d=>obtain⟨x,t,_⟩:=Y d I;rw[t];rfl
   rw[es];exact q _ O j (s.trans C) (jn.mpr rfl)
 .refine .inr (XZ ⟨B,F,sd,r,?_⟩);unfold jf at n ⊢;cases t:fa sd with
  |ok d =>
   rw[t] at n;cases g:fb sd with
   |ok e =>
    simp_all
   |no=>rwa [g] at n
   |ex c fs=>rwa [g] at n
  |no=>simp_all
  |ex c fs=>simp_all
def FU (j:X.A.units+64<cLine)(c:QE X E a fa)(f:QE X E b fb)(g:behindInMarks .NotIn b=false:=by rfl):QT X E (.Compare a [.NotIn] [b] pos) (JE (jf (w5 true) fa fb)):=
 PT.weak (PT.or (DR (N0 () c f) g) (Ea (OZ j true) c f g)) λZ H Q h=>ub (WC h)
end
section
variable {X:Cx}{E:XK}{m:Option Bool}{a b o i e f tg:Expr}{fa fb fo fi fv:FE}{fr:FA}{pos pos' apos cpos p:Pos}
theorem Q7 {K:W.Frag}{H:Hp}{d:D}{c:YE}(h:jd K H [d] c):∃v,c=[v]/\jg K H d v:=by
 simp_all [jp,jd.nil_iff]
def C8 {K:W.Frag}{H:Hp}{d e:D}{c:YE}(h:jd K H [d,e] c):∃v w,c=[v,w]/\jg K H d v/\jg K H e w:=by
 grind[jp,Q7]
def jP:YG->YH
 | [.lst ds]=>some (.int ds.length)
 | [.tup ds]=>some (.int ds.length)
 | [.dct ks _]=>some (.int ks.length)
 | [.scr ns]=>some (.int ns.length)
 | [.str x]=>if x.length<=sizeLine then some (.int x.length) else none
 |_=>none
def rl (ds:YG)(z:D):Prop:=(∃es,ds=[.lst es]/\z=.int es.length)\/(∃es,ds=[.tup es]/\z=.int es.length)\/(∃ks es,ds=[.dct ks es]/\z=.int ks.length)\/(∃ns,ds=[.scr ns]/\z=.int ns.length)\/∃x,x.length<=sizeLine/\ds=[.str x]/\z=.int x.length
def Pa (hz:jP ds=some z):rl ds z:=by
 cases ds with
 |nil=>exact J5 hz
 |cons d ds =>
  cases ds with
  |nil =>
   cases d with
   |lst ds=>exact .inl ⟨_,rfl,(Zqi hz).symm⟩
   |tup ds=>exact .inr (.inl ⟨_,rfl,(Zqi hz).symm⟩)
   |dct ks ds=>exact .inr (.inr (.inl ⟨_,_,rfl,(Zqi hz).symm⟩))
   |scr ns=>exact .inr (.inr (.inr (.inl ⟨_,rfl,(Zqi hz).symm⟩)))
   |str x=>exact let q:=Cr hz;.inr (.inr (.inr (.inr ⟨_,q.1,rfl,q.2.symm⟩)))
   |_=>exact J5 hz
  |cons e ds=>cases d<;>exact J5 hz
def QV:jU X (.builtin "len") (zZ X.K jP):=jU.weak (jU.or Nl (jU.or ND Nm)) λr H Q l=>by
 obtain⟨F,ds,z,c,id,hz,q⟩:=l;rcases Pa hz with ⟨es,rfl,rfl⟩|⟨es,rfl,rfl⟩|⟨ks,es,rfl,rfl⟩|⟨ns,rfl,rfl⟩|⟨x,n,rfl,rfl⟩
 .obtain⟨v,rfl,h⟩:=Q7 id;obtain⟨a,ys,rfl,g,j⟩:=h;rw[<- j.length] at q;exact .inl ⟨a,ys,rfl,.inl (g.same c).sq,q _ F H (.refl c) (yK _ F)⟩
 .obtain⟨v,rfl,h⟩:=Q7 id;obtain⟨a,ys,rfl,g,j⟩:=h;rw[<- j.length] at q;exact .inl ⟨a,ys,rfl,.inr (g.same c).sq,q _ F H (.refl c) (yK _ F)⟩
 .obtain⟨v,rfl,h⟩:=Q7 id;obtain⟨a,ys,rfl,g,j,s⟩:=h;refine .inr (.inl ⟨a,_,rfl,c _ _ g,?_⟩);rw[List.length_zip,<- j,Nat.min_self];exact q _ F H (.refl c) (yK _ F)
 .obtain⟨v,rfl,h⟩:=Q7 id;obtain⟨a,rfl,g⟩:=h;refine .inl ⟨a,_,rfl,.inl (jk.seq c g),?_⟩;rw[Zql];exact q _ F H (.refl c) (yK _ F)
 .obtain⟨v,rfl,h⟩:=Q7 id;subst h;exact .inr (.inr ⟨_,rfl,n,q _ F H (.refl c) (yK _ F)⟩)
def Wm:YG->YH
 | [.int i,.int j]=>some (.int (if j > i then j else i))
 |_=>none
def fL (ds:YG):Prop:=∃i j,ds=[.int i,.int j]
def Pb (hz:Wm ds=some z):fL ds:=by
 cases ds with
 |nil=>exact J5 hz
 |cons d ds =>
  cases ds with
  |nil=>cases d<;>exact J5 hz
  |cons e ds =>
   cases d with
   |int i =>
    cases e with
    |int j =>
     cases ds with
     |nil=>exact⟨_,_,rfl⟩
     |cons _ _=>exact J5 hz
    |_=>exact J5 hz
   |_=>exact J5 hz
def FV (c:X.calm=true):jU X (.builtin "max") (zZ X.K Wm):=jU.weak (M9 c) λr H Q g=>by
 obtain⟨F,ds,z,h,id,hz,q⟩:=g;obtain⟨i,j,rfl⟩:=Pb hz;obtain rfl:=Zqi hz;obtain⟨v,w,rfl,l,n⟩:=C8 id;exact⟨_,_,by rw[je.mp l,je.mp n],q _ F H (.refl h) (yK _ F)⟩
def A6:D->Option Yh
 | .lst ds=>Q3 Y3 ds
 |_=>none
def FW {K:W.Frag}{H:Hp}{d:D}{ns:Yh}{v:V}(h:A6 d=some ns)(i:jg K H d v):∃a,v=.ref a/\xj K H a (ns.map V.int):=by
 cases d with
 |lst ds =>
  obtain⟨a,j,rfl,g,c⟩:=i;rw[OP (h)] at c;rw[qr c] at g
  simp_all
 |_=>exact J5 h
def FY (ns):A6 (.lst (ns.map D.int))=some ns:=OQ ns
def Y7:YG->YH
 | [d]=>(A6 d).bind λns=>if ns=[] then none else some (.int (qC ns))
 |_=>none
def Y8:YG->YH
 | [d]=>(A6 d).bind λns=>if ns=[] then none else some (.int (xc ns))
 |_=>none
def Pc (g:X.calm=true):jU X (.builtin "max") (zZ X.K Y7):=jU.weak (NO g) λs H Q j=>by
 obtain⟨F,ds,z,c,id,hz,q⟩:=j;unfold Y7 at hz
 split at hz
 .obtain⟨ns,l,hz⟩:=Jg.mp hz
  split at hz
  .exact J5 hz
  .rename_i n;obtain rfl:=Zqi hz;obtain⟨v,rfl,h⟩:=Q7 id;obtain⟨a,rfl,r⟩:=FW l h;exact⟨a,ns,rfl,(r.same c).sq,n,q _ F H (.refl c) (yK _ F)⟩
 simp_all
def Pd (g:X.calm=true):jU X (.builtin "min") (zZ X.K Y8):=jU.weak (NP g) λs H Q j=>by
 obtain⟨F,ds,z,c,id,hz,q⟩:=j;unfold Y8 at hz
 split at hz
 .obtain⟨ns,l,hz⟩:=Jg.mp hz
  split at hz
  .exact J5 hz
  .rename_i n;obtain rfl:=Zqi hz;obtain⟨v,rfl,h⟩:=Q7 id;obtain⟨a,rfl,r⟩:=FW l h;exact⟨a,ns,rfl,(r.same c).sq,n,q _ F H (.refl c) (yK _ F)⟩
 simp_all
def bZ:D->Option String
 | .non=>some "NoneType"
 | .bl _=>some "bool"
 | .int _=>some "int"
 | .str _=>some "str"
 | .lst _=>some "list"
 | .tup _=>some "tuple"
 | .dct _ _=>some "dict"
 |_=>none
def vh (t n:String):Bool:=(t == n)||(t == "bool" && n == "int")
def A7 (t n:String):Bool:=["NoneType", "bool", "int", "str", "list", "tuple", "dict"].contains t&&["bool", "int", "str", "list", "tuple", "dict"].contains n
def Pe (K)(t n)(h:A7 t n=true):W.kitOne K (.type t) (.type n)=some (vh t n):=by
 unfold A7 at h;rw[Ue,List.contains_iff_mem,List.contains_iff_mem] at h;obtain⟨c,g⟩:=h;simp only[Uq,Uw,or_false] at c g;rcases c with rfl|rfl|rfl|rfl|rfl|rfl|rfl<;>rcases g with rfl|rfl|rfl|rfl|rfl|rfl<;>first|rfl|kernel_rfl
def jS:YG->YH
 | [d,.ty n]=>(bZ d).bind λt=>if A7 t n then some (.bl (vh t n)) else none
 |_=>none
def Pf {K:W.Frag}{H:Hp}{d:D}{v:V}{t:String}(h:bZ d=some t)(i:jg K H d v):TyOf K H v (.type t):=by
 cases d with
 |non=>cases h;rw[jD.mp i];exact .non
 |bl b=>cases h;rw[jn.mp i];exact .bl b
 |int j=>cases h;rw[je.mp i];exact .int j
 |str x=>cases h;rw[jr.mp i];exact .str x
 |lst ds =>
  obtain rfl:=Zqi h;obtain⟨a,l,rfl,g,_⟩:=i;rcases g with g|⟨o,g⟩
  .exact .lst g
  .exact .frz g
 |tup ds =>
  obtain rfl:=Zqi h;obtain⟨a,l,rfl,g,_⟩:=i;exact .tup g
 |dct ks ds =>
  obtain rfl:=Zqi h;obtain⟨a,l,rfl,g,_⟩:=i;exact .dK g
 |ty n=>exact J5 h
 |scr n=>exact J5 h
 |ins C fs ds=>exact J5 h
 |exc c=>exact J5 h
 |ucl c=>exact J5 h
 |adr c=>exact J5 h
 |dcf c ds=>exact J5 h
 |pin c ds=>exact J5 h
def rn (ds:YG)(z:D):Prop:=∃d n t,ds=[d,.ty n]/\bZ d=some t/\A7 t n=true/\z=.bl (vh t n)
def Pg (hz:jS ds=some z):rn ds z:=by
 cases ds with
 |nil=>exact J5 hz
 |cons d ds =>
  cases ds with
  |nil=>exact J5 hz
  |cons e ds =>
   cases ds with
   |nil =>
    cases e with
    |ty n =>
     obtain⟨t,c,hz⟩:=Jg.mp (hz);exact⟨d,n,t,rfl,c,(Cr hz).1,(Cr hz).2.symm⟩
    |_=>exact J5 hz
   |cons _ _=>cases e<;>exact J5 hz
def V1:jU X (.builtin "isinstance") (zZ X.K jS):=jU.weak NQ λs H Q g=>by
 obtain⟨F,ds,z,c,id,hz,q⟩:=g;obtain⟨d,n,t,rfl,h,j,rfl⟩:=Pg hz;obtain⟨v,w,rfl,l,r⟩:=C8 id;exact⟨v,_,_,_,by rw[qZ.mp r],Pf h (jg.same c _ _ l),Pe _ _ _ j,q _ F H (.refl c) (zH _ F)⟩
def V2 (c:Gl X x)(g:X.mg x=none)(h:bootBuiltins x=some u)(r:js (.ty n) u)(j:x ≠ "__name__" := by decide)(l:(x == ("__debug__" : Str))=false:=by decide):QE X E (.Name x pos) (dC (.ty n)):=
 XY (Ma c g h r j l) λ_=>qZ.mpr rfl
def Qu:YG->YH
 | [.lst ds]=>some (.lst ds)
 | [.tup ds]=>some (.lst ds)
 | [.scr ns]=>some (.lst (ns.map .int))
 |_=>none
def fK (ds:YG)(z:D):Prop:=(∃es,ds=[.lst es]/\z=.lst es)\/(∃es,ds=[.tup es]/\z=.lst es)\/∃ns,ds=[.scr ns]/\z=.lst (ns.map .int)
def Ph (hz:Qu ds=some z):fK ds z:=by
 cases ds with
 |nil=>exact J5 hz
 |cons d ds =>
  cases ds with
  |nil =>
   cases d with
   |lst ds=>exact .inl ⟨_,rfl,(Zqi hz).symm⟩
   |tup ds=>exact .inr (.inl ⟨_,rfl,(Zqi hz).symm⟩)
   |scr ns=>exact .inr (.inr ⟨_,rfl,(Zqi hz).symm⟩)
   |_=>exact J5 hz
  |cons e ds=>cases d<;>exact J5 hz
def V3:jU X (.type "list") (zF X.K Qu):=jU.weak No λt H Q s=>by
 obtain⟨F,ds,z,g,id,hz,q⟩:=s;have c:∀{es:YG} {ys:YE},jd X.K F es ys->xL X.K F H Q (.lst es)->∀l,H l=none->Q (.ref l) (upd H l (.lst ys)):=λ{es ys} h q l n =>
  q l F _ (.keep g n _) n (Qj g n) ⟨ys,JL,h⟩
 rcases Ph hz with ⟨es,rfl,rfl⟩|⟨es,rfl,rfl⟩|⟨ns,rfl,rfl⟩
 .obtain⟨v,rfl,h⟩:=Q7 id;obtain⟨a,ys,rfl,j,r⟩:=h;exact⟨a,ys,rfl,.inl (j.same g).sq,c r q⟩
 .obtain⟨v,rfl,h⟩:=Q7 id;obtain⟨a,ys,rfl,j,r⟩:=h;exact⟨a,ys,rfl,.inr (j.same g).sq,c r q⟩
 .obtain⟨v,rfl,h⟩:=Q7 id;obtain⟨a,rfl,j⟩:=h;exact⟨a,_,rfl,.inl (jk.seq g j),c (qi _) q⟩
def Wn:YG->YH
 | [.lst ds]=>some (.tup ds)
 | [.tup ds]=>some (.tup ds)
 |_=>none
def re (ds:YG)(z:D):Prop:=(∃es,ds=[.lst es]/\z=.tup es)\/∃es,ds=[.tup es]/\z=.tup es
def Pi (hz:Wn ds=some z):re ds z:=by
 cases ds with
 |nil=>exact J5 hz
 |cons d ds =>
  cases ds with
  |nil =>
   cases d with
   |lst ds=>exact .inl ⟨_,rfl,(Zqi hz).symm⟩
   |tup ds=>exact .inr ⟨_,rfl,(Zqi hz).symm⟩
   |_=>exact J5 hz
  |cons e ds=>cases d<;>exact J5 hz
def A8:jU X (.type "tuple") (zZ X.K Wn):=jU.weak Np λt H Q r=>by
 obtain⟨F,ds,z,c,id,hz,q⟩:=r;rcases Pi hz with ⟨es,rfl,rfl⟩|⟨es,rfl,rfl⟩
 .obtain⟨v,rfl,h⟩:=Q7 id;obtain⟨a,ys,rfl,g,j⟩:=h;refine⟨a,ys,rfl,.inl ⟨(g.same c).sq,λl s=>?_⟩⟩;have n:=qj c s (.tup ys);exact q _ _ _ n (j0.mpr ⟨l,ys,rfl,.of JL,jd.same n.ff _ _ j⟩)
 .obtain⟨v,rfl,h⟩:=Q7 id;have h':=h;obtain⟨a,ys,rfl,g,j⟩:=h;exact⟨a,ys,rfl,.inr ⟨(g.same c).sq,q _ F H (.refl c) h'⟩⟩
def y7 (r:Jy):D:=.dct (r.map λp=>.inl p.1) (r.map λp=>.int p.2)
def Xr (r:Jy):Jy:=r.foldl (λa p=>qB a p.1 p.2) []
def Pj (r):Af r=xx (Xr r):=Ft r []
def Pk (h:jB r):Xr r=r:=by
 grind[Xr,Fu]
def FZ (r):xx r=(r.map λp=>(Ud p.1:jA)).zip (r.map λp=>V.int p.2):=by
 grind[xx,List.map_cons]
def Pm (K)(F)(r:Jy):jd K F (r.map λp=>D.int p.2) (r.map λp=>V.int p.2):=by
 have:=qi (K:=K) (H:=F) (r.map (·.2))
 rwa [Zw,Zw] at this
def Xs:YG->YH
 | [d]=>(Kv d).bind λr=>if r.length<=100 then some (y7 (Xr r)) else none
 |_=>none
def Ga (g:X.calm=true):jU X (.type "dict") (zF X.K Xs):=jU.weak (NW g) λj H Q l=>by
 obtain⟨F,ds,z,c,id,hz,q⟩:=l;unfold Xs at hz
 split at hz
 .obtain⟨r,n,hz⟩:=Jg.mp hz
  split at hz
  .rename_i s;obtain rfl:=Zqi hz;obtain⟨v,rfl,h⟩:=Q7 id;rw[FF n,bP] at h;obtain⟨a,ys,e,_⟩:=(show ∃a j,v=.ref a/\_ by unfold rD at h;rwa [yx] at h);subst e;refine⟨a,r,rfl,(Is.same c _ _ h),s,λp hp=>(q p F _ (.keep c hp _) hp (Qj c hp) ⟨(Xr r).map λp=>V.int p.2,?_,(),Pm _ _ _⟩)⟩;rw[JL,Pj,FZ]
  .exact J5 hz
 simp_all
def fq:FE:=λ_=>.ok (.dct [] [])
def Pn:QN X E (.Dict [] [] pos) fq:=PE.weak N3 λZ H Q ⟨B,F,sd,r,n⟩=>λp hp=>n p F _ (.keep r.ext.fh hp _) hp (Qj r.ext.fh hp) ⟨[],JL,rfl,.nil⟩
def A9 (fo c g:FE):FE:=λsd=>(fo sd).bind λd=>match d with
 | .dct ks ds=>(c sd).bind λk=>(g sd).bind λx=>.ofO ((QC k).map λq=>(jG ks ds q).getD x)
 |_=>.no
def Po (C:X.A.units+1<cLine)(G:QE X E o fo)(I:QE X E e fa)(J:QE X E f fb)(K:M2 X o "get" apos e f cpos):QE X E (.Call (.Attribute o "get" apos) [e,f] [] cpos) (A9 fo fa fb):=PE.weak (N7 C G I J K) λZ H Q L=>by
 obtain⟨B,F,sd,r,n⟩:=L;refine⟨B,F,sd,r,(ja n).mono (λd s v M H1 c N=>?_) λ_ _ q=>q⟩;cases d with
 |dct ks ds =>
  obtain⟨p,O,rfl,P,R,S⟩:=N;have hp:=c.fh _ _ P;refine⟨p,rfl,.inl ⟨_,.inl hp⟩,B,M,sd,r.step c,(ja s).mono (λk T w U H2 g Y=>⟨B,U,sd,(r.step c).step g,(ja T).mono (λx n3 u t A h i3=>?_) λ_ _ q=>q.ext (c.trans g)⟩) λ_ _ q=>q.ext c⟩;obtain⟨z,hz,q⟩:=jh n3;obtain⟨l,hk,hz⟩:=Jk.mp hz;subst hz;obtain⟨g1,g2⟩:=Xq l R S;refine⟨qu (ks.zip O) l,?_,?_⟩
  .rw[WL hk Y];exact x6.k (h.hh _ _ (g.hh _ _ hp))
  .cases j:jG ks ds l with
   |none =>
    rw[j] at q;rw[g2 j];exact q _ t A ((c.trans g).trans h) i3
   |some d =>
    rw[j] at q;obtain⟨y,hy,iy⟩:=g1 d j;rw[hy];exact q _ t A ((c.trans g).trans h) (jg.same (g.ff.trans h.ff) _ _ iy)
 |_=>exact s.elim
def Y9 (i:Nat)(c fv:FE):FS:=λsd=>(fv sd).bind λv=>match sd[i]? with
 |some (some (.own false (.dct ks ds)))=>(c sd).bind λk=>match QC k with
  |some q=>if ks.length<sizeLine then .ok (.next (sd.set i (some (.own false (.dct (V0 ks q) (Wl ks ds q v)))))) else .no
  |none=>.no
 |_=>.no
def Pp (x:X.A.units+1<cLine)(y:PE X o (xM j))(z:QE X E i fi)(A:QE X E e fv)(hs:swapsWith e (some (.Subscript o i pos')) pos.line X.env=pure false:=by rfl):
 QS X E m (.Assign [.Subscript o i pos'] e pos) (Y9 j fi fv):=PS.weak (Eu x y z A hs) λT Z H C=>by
 obtain⟨B,F,sd,r,n⟩:=C;refine⟨B,F,sd,r,(ja n).mono (λd s v G S c I=>?_) λ_ _ q=>q.ext r.ext⟩
 split at s
 .rename_i ks ds t;obtain⟨l,u,U,Y,⟨xs,J,K,L⟩,_⟩:=(r.step c).own t;refine⟨.ref l,u,B,G,sd,r.step c,(ja s).mono (λk g w M H2 h N=>?_) λ_ _ q=>q.ext (r.step c).ext⟩
  split at g
  .rename_i q O
   split at g
   .obtain⟨ys,P,Q,R⟩:=FM K (jd.same h.ff _ _ L) (jg.same h.ff _ _ I);exact⟨l,_,rfl,(by rw[WL O N];exact zv.k (h.hh _ _ J) ()),g Z M _ (c.ff.trans h.ff) (((r.step c).step h).chg t u ⟨ys,by rw[JL,P],Q,R⟩)⟩
   .exact g.elim
  .exact g.elim
 .exact s.elim
def AA:D->Option YG
 | .lst ds=>some ds
 | .scr ns=>some (ns.map .int)
 |_=>none
def vM:D->Option YG
 | .tup ds=>some ds
 |_=>none
def iL (f:FE):FA:=λsd=>(f sd).bind λd=>.ofO (AA d)
def iT (f:FE):FA:=λsd=>(f sd).bind λd=>.ofO (vM d)
def C9 {K:W.Frag}{l:Hp}{J:It}{ds:YG}{c:YE}{S:Hp->Prop}(h:jd K l ds c)(w:∀F H,jk l F->jk F H->S H)(g:∀i H x,S H->c[i]? = some x->J.go i H)(st:∀i H,S H->c.length<=i->J.stop i H)
 (z:∀i H x r,S H->J.yld i H x r->r=H/\c[i]? = some x):zN K l J ds:=λi s j t u=>by
 have n:=w s j t u;refine⟨λv=>?_,λv=>st i j n (by rwa [h.length])⟩;obtain⟨x,A,_⟩:=h.get (Zqg v);refine⟨g i j x n A,λy B C=>?_⟩;obtain⟨rfl,q⟩:=z i j y B n C;obtain⟨d,G,id⟩:=h.getV q;exact⟨d,s,G,.refl u,jg.same t _ _ id⟩
def Pq (h:QE X E e fa):QI X E tg e (iL fa):=PI.weak (Mt h) λZ H R G=>by
 obtain⟨B,F,sd,r,n⟩:=G;refine⟨B,F,sd,r,(ja n).mono (λd I v z A l C=>?_) λ_ _ q=>q⟩;obtain⟨ds,hz,q⟩:=jh I;cases d with
 |lst es =>
  obtain rfl:=Zqi hz;obtain⟨a,s,rfl,g,J⟩:=C;refine⟨a,rfl,⟨s,(g.same l.fh).sq⟩,q _ z A l (C9 J (λF H t u=>((g.same t).same u).sq) (λi H x c w=>⟨s,x,c,w⟩) (λi H c y=>⟨s,c,y⟩) λi H x K c j=>⟨j.1,j.2 s c⟩)⟩
 |scr ns =>
  obtain rfl:=Zqi hz;obtain⟨a,rfl,g⟩:=C;refine⟨a,rfl,⟨_,jk.seq l.fh g⟩,q _ z A l (C9 (qi ns) (λF H t u=>jk.seq u (jk.seq t g)) (λi H x c w=>⟨_,x,c,w⟩) (λi H c y=>⟨_,c,y⟩) λi H x K c j=>⟨j.1,j.2 _ c⟩)⟩
 |_=>exact J5 hz
def Pr (h:QE X E e fa):QI X E tg e (iT fa):=PI.weak (Mu h) λZ H R t=>by
 obtain⟨B,F,sd,r,n⟩:=t;refine⟨B,F,sd,r,(ja n).mono (λd u v w y j z=>?_) λ_ _ q=>q⟩;obtain⟨ds,hz,q⟩:=jh u;cases d with
 |tup es =>
  obtain rfl:=Zqi hz;obtain⟨a,g,rfl,l,A⟩:=z;refine⟨a,rfl,⟨g,(l.same j.fh).sq⟩,q _ w y j (C9 A (λF H C G=>((l.same C).same G).sq) (λi H x c I=>⟨g,x,c,I⟩) (λi H c J=>⟨g,c,J⟩) λi H x K c s=>⟨s.1,s.2 g c⟩)⟩
 |_=>exact J5 hz
def rf {X:Cx}{tg e:Expr}{t t':TI}(h:PI X tg e t)(h':PI X tg e t'):PI X tg e (λZ H R=>t Z H R\/t' Z H R):=λY s Z H R I q=>q.elim (h Y s Z H R I) (h' Y s Z H R I)
def Kf:D->Option YG
 | .lst ds=>some ds
 | .scr ns=>some (ns.map .int)
 | .tup ds=>some ds
 |_=>none
def iS (f:FE):FA:=λsd=>(f sd).bind λd=>.ofO (Kf d)
def JY (h:QE X E e fa):QI X E tg e (iS fa):=PI.weak (rf (Pq h) (Pr h)) λZ H R l=>by
 obtain⟨B,F,sd,r,n⟩:=l;by_cases g:∃ds,fa sd=.ok (.tup ds)
 .obtain⟨ds,g⟩:=g;refine .inr ⟨B,F,sd,r,?_⟩;unfold iS at n;unfold iT
  rwa [g] at n ⊢
 .refine .inl ⟨B,F,sd,r,?_⟩;unfold iS at n;unfold iL;cases j:fa sd with
  |ok d =>
   rw[j] at n;cases d with
   |tup ds=>simp_all
   |_=>exact n
  |no=>rwa [j] at n
  |ex c fs=>rwa [j] at n
def JV (lo:Int)(n:Nat):YG:=(List.range n).map λk:Nat=>.int (lo+k)
def Xt (j:Int):Bool:=Nat.ble j.toNat 1000000000&&Nat.ble (-j).toNat 1000000000
def Gb (h:Xt j=true): -(2 ^ 62)<=j/\j<2 ^ 62:=by
 unfold Xt at h;rw[Ue,Nat.ble_eq,Nat.ble_eq] at h;lia
def Ps (c: -1000000000<=j)(g:j<=1000000000):Xt j=true:=by
 unfold Xt;rw[Ue,Nat.ble_eq,Nat.ble_eq];lia
def yB (fr:FA):FA:=λsd=>(fr sd).bind λds=>match ds with
 | [.int j]=>if Xt j then .ok (JV 0 j.toNat) else .no
 |_=>.no
def Pt {K:W.Frag}{g:Hp}(lo)(n):zN K g (bM lo n) (JV lo n):=λi h r s j=>by
 have l:(JV lo n).length=n:=by unfold JV;simp
 rw[l];refine⟨λc=>⟨c,λx t q=>?_⟩,λc=>c⟩;obtain⟨rfl,rfl⟩:=q;refine⟨.int (lo+i),h,?_,.refl j,je.mpr rfl⟩
 simp_all [JV]
def K8 {a:Expr}(l:Gl X "range")(s:X.mg "range" = none)(t:QA X E [a] fr)(hs:starEach [a] X.env=[(false,eval a X.env)]:=by rfl):QI X E tg (.Call (.Name "range" p) [a] [] pos) (yB fr):=PI.weak (Mw l s t hs) λZ H R u=>by
 obtain⟨B,F,sd,r,n⟩:=u;refine⟨B,F,sd,r,(ja n).mono (λds c A w x y z=>?_) λ_ _ q=>q⟩
 split at c
 .split at c
  .rename_i j g;obtain⟨v,rfl,h⟩:=Q7 z;rw[je.mp h];exact⟨j,rfl,(Gb g).1,(Gb g).2,c _ w x y (Pt 0 _)⟩
  .exact c.elim
 .exact c.elim
end
section
variable {X:Cx}{E:XK}{m:Option Bool}{a b o i e f tg:Expr}{fa fb fo fi fv:FE}{fr:FA}{pos pos' apos cpos p:Pos}
def PG.weak (h:PG X e t)(w:∀v Z H Q,t' v Z H Q->t v Z H Q):PG X e t':=λY s Z H v u Q I r q=>h Y s Z H v u Q I r (w _ _ _ _ q)
def CA:Yj->vb
 | []=>kU
 |i::is=>DS (KG i) (CA is)
theorem Gc:∀{is:Yj} {c:YE} {Z: St} {H:Hp} {Q:St->Hp->Prop},c.length=is.length->Q (Az is c Z) H->CA is c Z H Q
 | [],c,Z,H,Q,hl,q=>⟨(),q⟩
 |i::is,[],Z,H,Q,hl,q=>by cases hl
 |i::is,x::c,Z,H,Q,hl,q=>⟨x,c,rfl,Gc (UN hl) q⟩
def JW {i:Nat}{e:Expr}(h:PG X e (KG i)):QG X e (.one i):=h
def K9 (is)(h:PG X e (kQ X.K is.length (CA is))):QG X e (.tup is):=PG.weak h λv Z H Q ⟨a,g,e,j,c,q⟩=>⟨a,g,e,j,c,Gc c q⟩
def KL (tg:Tg)(c:FT)(f:FE)(sd:SD):YG->Res YG
 | []=>.ok []
 |x::xs=>(JO tg x sd).bind λs=>(c s).bind λb=>if b then(f s).bind λy=>(KL tg c f sd xs).bind λys=>.ok (y::ys) else KL tg c f sd xs
def WM (cap:List (Option Nat))(it:FA)(tg:Tg)(c:FT)(f:FE):FE:=λsd=>(it sd).bind λds=>if Ux (jY cap sd) tg=true/\ds.length<sizeLine then
 (KL tg c f (jY cap sd) ds).bind λys=>.ok (.lst ys) else .no
def Gd {K:W.Frag}{t:Tg}{fi:FA}{G:FT}{f:FE}{cap:List (Option Nat)}{Z: St}{H:Hp}{Q:VK}(I:vk K E (WM cap fi t G f) Z H Q):XJ cap (fU K E fi) (gT t K) (fT K E G) (tD K E f) Z H Q:=by
 obtain⟨B,F,sd,r,n⟩:=I;refine⟨B,F,sd,r,(ja n).mono (λds L J P H1 w wk=>?_) λ_ _ q=>q⟩
 split at L
 .rename_i I;obtain⟨hn,hz⟩:=I;refine⟨λi k ys Z l=>k=ds.length-i/\i<=ds.length/\∃h es,Ext P H1 h l/\RS K B h l (jY cap sd) Z /\ jd K h es ys/\es.length<=i /\
   (KL t G f (jY cap sd) (ds.drop i)).need (λrs=>xL K h l Q (.lst (es++rs))) (XW K E h l),⟨ds.length,rfl,Ua _,P,[],.refl w.fh,(r.step w).cap cap,.nil,Zf _,?_⟩,?_⟩
  .exact(ja L).mono (λrs q=>(q).ext w) λ_ _ q=>q.ext w
  rintro i k ys Z2 l ⟨rfl,hi,h,es,z,M,A,R,s⟩;have ly:=A.length;refine⟨(),?_⟩;obtain⟨w1,w2⟩:=wk i h l z.ff z.fh;by_cases j:i<ds.length
  .obtain⟨go,yl⟩:=w1 j;refine .inr ⟨go,λx H3 y=>?_⟩;obtain⟨d,F3,hd,g,i3⟩:=yl x H3 y;rw[Uu j] at s;have N:ds[i]=d:=by grind[Zqg,Zqi]
   rw[N] at s;refine Y2 (M.step g) i3 (ja s) λsd' Z' n4 hb C=>?_;have ⟨S,T⟩:=Cw hn hb;refine⟨B,F3,sd',C,(ja n4).mono (λb U Y H4 c=>?_) λ_ _ q=>q.ext g⟩;cases b with
   |true =>
    refine⟨B,Y,sd',C.step c,(ja U).mono (λy n6 v F5 H5 u i5=>⟨ds.length-(i+1),(),rfl,j,F5,es++[y],((z.trans g).trans c).trans u,((C.step c).step u).forget S T,(jd.same ((g.ff.trans c.ff).trans u.ff) _ _ A).snoc i5,by rw[Ub];exact Vy R,(ja n6).mono (λrs q=>?_) λ_ _ q=>q.ext ((g.trans c).trans u)⟩) λ_ _ q=>q.ext (g.trans c)⟩;rw[Uh];exact(q).ext ((g.trans c).trans u)
   |false =>
    exact⟨ds.length-(i+1),(),rfl,j,Y,es,(z.trans g).trans c,(C.step c).forget S T,jd.same (g.ff.trans c.ff) _ _ A,Vl R,(U).mono (λrs q=>q.ext (g.trans c)) λ_ _ q=>q.ext (g.trans c)⟩
  .have he:i=ds.length:=()
   subst he;refine .inl ⟨w2 (Zf _),λD O=>?_⟩;rw[Vb] at s;have q:xL K h l Q (.lst (es++[])):=s;rw[ZB] at q;exact q D h _ (.keep M.ext.fh O _) O (Qj M.ext.fh O) ⟨ys,JL,A⟩
 .exact L.elim
def Ge {tg j l c:Expr}{g:Scope}{t:Tg}{fi:FA}{u:FT}{f:FE}(N)(cap)(v:X.calm=true)(r:QJ g X.env N X.N cap=true)(w:QI X E tg j fi)
 (y:∀n C s H q,QG (JJ X g N n C s H q) tg t) (z:∀n C s H q,QT (JJ X g N n C s H q) E c u) (A:∀n C s H q,QE (JJ X g N n C s H q) E l f) (hs:∀x,foldedSetIterable j X.env x=pure x:=by intro _;rfl):
 QN X E (.ListComp l [⟨tg,j,[c],0⟩] g pos) (WM cap fi t u f):=PE.weak (O4 N cap v r w y z A hs) λ_ _ _ h=>Gd h
def YL:List jA->YG->Option Jy
 | .inl k::ks,.int v::ds=>(YL ks ds).map λr=>(k,v)::r
 | [],[]=>some []
 |_,_=>none
def Pu (ks:List jA)(ds:YG)(r:Jy):Prop:=ks=r.map (λp=>.inl p.1)/\ds=r.map λp=>.int p.2
def Pv (h:YL ks ds=some r):Pu ks ds r:=by
 induction ks generalizing ds r with
 |nil =>
  cases ds with
  |nil=>obtain rfl:=Zqi h;exact⟨rfl,rfl⟩
  |cons _ _=>exact J5 h
 |cons k ks c =>
  cases k with
  |inr _=>exact J5 h
  |inl k =>
   cases ds with
   |nil=>exact J5 h
   |cons d ds =>
    cases d with
    |int v =>
     obtain⟨l,g,j⟩:=Jk.mp (h);subst j;exact⟨Zt (Ud k :: ·) (c g).1,Zt (D.int v :: ·) (c g).2⟩
    |_=>exact J5 h
def Pw (r):YL (r.map λp=>.inl p.1) (r.map λp=>.int p.2)=some r:=by
 induction r with
 |nil=>rfl
 |cons p r c=>exact Zt (Option.map λr=>(p.1,p.2)::r) c
def zX (s:jk F H)(fr:∀p∈L,H p.1=none):Ext F H (q0 F L) (q0 H L):=by
 have c:∀{G:Hp} {b:Addr},H b≠none->q0 G L b=G b:=λ{G b} g=>Ap ();have ne:∀{b:Addr} {o:HO},H b=some o->H b≠none:=by grind
 refine⟨λb o e=>by rwa [c (ne (s _ _ e))],λb o e=>?_,λb o e=>by rwa [c (ne e)],()⟩;rcases Fq e with h|⟨h1,h2⟩
 .grind[q0]
 .rw[Ap h1];exact s _ _ h2
def CB:D->YH
 | .dct ks ds=>(YL ks ds).bind λr=>if r ≠ []/\r.length<1000 then some (.lst ((JQ jV r).map qd)) else none
 |_=>none
def CC (fo:FE):FE:=λsd=>(fo sd).bind λd=>.ofO (CB d)
def Px (h:∀{C:TE},PE X o C->PE X e (vm (λt H Q=>∃c d r,t=[.ref c]/\H c=some (Wi c d)/\H d=some (.dK (xx r))/\r ≠ []/\r.length<1000/\∀l L,(∀p∈L,H p.1=none)->(L.map (·.1)).Nodup->(∀G,Is (q0 G L) (.list ((JQ jV r).map pD)) (.ref l))->Q (.ref l) (q0 H L))
 (BH (ur X.K "dict" (λx M H Q=>∃d u,x=.ref d/\M=[]/\H d=some (.dK u)/\∀p,H p=none->Q (.ref p) (upd H p (Wi p d))) C) vi))) (N:QE X E o fo):QE X E e (CC fo):=PE.weak (h N) λZ H Q O=>by
 obtain⟨B,F,sd,r,n⟩:=O;refine⟨B,F,sd,r,(ja n).mono (λd P v s I w R=>?_) λ_ _ q=>q⟩;obtain⟨z,hz,q⟩:=jh P;cases d with
 |dct ks ds =>
  obtain⟨y,S,A⟩:=Jg.mp (hz)
  split at A
  .rename_i J;obtain rfl:=Zqi A;obtain⟨k1,k2⟩:=Pv S;obtain⟨d,t,rfl,T,g2,U⟩:=R;have Y:t=y.map λp=>V.int p.2:=by
    rw[k2] at U;have:=qr (by rwa [Zw]);rw[this,Zw];rfl
   have hd:s d=some (.dK (xx y)):=by rw[T,k1,Y,<- FZ]
   have g:=w.fh _ _ hd;refine⟨.inr (.inr (.inl ⟨rfl,.inl ⟨_,g⟩⟩)),d,_,rfl,rfl,g,λc j=>⟨c,d,y,rfl,JL,(Kt j (Wi c d)) _ _ g,J.1,J.2,λl L fr nd hl=>?_⟩⟩;have K:Ext s I s (upd I c (Wi c d)):=.keep w.fh j _;refine q _ _ _ (w.trans (K.trans (zX K.fh fr))) ?_;obtain⟨l',ys,e',g4,g5⟩:=xD.mp (hl s);exact jm.mpr ⟨l',ys,e',.of g4,vI.mpr g5⟩
  .exact J5 A
 |_=>exact J5 hz
end
section
variable {P:Program}{w:World}{K:W.Frag}{mg:Ye}{base:Heap}{f:Addr}{fd:FuncData}{ps:Yk}{k:Nat}
def Gf:FnOk P w K mg base yj k f fd ps (qH K λ_=>.no):=⟨λ_ _ _ _ ⟨_,_,_,_,n⟩=>n.elim,λ_ _ _ _ _ _ _ _ _ _ _ _ _ ⟨_,_,_,_,n⟩=>n.elim⟩
end
section
variable {X:Cx}{E:XK}{m:Option Bool}{a b o i e f tg:Expr}{fa fb fo fi fv:FE}{fr:FA}{pos pos' apos cpos p:Pos}
def yc (c:Bool):D->YH
 | .non=>some (.bl (!c))
 |_=>some (.bl c)
def CD:D->Bool
 | .non=>true
 |_=>false
def Py {K:W.Frag}{H:Hp}{d:D}{v:V}(h:jg K H d v):decide (v=.non)=CD d:=by
 cases d with
 |non=>rw[jD.mp h];rfl
 |bl b=>rw[jn.mp h];rfl
 |int b=>rw[je.mp h];rfl
 |str b=>rw[jr.mp h];rfl
 |ty b=>rw[qZ.mp h];rfl
 |scr b=>obtain⟨a,rfl,_⟩:=qo.mp h;rfl
 |tup b=>obtain⟨a,_,rfl,_⟩:=j0.mp h;rfl
 |lst b=>obtain⟨a,_,rfl,_⟩:=jm.mp h;rfl
 |dct b c=>obtain⟨a,_,rfl,_⟩:=qa.mp h;rfl
 |ins b c d=>obtain⟨a,_,_,_,rfl,_⟩:=jZ.mp h;rfl
 |exc b=>obtain⟨a,_,rfl,_⟩:=qP.mp h;rfl
 |ucl b=>obtain⟨a,rfl,_⟩:=yH.mp h;rfl
 |adr b=>rw[qb.mp h];rfl
 |dcf b c=>obtain⟨a,_,_,rfl,_⟩:=qq.mp h;rfl
 |pin b c=>rw[(qp.mp h).1];rfl
def Pz {K:W.Frag}{Z: St}{H:Hp}{Q:VK}(h:tD K E (qX (yc true) fa) Z H Q):DQ (tD K E fa) Z H Q:=by
 obtain⟨B,F,sd,r,n⟩:=h;refine⟨B,F,sd,r,(ja n).mono (λx g v j c l s=>?_) λ_ _ q=>q⟩;show Q (V.bl !decide (v=V.non)) c;rw[Py s];cases x<;>exact g _ j c l (jn.mpr rfl)
def Gg {j pos'}(c:QE X E a fa):QT X E (.Compare a [.IsNot] [.Constant .none j pos'] pos) (JE (qX (yc true) fa)):=PT.weak (DR (Mc c)) λ_ _ _ h=>Pz (WC h)
def KM (i:Nat)(fb:FE):FE:=λsd=>match sd[i]? with
 |some (some (.own _ d))=>(fb sd).bind λy=>.ofO (j6 d y)
 |_=>.no
def Gh {i:Nat}(M:X.A.units+1<cLine)(J:PE X a (xM i))(K:QE X E b fb)(hs:ZZ b)(u:zQ b):QE X E (.Subscript a b pos) (KM i fb):=
 PE.weak (PE.or (BR M J K u) (BL rx J K hs)) λZ H Q N=>by
  obtain⟨B,F,sd,r,n⟩:=N;unfold KM at n
  split at n
  .rename_i p d O;obtain⟨l,v,S,T,A,_⟩:=r.own O;cases d with
   |lst ds =>
    obtain⟨L,C,G⟩:=A;refine .inr ⟨.ref l,v,B,F,sd,r,(ja n).mono (λy h w j s g t=>?_) λ_ _ q=>q⟩;obtain⟨z,hz,q⟩:=jh h;cases y with
    |int k =>
     obtain⟨x,I,ix⟩:=C5 G (hz);exact⟨l,L,k,x,rfl,je.mp t,qs.of (g.hh _ _ C),I,q _ j s g (jg.same g.ff _ _ ix)⟩
    |_=>exact J5 hz
   |dct ks ds =>
    obtain⟨L,C,G,P⟩:=A;refine .inl ⟨.ref l,v,B,F,sd,r,(ja n).mono (λy h w j s g t=>?_) λ_ _ q=>q⟩;obtain⟨z,hz,q⟩:=jh h;obtain⟨k,R,hz⟩:=Jg.mp (hz);obtain⟨x,I,ix⟩:=(Xq k G P).1 z hz;refine⟨l,x,rfl,?_,q x j s g (jg.same g.ff _ _ ix)⟩;rw[WL R t,<- I];exact x6.k (g.hh _ _ C)
   |ins c fs ds =>
    refine .inr ⟨.ref l,v,B,F,sd,r,(ja n).mono (λy h w j s g t=>?_) λ_ _ q=>q⟩;obtain⟨z,hz,q⟩:=jh h;cases y<;>exact J5 hz
   |_=>exact A.elim
  .exact n.elim
end
end L2.DL
namespace L2
section
variable {X:Cx}{tg iter elt c:Expr}{scope:Scope}{pos:Pos}{wi:TI}{g:TG}{te:TE}{tt:TT}
def Gi (a:X.N.Nodup)(f:X.N[iy]? = some y)(h:yM X.env.scope y)(i:X.fn y=true\/X.env.scope.names.lookup y=some .local):
 XL X Y Z (λv B=>DD.nx (Z.set iy (some v)) B) (some (assign (.Name y py) X.env)) (λ_ s'=>SP X Y DD .next s'):=λC D m j r E F N sz G H k=>by
 obtain⟨O,z,A,l,I,J⟩:=k j.heap ⟨rfl,λ_ _=>rfl⟩;obtain⟨n,q,s,K,t,u⟩:=id E;have L:Inv X (Y++[(C,n)]) Z z { j with heap:=j.heap }:=A.pins_of λp hp=>by
  rcases Jb.mp hp with hp|hp
  .exact A.pin p ()
  simp_all
 exact wpAny_assign_Name (ZT L a f h l (λP w=>(⟨m,⟨n,q,s,(w.pin (C,n) ()).1,t,u⟩,λh' x=>⟨_,z,(w.pins_of λp hp=>w.pin p ()).turned (λb o M e=>(x.2 b M).trans e) I F (.inr sz) G H,J⟩⟩)) i)
def CF (a:swapsWith (.ListComp elt [⟨tg,iter,[],0⟩] scope pos) (some (.Name y py)) spos.line X.env=pure true)(b:X.N.Nodup)(f:X.N[iy]? = some y)(i:yM X.env.scope y)(j:X.fn y=true\/X.env.scope.names.lookup y=some .local)(N)(cap)(o:X.calm=true)(l:QJ scope X.env N X.N cap=true)(p:PI X tg iter wi)(q:∀m C s H n,PG (JJ X scope N m C s H n) tg g)(t:∀m C s H n,PE (JJ X scope N m C s H n) elt te)
 (hs:∀x,foldedSetIterable iter X.env x=pure x:=by intro _;rfl):PS X (.Assign [.Name y py] (.ListComp elt [⟨tg,iter,[],0⟩] scope pos) spos) (zd (Xe cap wi g te) (KG iy)):=by
 intro Y s Z H u I h;rw[exec_Assign_Name_used _ _ _ _ a];refine Za (wpAny_standAt (Za (Za (Zc (E3 N cap o l p q () hs I h (Gi b f i j)) (λ_ s' r=>Zb (Zb r)) λ_ _ e=>e))))
def P0 (f:swapsWith (.ListComp elt [⟨tg,iter,[c],0⟩] scope pos) (some (.Name y py)) spos.line X.env=pure true)(i:X.N.Nodup)(j:X.N[iy]? = some y)(l:yM X.env.scope y)(m:X.fn y=true\/X.env.scope.names.lookup y=some .local)(N)(cap)(o:X.calm=true)(n:QJ scope X.env N X.N cap=true)(p:PI X tg iter wi)(q:∀a C s H b,PG (JJ X scope N a C s H b) tg g)(r:∀a C s H b,PT (JJ X scope N a C s H b) c tt)(t:∀a C s H b,PE (JJ X scope N a C s H b) elt te)
 (hs:∀x,foldedSetIterable iter X.env x=pure x:=by intro _;rfl):PS X (.Assign [.Name y py] (.ListComp elt [⟨tg,iter,[c],0⟩] scope pos) spos) (zd (XJ cap wi g tt te) (KG iy)):=by
 intro Y s Z H v I h;rw[exec_Assign_Name_used _ _ _ _ f];refine Za (wpAny_standAt (Za (Za (Zc (Fo N cap o n p q r t hs I h (Gi i j l m)) (λ_ s' u=>Zb (Zb u)) λ_ _ e=>e))))
end
end L2
namespace L2.DL
section
variable {X:Cx}{E:XK}{m:Option Bool}{tg iter elt c:Expr}{scope:Scope}{pos spos py:Pos}{y:Str}{iy:Nat}{t:Tg}{fi:FA}{fc:FT}{f:FE}
def CG {K:W.Frag}{a:TE}{i:Nat}{b:FE}(w:∀Z H Q,vk K E b Z H Q->a Z H Q){T:Ends}{Z: St}{H:Hp}(h:uj K E m (jy i b) T Z H):zd a (KG i) T Z H:=w _ _ _ (by
 obtain⟨B,F,sd,r,n⟩:=h;exact⟨B,F,sd,r,(ja n).mono (λd g=>y8.new λv j l e o=>(g _ j l e.ff ((r.step e).setVal o))) λ_ _ q=>q.ext r.ext⟩)
def P1 {K:W.Frag}{a:TE}{i:Nat}{b:FE}(w:∀Z H Q,vk K E b Z H Q->a Z H Q){T:Ends}{Z: St}{H:Hp}(h:uj K E m (qf i b) T Z H):zd a (KG i) T Z H:=w _ _ _ (by
 obtain⟨B,F,sd,r,n⟩:=h;refine⟨B,F,sd,r,(ja n).mono (λd g l s u e v x z=>(g _ s u e.ff ((r.step e).setOwn (Qj r.ext.hh v) x z λj p G A I=>?_))) λ_ _ q=>q.ext r.ext⟩;obtain⟨J,L,_,_,C,_⟩:=r.own A;obtain⟨o,M⟩:=C.has
 simp_all)
def CH (N)(cap)(a:X.N.Nodup)(b:X.N[iy]? = some y)(e:yM X.env.scope y)(o:X.calm=true)(g:QJ scope X.env N X.N cap=true)(p:QI X E tg iter fi)
 (r:∀i C s H j,QG (JJ X scope N i C s H j) tg t) (u:∀i C s H j,QE (JJ X scope N i C s H j) E elt f) (l:swapsWith (.ListComp elt [⟨tg,iter,[],0⟩] scope pos) (some (.Name y py)) spos.line X.env=pure true:=by rfl)
 (n:X.fn y=true\/X.env.scope.names.lookup y=some .local:=by trivial) (hs:∀x,foldedSetIterable iter X.env x=pure x:=by intro _;rfl):
 QS X E m (.Assign [.Name y py] (.ListComp elt [⟨tg,iter,[],0⟩] scope pos) spos) (jy iy (Qr cap fi t f)):=PS.weak (CF l a b e n N cap o g p r u hs) λT Z H h=>CG (λ_ _ _ q=>A0 q) h
def P3 (N:Yk)(cap:List (Option Nat))(a:X.N.Nodup)(b:X.N[iy]? = some y)(e:yM X.env.scope y)(o:X.calm=true)(g:QJ scope X.env N X.N cap=true)(p:QI X E tg iter fi)
 (r:∀i C s H j,QG (JJ X scope N i C s H j) tg t) (u:∀i C s H j,QE (JJ X scope N i C s H j) E elt f) (l:swapsWith (.ListComp elt [⟨tg,iter,[],0⟩] scope pos) (some (.Name y py)) spos.line X.env=pure true:=by rfl)
 (n:X.fn y=true\/X.env.scope.names.lookup y=some .local:=by trivial) (hs:∀x,foldedSetIterable iter X.env x=pure x:=by intro _;rfl):
 QS X E m (.Assign [.Name y py] (.ListComp elt [⟨tg,iter,[],0⟩] scope pos) spos) (qf iy (Qr cap fi t f)):=PS.weak (CF l a b e n N cap o g p r u hs) λT Z H h=>P1 (λ_ _ _ q=>A0 q) h
def P4 (N)(cap)(e:X.N.Nodup)(g:X.N[iy]? = some y)(i:yM X.env.scope y)(o:X.calm=true)(j:QJ scope X.env N X.N cap=true)(p:QI X E tg iter fi)
 (r:∀a C s H b,QG (JJ X scope N a C s H b) tg t) (u:∀a C s H b,QT (JJ X scope N a C s H b) E c fc) (v:∀a C s H b,QE (JJ X scope N a C s H b) E elt f) (l:swapsWith (.ListComp elt [⟨tg,iter,[c],0⟩] scope pos) (some (.Name y py)) spos.line X.env=pure true:=by rfl)
 (n:X.fn y=true\/X.env.scope.names.lookup y=some .local:=by trivial) (hs:∀x,foldedSetIterable iter X.env x=pure x:=by intro _;rfl):
 QS X E m (.Assign [.Name y py] (.ListComp elt [⟨tg,iter,[c],0⟩] scope pos) spos) (jy iy (WM cap fi t fc f)):=PS.weak (P0 l e g i n N cap o j p r u v hs) λT Z H h=>CG (λ_ _ _ q=>Gd q) h
end
def Gj:Option (Option SV)->Res D
 |some (some (.val d))=>.ok d
 |_=>.no
@[simp]def ph (d):Gj (some (some (.val d)))=.ok d:=rfl
@[simp]def nF (i)(sd):jb i sd=Gj sd[i]?:= rfl
@[simp]def cP (d)(sd):dC d sd=.ok d:=rfl
@[simp]def si (g)(fa fb)(sd):jf g fa fb sd=(fa sd).bind λx=>(fb sd).bind λy=>.ofO (g x y):=rfl
@[simp]def sf (g)(fa)(sd):qX g fa sd=(fa sd).bind λx=>.ofO (g x):=rfl
def sr:D->Res Bool
 | .bl b=>.ok b
 |_=>.no
@[simp]def ra (b):sr (.bl b)=.ok b:=rfl
@[simp]def bB (fa)(sd):JE fa sd=(fa sd).bind sr:=by
 rfl
@[simp]def bt (f)(sd):Ku f sd=(f sd).bind λb=>.ok (!b):=rfl
@[simp]def bD (f g)(sd):Xl f g sd=(f sd).bind λb=>if b then g sd else .ok false:=rfl
@[simp]def nN (f g)(sd):wE f g sd=(f sd).bind λb=>if b then .ok true else g sd:=rfl
@[simp]def bC (fa fb)(sd):Y0 fa fb sd=(JE fa sd).bind λb=>if b then fb sd else .ok (.bl false):=rfl
@[simp]def nM (a c:FE)(sd:SD):wD a c sd=(JE a sd).bind λb=>if b then .ok (.bl true) else c sd:=rfl
@[simp]def br (fa)(sd):Cs fa sd=(JE fa sd).bind λb=>.ok (.bl !b):=rfl
@[simp]def nO (sd):jc sd=.ok []:=rfl
@[simp]def b8 (fa)(fr)(sd):J0 fa fr sd=(fa sd).bind λx=>(fr sd).bind λa=>.ok (x::a):=rfl
@[simp]def nP (fr)(sd):qG fr sd=(fr sd).bind λa=>if a.length<=1000 then .ok (.lst a) else .no:=rfl
@[simp]def nG (fr)(sd):xh fr sd=(fr sd).bind λa=>if a.length<=1000 then .ok (.tup a) else .no:=rfl
@[simp]def bA (Fn)(fr)(sd):J6 Fn fr sd=(fr sd).bind Fn:=rfl
@[simp]def nU (g)(fr)(sd):jt g fr sd=(fr sd).bind λa=>.ofO (g a):=rfl
@[simp]def bI {α: Type}(a:α):(Res.ok a).bare=.ok a:=rfl
@[simp]def nH (is)(f)(sd):ye is f sd=(f (jW is sd)).bare.bind λd=>if K7 d then .ok d else .no:=rfl
@[simp]def uz (i):K7 (.int i)=true:=rfl
@[simp]def fY (i):K7 (.bl i)=true:=rfl
@[simp]def gk (sd):jW [] sd=sd:=rfl
def frz1 (i:Nat)(sd:SD):Option (Option SV)->SD
 |some (some (.own _ d))=>sd.set i (some (.val d))
 |_=>sd
@[simp]def gm (i)(sd)(p)(d):frz1 i sd (some (some (.own p d)))=sd.set i (some (.val d)):=rfl
@[simp]def p6 (i)(is)(sd):jW (i::is) sd=jW is (frz1 i sd sd[i]?):=by
 rfl
def xN (g:FS):Out->Res Out
 | .next sd=>g sd
 |o=>.ok o
@[simp]def p0 (g)(sd):xN g (.next sd)=g sd:=rfl
@[simp]def uv (g)(d):xN g (.ret d)=.ok (.ret d):=rfl
@[simp]def uw (g)(d):xN g (.brk d)=.ok (.brk d):=rfl
@[simp]def P5 (g1 g2)(sd):jj g1 g2 sd=(g1 sd).bind (xN g2):=by
 rfl
@[simp]def bu (sd):JT sd=.ok (.next sd):=rfl
@[simp]def nT (sd):vn sd=.ok (.brk sd):=rfl
@[simp]def nI (i)(f)(sd):jy i f sd=(f sd).bind λd=>.ok (.next (sd.set i (some (.val d)))):=rfl
@[simp]def nL (i)(f)(sd):qf i f sd=(f sd).bind λd=>.ok (.next (sd.set i (some (.own false d)))):=rfl
@[simp]def nK (f)(sd):j4 f sd=(f sd).bind λd=>.ok (.ret d):=rfl
def vp:Option (Option SV)->Res D
 |some (some (.own _ d))=>.ok d
 |_=>.no
@[simp]def uV (p)(d):vp (some (some (.own p d)))=.ok d:=rfl
@[simp]def pz (i)(sd):Kb i sd=(vp sd[i]?).bind λd=>.ok (.ret d):=by
 unfold Kb;cases sd[i]? with
 |none=>rfl
 |some o =>
  cases o with
  |none=>rfl
  |some v=>cases v<;>rfl
@[simp]def nQ (c)(g1 g2)(sd):qJ c g1 g2 sd=(c sd).bind λb=>if b then g1 sd else g2 sd:=rfl
def wu:Option (Option SV)->Res YG
 |some (some (.own false (.lst ds)))=>.ok ds
 |_=>.no
@[simp]def uW (ds):wu (some (some (.own false (.lst ds))))=.ok ds:=rfl
@[simp]def cU (i)(f)(sd):QL i f sd=(wu sd[i]?).bind λds=>(f sd).bind λd=>if ds.length<sizeLine then .ok (.next (sd.set i (some (.own false (.lst (ds++[d])))))) else .no:=by
 unfold QL;cases sd[i]? with
 |none=>rfl
 |some o =>
  cases o with
  |none=>rfl
  |some v =>
   cases v with
   |val d=>rfl
   |own p d=>cases p<;>cases d<;>rfl
def Gk:D->Res YG
 | .lst es=>.ok es
 |_=>.no
@[simp]def cX (es):Gk (.lst es)=.ok es:=rfl
@[simp]def pc (i)(f)(sd):Xo i f sd=(wu sd[i]?).bind λds=>(f sd).bind λd=>(Gk d).bind λes=>if ds.length+es.length<=sizeLine then .ok (.next (sd.set i (some (.own false (.lst (ds++es)))))) else .no:=by
 unfold Xo;cases sd[i]? with
 |none=>rfl
 |some o =>
  cases o with
  |none=>rfl
  |some v =>
   cases v with
   |val d=>rfl
   |own p d =>
    cases p with
    |true=>cases d<;>rfl
    |false =>
     cases d with
     |lst ds =>
      cases f sd with
      |ok x=>cases x<;>rfl
      |ex c fs=>rfl
      |no=>rfl
     |_=>rfl
def uY:Option (Option SV)->Res (List jA×YG)
 |some (some (.own false (.dct ks ds)))=>.ok (ks,ds)
 |_=>.no
@[simp]def uX (ks)(ds):uY (some (some (.own false (.dct ks ds))))=.ok (ks,ds):=rfl
@[simp]def b7 (i)(fk fv)(sd):Y9 i fk fv sd=(fv sd).bind λv=>(uY sd[i]?).bind λo=>(fk sd).bind λk=>(Res.ofO (QC k)).bind λq=>if o.1.length<sizeLine then .ok (.next (sd.set i (some (.own false (.dct (V0 o.1 q) (Wl o.1 o.2 q v)))))) else .no:=by
 unfold Y9;cases fv sd with
 |ok v =>
  cases sd[i]? with
  |none=>rfl
  |some o =>
   cases o with
   |none=>rfl
   |some w =>
    cases w with
    |val d=>rfl
    |own p d =>
     cases p with
     |true=>cases d<;>rfl
     |false =>
      cases d with
      |dct ks ds =>
       cases fk sd with
       |ok k=>show(match QC k with|some q=>_|none=>_)=(Res.ofO (QC k)).bind _;cases QC k<;>rfl
       |ex c fs=>rfl
       |no=>rfl
      |_=>rfl
 |ex c fs=>rfl
 |no=>rfl
def xt:Out->Res D
 | .ret d=>.ok d
 | .next _=>.ok .non
 |_=>.no
@[simp]def uZ (d):xt (.ret d)=.ok d:=rfl
def AB (n ar)(g)(ds)(h:ds.length=ar):jE n ar g ds=(g (Qf n ds)).bind xt:=by
 unfold jE;rw[Zd h];rfl
def xO:Out->Res D
 | .ret d=>.ok d
 |_=>.no
@[simp]def ka (d):xO (.ret d)=.ok d:=rfl
def Gm (n ar)(g)(ds)(h:ds.length=ar):qc n ar g ds=(g (Qf n ds)).bind xO:=by
 unfold qc;rw[Zd h];rfl
@[simp]def m9 (n)(g)(a):jE n 1 g [a]=(g (some (.val a)::List.replicate (n-1) none)).bind xt:=AB n 1 g [a] rfl
@[simp]def m8 (n)(g)(a b):jE n 2 g [a,b]=(g (some (.val a)::some (.val b)::List.replicate (n-2) none)).bind xt:=rfl
@[simp]def m7 (n)(g)(a b c):jE n 3 g [a,b,c]=(g (some (.val a)::some (.val b)::some (.val c)::List.replicate (n-3) none)).bind xt:=rfl
@[simp]def m6 (n:Nat)(g:FS)(a b c d:D):jE n 4 g [a,b,c,d]=(g (some (.val a)::some (.val b)::some (.val c)::some (.val d)::List.replicate (n-4) none)).bind xt:=AB n 4 g [a,b,c,d] rfl
@[simp]def mz (n)(g)(a):qc n 1 g [a]=(g (some (.val a)::List.replicate (n-1) none)).bind xO:=Gm n 1 g [a] rfl
@[simp]def my (n)(g)(a b):qc n 2 g [a,b]=(g (some (.val a)::some (.val b)::List.replicate (n-2) none)).bind xO:=rfl
@[simp]def mx (n)(g)(a b c):qc n 3 g [a,b,c]=(g (some (.val a)::some (.val b)::some (.val c)::List.replicate (n-3) none)).bind xO:=rfl
@[simp]def mw (n:Nat)(g:FS)(a b c d:D):qc n 4 g [a,b,c,d]=(g (some (.val a)::some (.val b)::some (.val c)::some (.val d)::List.replicate (n-4) none)).bind xO:=Gm n 4 g [a,b,c,d] rfl
@[simp]def gj (i j):ju (.int i) (.int j)=some (.int (i+j)):=rfl
@[simp]def kR (i j):yb (.int i) (.int j)=some (.int (i-j)):=rfl
@[simp]def kW (i):xy (.int i)=some (.int (-i)):=rfl
@[simp]def hJ (i j):hO (.int i) (.int j)=some (.bl (decide (i<j))):=rfl
@[simp]def hV (i j:Int):wb (.int i) (.int j)=some (.bl (decide (i<=j))):=rfl
@[simp]def bg (i j):vF (.int i) (.int j)=some (.bl (decide (j<i))):=rfl
@[simp]def gi (i j):xK (.int i) (.int j)=some (.bl (decide (i=j))):=OU i j
@[simp]def kX (i j):zj (.int i) (.int j)=some (.bl (!decide (i=j))):=OV i j
@[simp]def n0 (a b:Bool):zj (.bl a) (.bl b)=some (.bl (a != b)):=rfl
def WN (h:Kl i j=true):qD (.int i) (.int j)=some (.int (i*j)):=by
 show(if Kl i j then _ else _)=_
 simp_all
def CI (a: -18446744073709551616<j)(b:j<18446744073709551616):Kl i j=true:=by
 unfold Kl;rw[U8,U8,UJ,UJ];lia
def CJ (a: -18446744073709551616<i)(b:i<18446744073709551616):Kl i j=true:=by
 unfold Kl;rw[U8,U8,UJ,UJ];lia
def P6 (a:i.natAbs<yF)(b:j.natAbs<yF):Kl i j=true:=by
 simp_all [Kl]
@[simp]def Xu (h:0<j):jF (.int i) (.int j)=some (.int (i % j)):=by
 show(if UI 0 j.toNat then _ else _)=_;rw[Zd (by rw[UJ];lia)]
@[simp]def YM (h:0<j)(a:j<1073741824):Qk (.int i) (.int j)=some (.int (i / j)):=by
 show(if UI 0 j.toNat&&UI j.toNat 1073741824 then _ else _)=_;rw[Zd (by rw[Ue,UJ,UJ];lia)]
@[simp]def CK (ds):jP [.lst ds]=some (.int ds.length):=rfl
@[simp]def kZ (ds:YG):jP [.tup ds]=some (.int ds.length):=rfl
@[simp]def cR (i j):Wm [.int i,.int j]=some (.int (if j > i then j else i)):=rfl
@[simp]def pr (ds):Qu [.lst ds]=some (.lst ds):=rfl
@[simp]def pF (ds):Wn [.lst ds]=some (.tup ds):=rfl
@[simp]def hZ (ds)(k):j6 (.lst ds) (.int k)=qh ds k:=rfl
@[simp]def hW (ds:YG)(k:Int):j6 (.tup ds) (.int k)=qh ds k:=rfl
@[simp]def P7 (ns)(k):j6 (.scr ns) (.int k)=(qh ns k).map .int:=rfl
@[simp]def ba (ks)(ds)(k):j6 (.dct ks ds) (.int k)=jG ks ds (.inl k):=rfl
@[simp]def bf (neg)(ks)(ds)(k):w5 neg (.int k) (.dct ks ds)=some (.bl (if neg then !(jG ks ds (.inl k)).isSome else(jG ks ds (.inl k)).isSome)):=rfl
@[simp]def p3 (k):QC (.int k)=some (.inl k):=rfl
@[simp]def Gn (h:r.length<=100)(o:jB r):Xs [jq r]=some (y7 r):=by
 show(Kv (jq r)).bind _=_;rw[FD];show(if r.length<=100 then some (y7 (Xr r)) else none)=_;rw[Zd h,Pk o]
def P8 (h:ns ≠ []):Y7 [.lst (ns.map .int)]=some (.int (qC ns)):=by
 simp_all [Y7,FY]
def P9 (h:ns ≠ []):Y8 [.lst (ns.map .int)]=some (.int (xc ns)):=by
 simp_all [Y8,FY]
theorem CL:∀{r:Jy},jB r->∀t:Int,jG (r.map λp=>.inl p.1) (r.map λp=>.int p.2) (.inl t)=(JB r t).map .int
 | [],_,t=>rfl
 |p::r,o,t=>by
  have a:jB r:=by simp_all [jB]
  have n:p.1∉r.map (·.1):=by simp_all [jB]
  rw[Zl,Zl,C4,Aq];by_cases h:p.1=t
  .cases q:JB r t with
   |none=>simp_all
   |some w=>exact Zn (Ja.mpr ⟨(t,w),Qi q,h.symm⟩) n
  .rw[Ze (λz=>h (by injection z)),CL a t]
   grind
def Go:D->Res (List jA×YG)
 | .dct ks ds=>.ok (ks,ds)
 |_=>.no
@[simp]def pi (ks)(ds):Go (.dct ks ds)=.ok (ks,ds):=rfl
@[simp]def b5 (fo fk fx)(sd):A9 fo fk fx sd=(fo sd).bind λd=>(Go d).bind λo=>(fk sd).bind λk=>(fx sd).bind λx=>.ofO ((QC k).map λq=>(jG o.1 o.2 q).getD x):=by
 unfold A9;cases fo sd with
 |ok d=>cases d<;>rfl
 |ex c fs=>rfl
 |no=>rfl
def PF (r:Jy)(t):yC (.inl t) (r.map λp=>.inl p.1)=r.any λp=>decide (p.1=t):=by
 grind[yC,List.any_map]
def PH (r)(t w):D.dct (V0 (r.map λp=>.inl p.1) (.inl t)) (Wl (r.map λp=>.inl p.1) (r.map λp=>.int p.2) (.inl t) (.int w))=y7 (qB r t w):=by
 unfold V0 Wl y7 qB;rw[PF];have ch:∀r:Jy,zl (r.map λp=>.inl p.1) (r.map λp=>.int p.2) (.inl t) (.int w)=(r.map λp=>if p.1=t then(p.1,w) else p).map λp=>D.int p.2:=by
  intro r
  induction r with
  |nil=>rfl
  |cons p r a =>
   rw[Zl,Zl,Zl,Zl,FJ,a];by_cases h:p.1=t
   .rw[Zd (by rw[h]),Zd h]
   .rw[Ze (λz=>h (by injection z)),Ze h]
 have b:∀r:Jy,(r.map λp=>if p.1=t then(p.1,w) else p).map (λp=>(Ud p.1:jA))=r.map λp=>.inl p.1:=by
  intro r;rw[Zw]
  congr 1
  funext p
  show(Ud (if p.1=t then(p.1,w) else p).1:jA)=_;by_cases h:p.1=t
  .rw[Zd h]
  .rw[Ze h]
 by_cases q:(r.any λp=>decide (p.1=t))=true
 .rw[Zd q,Zd q,Zd q,ch,b]
 .rw[Ze q,Ze q,Ze q,Uc,Uc];rfl
@[simp]def pZ (fo)(sd):CC fo sd=(fo sd).bind λd=>.ofO (CB d):=rfl
def PJ (h:r ≠ [])(a:r.length<1000):CB (y7 r)=some (.lst ((JQ jV r).map qd)):=by
 show(YL _ _).bind _=_
 simp_all [Pw]
@[simp]def sk (f)(sd):iS f sd=(f sd).bind λd=>.ofO (Kf d):=rfl
@[simp]def pO (ds):Kf (.lst ds)=some ds:=rfl
@[simp]def pp (ds):Kf (.tup ds)=some ds:=rfl
def KN:YG->Res YG
 | [.int j]=>if Xt j then .ok (JV 0 j.toNat) else .no
 |_=>.no
@[simp]def nR (fr)(sd):yB fr sd=(fr sd).bind KN:=by
 rfl
def Wo (a: -1000000000<=j)(b:j<=1000000000):KN [.int j]=.ok (JV 0 j.toNat):=Zd (Ps a b)
def YN {lo:Int}{n i:Nat}{x:D}(h:(JV lo n)[i]? = some x):x=.int (lo+i)/\i<n:=by
 grind[JV,List.getElem?_map,List.length_range]
def V4 (lo)(n):(JV lo n).length=n:=by unfold JV;simp
def qE (tg:Tg)(b:FS)(ds:YG)(sd:SD):Res Out:=yr (λx sd=>(JO tg x sd).bind b) ds sd
@[simp]def nS (it)(tg)(b)(sd):jK it tg b sd=(it sd).bind λds=>qE tg b ds sd:=rfl
@[simp]def gn (tg:Tg)(b:FS)(sd:SD):qE tg b [] sd=.ok (.next sd):=rfl
@[simp]def PK (i)(d)(sd):JO (.one i) d sd=.ok (sd.set i (some (.val d))):=rfl
@[simp]def cW (i j)(a b)(sd):JO (.tup [i,j]) (.tup [a,b]) sd=.ok ((sd.set i (some (.val a))).set j (some (.val b))):=rfl
@[simp]def pE (i j)(p)(sd):JO (.tup [i,j]) (qd p) sd=.ok ((sd.set i (some (.val (.int p.1)))).set j (some (.val (.int p.2)))):=rfl
def Kc (P:Nat->SD->Prop)(l:P 0 sd)(hs:∀i (x:D) sd,ds[i]? = some x->P i sd->∃sd',(JO tg x sd).bind b=.ok (.next sd')/\P (i+1) sd'):∃sd',qE tg b ds sd=.ok (.next sd')/\P ds.length sd':=by
 have c:∀k i sd,ds.length-i=k->i<=ds.length->P i sd->∃sd',qE tg b (ds.drop i) sd=.ok (.next sd')/\P ds.length sd':=by
  intro k
  induction k with
  |zero =>
   intro i sd e f p;have:i=ds.length:=()
   simp_all
  |succ k g =>
   intro i sd e f p;have a:i<ds.length:=()
   rw[Uu a];obtain⟨sd',m,h⟩:=hs i ds[i] sd () p;have ⟨j,n,o⟩:=g (i+1) sd' () a h
   simp_all [qE,yr]
 grind
def AC (R:Res Out->Prop)(P:Nat->SD->Prop)(j:P 0 sd)(l:∀sd,P ds.length sd->R (.ok (.next sd)))
 (hs:∀i x sd,ds[i]? = some x->P i sd->(∃sd',((JO tg x sd).bind b=.ok (.next sd')\/(JO tg x sd).bind b=.ok (.cont sd'))/\P (i+1) sd')\/(∃sd',(JO tg x sd).bind b=.ok (.brk sd')/\R (.ok (.next sd')))\/∃d,(JO tg x sd).bind b=.ok (.ret d)/\R (.ok (.ret d))):R (qE tg b ds sd):=by
 have g:∀k i sd,ds.length-i=k->i<=ds.length->P i sd->R (qE tg b (ds.drop i) sd):=by
  intro k
  induction k with
  |zero =>
   intro i sd e h p;have:i=ds.length:=()
   simp_all
  |succ k f =>
   intro i sd e h p;have a:i<ds.length:=()
   rw[Uu a];unfold qE yr;rcases hs i ds[i] sd () p with ⟨sd',h1|h1,c⟩|⟨sd',h1,c⟩|⟨d,h1,c⟩
   .rw[h1];exact f (i+1) sd' () a c
   .rw[h1];exact f (i+1) sd' () a c
   .rwa [h1]
   .rwa [h1]
 grind
def Gp {α β γ: Type}{f:α -> Res β}{k:γ -> α}{g:γ -> β}{a:List γ}(h:∀x∈a,f (k x)=.ok (g x)):ya f (a.map k)=.ok (a.map g):=by
 induction a with
 |nil=>rfl
 |cons x a b =>
  simp_all [ya]
def jQ (tg:Tg)(f:FE)(c:SD)(ds:YG):Res YG:=ya (λx=>(JO tg x c).bind f) ds
@[simp]def b9 (cap)(it)(tg)(f)(sd):Qr cap it tg f sd=(it sd).bind λds=>if Ux (jY cap sd) tg=true/\ds.length<sizeLine then(jQ tg f (jY cap sd) ds).bind λys=>.ok (.lst ys) else .no:=rfl
def f7:Option (Option SV)->Option SV
 |some (some (.val d))=>some (.val d)
 |_=>none
@[simp]def f6 (d):f7 (some (some (.val d)))=some (.val d):=rfl
@[simp]def f8 (sd):jY [] sd=[]:=rfl
@[simp]def nZ (cap)(sd):jY (none::cap) sd=none::jY cap sd:=rfl
@[simp]def nY (j)(cap)(sd):jY (some j::cap) sd=f7 sd[j]? :: jY cap sd:=rfl
@[simp]def pC (sd)(i):Ux sd (.one i)=Um sd i:=rfl
@[simp]def p7 (sd)(is):Ux sd (.tup is)=is.all (Um sd):=rfl
@[simp]def kt (sd:SD):Um (none::sd) 0=true:=rfl
@[simp]def kr (o)(sd:SD)(i):Um (o::sd) (i+1)=Um sd i:=rfl
def Kw {α: Type}{k:α -> D}{g:α -> D}{a:List α}(h:∀x∈a,(JO tg (k x) c).bind f=.ok (g x)):jQ tg f c (a.map k)=.ok (a.map g):=Gp h
def YO {tg:Tg}{f:FE}{c:SD}{lo:Int}{n:Nat}{g:Nat->D}(h:∀i,i<n->(JO tg (.int (lo+i)) c).bind f=.ok (g i)):jQ tg f c (JV lo n)=.ok ((List.range n).map g):=Gp ()
@[simp]def pN (cap)(it)(tg)(c)(f)(sd):WM cap it tg c f sd=(it sd).bind λds=>if Ux (jY cap sd) tg=true/\ds.length<sizeLine then(KL tg c f (jY cap sd) ds).bind λys=>.ok (.lst ys) else .no:=rfl
def CM {α: Type}{k:α -> D}{s:α -> SD}{p:α -> Bool}{g:α -> D}{a:List α}(b:∀x∈a,JO tg (k x) sd=.ok (s x))(e:∀x∈a,c (s x)=.ok (p x))(h:∀x∈a,p x=true->f (s x)=.ok (g x)):
 KL tg c f sd (a.map k)=.ok ((a.filter p).map g):=by
 induction a with
 |nil=>rfl
 |cons x a i =>
  grind[KL,List.map_cons,List.filter_cons,jz]
def Qc (h:n<=1000):n<sizeLine:=Ey h
@[simp]def pT (i):jS [.int i,.ty "bool"]=some (.bl false):=rfl
@[simp]def pK (i):jS [.int i,.ty "int"]=some (.bl true):=rfl
@[simp]def pR (i:Int):jS [.int i,.ty "str"]=some (.bl false):=rfl
@[simp]def pS (ds:YG):jS [.lst ds,.ty "bool"]=some (.bl false):=rfl
@[simp]def pI (ds:YG):jS [.lst ds,.ty "int"]=some (.bl false):=rfl
@[simp]def pQ (ds:YG):jS [.lst ds,.ty "str"]=some (.bl false):=rfl
@[simp]def pW (ds:YG):jS [.lst ds,.ty "list"]=some (.bl true):=rfl
@[simp]def lf (ds:YG):jS [.lst ds,.ty "tuple"]=some (.bl false):=rfl
@[simp]def lb (ds:YG):jS [.tup ds,.ty "bool"]=some (.bl false):=rfl
@[simp]def pH (ds:YG):jS [.tup ds,.ty "int"]=some (.bl false):=rfl
@[simp]def pU (ds:YG):jS [.tup ds,.ty "str"]=some (.bl false):=rfl
@[simp]def pV (ds:YG):jS [.tup ds,.ty "list"]=some (.bl false):=rfl
@[simp]def lc (ds:YG):jS [.tup ds,.ty "tuple"]=some (.bl true):=rfl
def Qv {α: Type}(a:List α)(lo b st:Option Int):List α:= (sliceRange (sliceBounds lo b st a.length).1 (sliceBounds lo b st a.length).2.1 (sliceBounds lo b st a.length).2.2).filterMap (a[·]?)
def Gq (its)(lo hi st):slicePick its.toArray lo hi st=(Qv its lo hi st).toArray:=by
 simp_all [slicePick,Qv]
def PL {a:YE}{its:Yf}(r:jv a its)(lo hi st):jv (Qv a lo hi st) (Qv its lo hi st):=by
 unfold Qv;rw[r.length];generalize sliceRange _ _ _=ix
 induction ix with
 |nil=>exact .nil
 |cons i ix c =>
  rw[UV,UV];cases b:a[i]? with
  |none=>rwa [r.none_of b]
  |some x =>
   obtain⟨u,e,f⟩:=r.get b;rw[e];exact .cons f c
def PM {K:W.Frag}{H:Hp}{ds:YG}{a:YE}(r:jd K H ds a)(lo hi st):jd K H (Qv ds lo hi st) (Qv a lo hi st):=by
 unfold Qv;rw[r.length];generalize sliceRange _ _ _=ix
 induction ix with
 |nil=>rfl
 |cons i ix b =>
  rw[UV,UV];cases c:ds[i]? with
  |none =>
   have e:a[i]? = none:=List.getElem?_eq_none_iff.mpr (by rw[r.length];simp_all)
   rwa [e]
  |some x =>
   obtain⟨u,f,g⟩:=r.get c;rw[f];exact .mk g b
def Gr {α β: Type}(f:α -> β)(xs)(lo hi st):Qv (xs.map f) lo hi st=(Qv xs lo hi st).map f:=by
 grind[Qv,Zql,List.filterMap_cons,List.getElem?_map]
def PN {α: Type}(a:List α)(lo hi st):(Qv a lo hi st).length<=a.length:=by
 have h:=slicePick_size_le (a.map λ_=>Value.none).toArray lo hi st
 simp_all [Gq,Gr]
section
variable {X:Cx}{E:XK}{m:Option Bool}{a b o i e f tg:Expr}{fa fb fo fi fv fe:FE}{fr:FA}{pos pos' apos cpos p p2:Pos}{lo hi st:Option Expr}
abbrev FO:=SD->Res (Option Int)
def c3 (K:W.Frag)(E:XK)(f:FO):TO:=λZ H Q=>∃B F sd,RS K B F H sd Z /\ (f sd).need (λo=>∀g c,Ext F H g c->Q o c) (XW K E F H)
def Xv:FO:=λ_=>.ok none
def AD (f:FE):FO:=λsd=>(f sd).bind λd=>match d with
 | .int i=>.ok (some i)
 |_=>.no
abbrev QO (X:Cx)(E:XK)(e:Option Expr)(f:FO):Prop:=PO X e (c3 X.K E f)
def PO.weak {e:Option Expr}{t t':TO}(h:PO X e t)(w:∀Z H Q,t' Z H Q->t Z H Q):PO X e t':=λY s Z H Q I q=>h Y s Z H Q I (w _ _ _ q)
def AE:QO X E none Xv:=PO.weak Nd λZ H Q ⟨B,F,sd,r,n⟩=>n F H (.refl r.ext.fh)
def Gs (h:QE X E e fe):QO X E (some e) (AD fe):=PO.weak (Nf h) λZ H Q g=>by
 obtain⟨B,F,sd,r,n⟩:=g;refine⟨B,F,sd,r,(ja n).mono (λd c v j l s t=>?_) λ_ _ q=>q⟩;cases d with
 |int i=>exact⟨i,je.mp t,c j l s⟩
 |_=>exact c.elim
def mD (K:W.Frag):V->Option Int->Option Int->Option Int->Hp->VK->Prop:=λx lo hi st H Q=>∃a c,x=.ref a/\qs K H a c/\st≠some 0/\∀p,H p=none->Q (.ref p) (upd H p (.lst (Qv c lo hi st)))
def mf (r:V->Option Int->Option Int->Option Int->Hp->VK->Prop)(g:TE)(h j ts:TO):TE:=λZ H Q=>g Z H λx n=>h Z n λl q=>j Z q λu s=>ts Z s λc t=>r x l u c t Q
def PP {t:TE}{w y ts:TO}(G:PE X e t)(J:PO X lo w)(K:PO X hi y)(hs:PO X st ts):PE X (.Subscript e (.Slice lo hi st p2) pos) (mf (mD X.K) t w y ts):=by
 intro Y s Z H Q I h;refine Subscript_ (jH (G Y s Z H _ I h) λv L ⟨x,M,N,O,P⟩=>(wpAny_Slice (jH (J Y L Z M _ N P) λz R ⟨l,S,T,pl,U⟩=>jH (K Y R Z S _ T U) λA s3 ⟨u,H3,I3,pu,q3⟩=>jH (hs Y s3 Z H3 _ I3 q3) λB g ⟨c,H4,I4,ps,q4⟩=>?_)));obtain⟨a,C,rfl,hx,h0,q⟩:=q4;obtain rfl:=O;have j:Inv X Y Z H4 { g with heap:=g.heap.push { cls:=.type "slice",data:=.fields #[z,A,B] } }:=I4.kept λb ob q=>Zq _ q;obtain⟨its,r,n,hz⟩:=j.list hx;have F:=r.length
 suffices fin:YI X (getItem (.ref a) (.ref g.heap.objs.size)) (EP X Y Z Q) X.xe { g with heap:=g.heap.push { cls:=.type "slice",data:=.fields #[z,A,B] } } by
  cases st with
  |none=>exact tail_any n.isList.typeIs slot_list_getitem.lookup fin (by rfl)
  |some c=>exact tail_any n.isList.typeIs slot_list_getitem.lookup fin (by rfl)
 refine wpAny_getItem_list_slice n.isList (Heap.IsSliceOf.new ..) pl pu ps h0 ?_ ();rw[Gq];exact⟨.ref _,_,j.laid (o:=.lst (Qv C l u c)) (λb ob q=>Zq _ q) (Zf _) ⟨Zh (PN C l u c) hz,_,0,PL r l u c,Zr _ rfl⟩,rfl,q _ (j.hok.fresh (Zf _))⟩
def ny:D->Option Int->Option Int->Option Int->YH
 | .lst ds,lo,hi,st=>if st=some 0 then none else some (.lst (Qv ds lo hi st))
 | .scr ns,lo,hi,st=>if st=some 0 then none else some (.lst ((Qv ns lo hi st).map .int))
 |_,_,_,_=>none
def bG (fe:FE)(g j fs:FO):FE:=λsd=>(fe sd).bind λd=>(g sd).bind λl=>(j sd).bind λh=>(fs sd).bind λc=>.ofO (ny d l h c)
def Gu {A C fs:FO}(J:QE X E e fe)(K:QO X E lo A)(L:QO X E hi C)(hs:QO X E st fs):QN X E (.Subscript e (.Slice lo hi st p2) pos) (bG fe A C fs):=PE.weak (PP J K L hs) λZ H Q M=>by
 obtain⟨B,F,sd,r,n⟩:=M;refine⟨B,F,sd,r,(ja n).mono (λd N v O H1 j G=>⟨B,O,sd,r.step j,(ja N).mono (λl P R H2 s=>(⟨B,R,sd,(r.step j).step s,(ja P).mono (λh S T H3 w=>⟨B,T,sd,((r.step j).step s).step w,(ja S).mono (λc U I H4 t=>?_) λ_ _ q=>q.ext ((j.trans s).trans w)⟩) λ_ _ q=>q.ext (j.trans s)⟩)) λ_ _ q=>q.ext j⟩) λ_ _ q=>q⟩;obtain⟨z,hz,q⟩:=jh U;have g:=((s.trans w).trans t);have u:=j.trans g;cases d with
 |lst ds =>
  have hz:(if c=some 0 then none else some (D.lst (Qv ds l h c)))=some z:=hz
  split at hz
  .exact J5 hz
  .rename_i x;obtain rfl:=Zqi hz;obtain⟨a,Y,rfl,y,h2⟩:=G;exact⟨a,Y,rfl,((y.same g.ff).same g.fh).sq,x,λp hp=>q p I _ (u.trans (.keep t.fh hp _)) (Qj u.hh hp) (Qj t.fh hp) ⟨_,JL,PM (jd.same g.ff _ _ h2) l h c⟩⟩
 |scr ns =>
  have hz:(if c=some 0 then none else some (D.lst ((Qv ns l h c).map .int)))=some z:=hz
  split at hz
  .exact J5 hz
  .rename_i x;obtain rfl:=Zqi hz;obtain⟨a,rfl,y⟩:=G;refine⟨a,_,rfl,jk.seq g.fh (jk.seq g.ff y),x,λp hp=>q p I _ (u.trans (.keep t.fh hp _)) (Qj u.hh hp) (Qj t.fh hp) ⟨_,JL,?_⟩⟩;rw[Gr];exact qi _
 |_=>exact J5 hz
@[simp]def sg (fe)(fl fh fs)(sd):bG fe fl fh fs sd=(fe sd).bind λd=>(fl sd).bind λl=>(fh sd).bind λh=>(fs sd).bind λc=>.ofO (ny d l h c):=rfl
@[simp]def pe (sd):Xv sd=.ok none:=rfl
def CN:D->Res (Option Int)
 | .int i=>.ok (some i)
 |_=>.no
@[simp]def pA (i):CN (.int i)=.ok (some i):=rfl
@[simp]def bq (f)(sd):AD f sd=(f sd).bind CN:=by
 rfl
@[simp]def kT (ds)(lo hi):ny (.lst ds) lo hi none=some (.lst (Qv ds lo hi none)):=rfl
def KO (i:Nat)(c fv:FE):FS:=λsd=>(fv sd).bind λv=>match sd[i]? with
 |some (some (.own false (.lst ds)))=>(c sd).bind λk=>match k with
  | .int k=>match xJ ds.length k with
   |some j=>.ok (.next (sd.set i (some (.own false (.lst (ds.set j v))))))
   |none=>.no
  |_=>.no
 |_=>.no
def CO {j:Nat}(A:PE X o (xM j))(hi:QE X E i fi)(C:QE X E e fv)(G:∀v,assign (.Subscript o i pos') X.env v=(do
 let s <- holding [v] (eval o X.env)
 let u <- holding [v,s] (eval i X.env)
 standAt pos'
 holding [v,s,u] (setItem s u v)
 release [v,s,u] []):=by intro _;rfl) (hs:swapsWithSole [.Subscript o i pos'] e pos.line X.env=pure false:=by rfl) (I:swappedStores [.Subscript o i pos'] e X.env=pure none:=by rfl)
 (t:(assignEach [.Subscript o i pos'] X.env).map (·.2)=[assign (.Subscript o i pos') X.env]:=by rfl):QS X E m (.Assign [.Subscript o i pos'] e pos) (KO j fi fv):=PS.weak (Mp C (Mo A hi Nk G) hs I t) λT Z H J=>by
 obtain⟨B,F,sd,r,n⟩:=J;refine⟨B,F,sd,r,(ja n).mono (λd x v K Q c L=>?_) λ_ _ q=>q.ext r.ext⟩
 split at x
 .rename_i ds y;obtain⟨l,t,R,S,⟨M,N,z⟩,_⟩:=(r.step c).own y;refine⟨.ref l,t,B,K,sd,r.step c,(ja x).mono (λk g w O U h P=>?_) λ_ _ q=>q.ext (r.step c).ext⟩
  split at g
  .rename_i k
   split at g
   .rename_i q Y;have hl:=z.length;exact⟨l,M,k,q,rfl,je.mp P,(h.hh _ _ N),(),g Z O _ (c.ff.trans h.ff) (((r.step c).step h).chg y t ⟨_,JL,(jd.same h.ff _ _ z).set q (jg.same h.ff _ _ L)⟩)⟩
   .exact g.elim
  .exact g.elim
 .exact x.elim
@[simp]def b4 (i)(fk fv)(sd):KO i fk fv sd=(fv sd).bind λv=>(wu sd[i]?).bind λds=>(fk sd).bind λk=>(CN k).bind λk=>(Res.ofO (xJ ds.length (k.getD 0))).bind λj=>.ok (.next (sd.set i (some (.own false (.lst (ds.set j v)))))):=by
 unfold KO;cases fv sd with
 |ok v =>
  cases sd[i]? with
  |none=>rfl
  |some o =>
   cases o with
   |none=>rfl
   |some w =>
    cases w with
    |val d=>rfl
    |own p d =>
     cases p with
     |true=>cases d<;>rfl
     |false =>
      cases d with
      |lst ds =>
       cases fk sd with
       |ok k =>
        cases k with
        |int k=>show(match xJ ds.length k with|some j=>_|none=>_)=(Res.ofO (xJ ds.length k)).bind _;cases xJ ds.length k<;>rfl
        |_=>rfl
       |ex c fs=>rfl
       |no=>rfl
      |_=>rfl
 |ex c fs=>rfl
 |no=>rfl
@[simp]def gR (i)(fb)(sd):KM i fb sd=(vp sd[i]?).bind λd=>(fb sd).bind λy=>.ofO (j6 d y):=by
 unfold KM;cases sd[i]? with
 |none=>rfl
 |some o =>
  cases o with
  |none=>rfl
  |some v=>cases v<;>rfl
def Wp:YG->YH
 | [.lst ds]=>(Q3 Kv ds).bind λrs=>if(∀r∈rs,r ≠ [])/\rs.length<1000 then some (.lst ((JQ j8 rs).map jq)) else none
 |_=>none
def Gv (u:X.A.units+64<cLine):jU X (.builtin "sorted") (zF X.K Wp):=jU.weak (O6 u) λC H Q w=>by
 obtain⟨F,ds,z,c,id,hz,q⟩:=w;unfold Wp at hz
 split at hz
 .obtain⟨rs,y,hz⟩:=Jg.mp hz
  split at hz
  .rename_i r;obtain rfl:=Zqi hz;obtain⟨v,rfl,h⟩:=Q7 id;rw[Cz y,jm] at h;obtain⟨a,ys,rfl,A,s⟩:=h;refine⟨a,ys,rs,rfl,A.same c,zY.mp (jd.same c _ _ s),r.1,r.2,λl ix g j t=>(q l F _ (.keep c g _) g (Qj c g) ⟨_,JL,?_⟩)⟩;rw[<- t,Zw];clear t
   induction ix with
   |nil=>exact .nil
   |cons i ix G =>
    rw[Zl,Zl];have hi:=j i Zqs;obtain⟨x,B,n⟩:=s.get (d:=jq (rs.getD i [])) (by rw[Zv,Zqg hi,Qe (Zqg hi)];rfl);rw[Qe B];exact .mk n ()
  .exact J5 hz
 simp_all
end
end L2.DL
namespace L2
section
variable {X:Cx}
def PQ {bs:List Bool}{its:Yf}(r:jv (bs.map V.bl) its)(i:Nat)(v:Value)(h:its.toArray[i]? = some v):v=.bool (bs.getD i false):=by
 have h':its[i]? = some v:=by simp_all
 have f:=(Jc.mp h').1;have b:=r.length;rw[Zql] at b;have c:bs[i]? = some bs[i]:=by simp
 obtain⟨u,a,e⟩:=r.get (i:=i) (x:=.bl bs[i]) ();rw[h'] at a;obtain rfl:=Zqi a;rw[e,Ut,c];rfl
def PR (bs:List Bool):(List.range bs.length).all (λi=>bs.getD i false)=bs.all id:=by
 apply Vg.mpr;rw[Vc,Vc];constructor
 .intro h b c;obtain⟨i,a,rfl⟩:=UB c;have:=h i (Jh.mpr a)
  rwa [Ut,Zqg a] at this
 .intro h i a;have a:=Jh.mp a;rw[Ut,Zqg a];exact h _ (Uv a)
def PU (l:X.calm=true):jU X (.builtin "all") (λg H Q=>∃(a:Addr) (bs:List Bool),g=[.ref a]/\qs X.K H a (bs.map V.bl)/\Q (.bl (bs.all id)) H):=by
 intro Y s Z H g B Q I r h;obtain⟨a,bs,rfl,m,q⟩:=h;obtain⟨u,rfl,n⟩:=QX r;obtain rfl:=n;obtain⟨its,j,p,hz⟩:=I.list m;have f:a<s.heap.objs.size:=by obtain⟨_,e,_⟩:=p.isList;exact Zk e
 have c:=j.length;rw[Zql] at c;refine call_all_walk (wpAny_pyIter_list p.isList ⟨_,_,_,_,_,_,λi=>bs.getD i false,rfl,Walks.list (A:=X.A.in1) (I.ok.hd l) s.heap.objs.size a (Zi f) its.toArray,⟨⟨_,Zr _ rfl,rfl,rfl⟩,p.isList.push _⟩,?_,λh' tk t=>?_⟩)
 .intro i v s' C E w x;have y:=PQ j i v w;subst y;exact wpAny_of_eq rfl x
 .rw[Zm,<- c,PR];refine⟨.bl _,H,I.kept λb o e=>t b o ?_ (Zq _ e),rfl,q⟩;intro z;rw[(Jd.mp z)] at e;exact Zy _ (Zk e)
end
end L2
namespace L2.DL
def vv:D->Option Bool
 | .bl i=>some i
 |_=>none
def PX (h:vv d=some i):d=.bl i:=by
 cases d with
 |bl j=>cases h;rfl
 |_=>exact J5 h
theorem xk {K:W.Frag}{H:Hp}:∀{bs:List Bool} {a:YE},jd K H (bs.map D.bl) a->a=bs.map V.bl
 | [],_,h=>jd.nil_iff.mp h
 |b::bs,_,h=>by
  obtain⟨x,r,rfl,c,e⟩:=h;rw[jn.mp c,xk e];rfl
def AF:D->Option (List Bool)
 | .lst ds=>Q3 vv ds
 |_=>none
def PY {K:W.Frag}{H:Hp}{d:D}{ns:List Bool}{v:V}(h:AF d=some ns)(i:jg K H d v):∃a,v=.ref a/\xj K H a (ns.map V.bl):=by
 cases d with
 |lst ds =>
  obtain⟨a,e,rfl,c,b⟩:=i;rw[Y5 (λ_ _=>PX) (h)] at b;rw[xk b] at c
  simp_all
 |_=>exact J5 h
def PZ (ns:List Bool):AF (.lst (ns.map D.bl))=some ns:=by
 have h:=Y4 (f:=vv) (g:=D.bl) (λ_=>rfl) ns
 rwa [List.map_id'] at h
def wA:YG->YH
 | [d]=>(AF d).bind λns=>some (.bl (ns.all id))
 |_=>none
section
variable {X:Cx}{E:XK}{m:Option Bool}{a b o i e f tg:Expr}{fa fb fo fi fv fe:FE}{fr:FA}{pos pos' apos cpos p p2:Pos}{lo hi st:Option Expr}
def fB (g:X.calm=true):jU X (.builtin "all") (zZ X.K wA):=jU.weak (PU g) λr H Q j=>by
 obtain⟨F,ds,z,c,id,hz,q⟩:=j;unfold wA at hz
 split at hz
 .obtain⟨ns,l,hz⟩:=Jg.mp hz;obtain rfl:=Zqi hz;obtain⟨v,rfl,h⟩:=Q7 id;obtain⟨a,rfl,n⟩:=PY l h;exact⟨a,ns,rfl,(n.same c).sq,q _ F H (.refl c) (zH _ F)⟩
 simp_all
end
def Ra (ns:List Bool):wA [.lst (ns.map .bl)]=some (.bl (ns.all id)):=by
 show(AF _).bind _=_;rw[PZ];rfl
end L2.DL
namespace L2
def Rb:bootBuiltins "all" = some (.builtin "all"):=boot_all
end L2
namespace L2.DL
end L2.DL
namespace L2
section
variable {X:Cx}{Y:Yb}{Z: St}{H:Hp}{s:Shared}{h':Heap}
def Inv.turnedL {t':Nat}{ch:Yl}(I:Inv X Y Z H s)(k:∀b o,b∉ch->s.heap.get? b=some o->h'.get? b=some o)(f:∀b∈ch,xa X Y H b):Inv X Y Z H { s with heap:=h',toks:=t' }:=by
 have g:∀b u,H b=some u->b∉ch:=λb u e z=>by rw[(f b z).1] at e;exact J5 e
 refine I.step (λb h=>?_) (λb o _ _ a e _=>k b o a e) (λb o _ _ a e _=>⟨o.slots,k b o a e⟩) (λ_ _ _ _ n=>n)
  (λb o a e=>⟨o,k b o a e⟩) (λ_ _ e=>e) (λ_ _ _ e=>e) (λb ps e=>⟨#[],by rw[e];simp⟩) (λm i=>?_) (λb u e=>?_) I.bare
 .obtain⟨_,j,_,l,p,t⟩:=f b h;exact⟨l,j,p,t⟩
 .obtain⟨o,es,ep,w,r⟩:=i;exact⟨o,es,ep,k _ o (λz=>(f _ z).2.1 rfl) w,r⟩
 .refine(I.hok b u e).stay (λc v a q=>k c v ?_ q) (λ_ q=>q) λ_ _ q=>q
  grind
theorem xa.upd (h:xa X Y H b)(n:b≠T):xa X Y (upd H T o) b:=⟨(JH n).trans h.1,h.2⟩
def Inv.paired {t':Nat}{ch:Yl}{x y:V}{u v:Value}(I:Inv X Y Z H s)(c:js x u)(f:js y v)(g:∀b∈ch,xa X Y H b)(h:∀b∈ch,b≠s.heap.objs.size)
 (j:h'.get? s.heap.objs.size=some { cls:=.type "tuple",data:=.seq #[u,v] }) (k:∀b o,b∉ch->s.heap.get? b=some o->h'.get? b=some o):
 Inv X Y Z (upd H s.heap.objs.size (.tup [x,y])) { s with heap:=h',toks:=t' }:=by
 have i:Inv X Y Z (upd H s.heap.objs.size (.tup [x,y])) { s with heap:=s.heap.push { cls:=.type "tuple",data:=.seq #[u,v] },toks:=s.toks } :=
  I.laid (λb o e=>Zq _ e) (Zf _) ⟨⟨by simp only[sizeLine_eq,Zu,ZD];lia,_,Zr _ rfl,rfl⟩,[u,v],.cons c (.cons f .nil),_,Zr _ rfl,rfl,_,rfl⟩
 refine Inv.turnedL (s:={ s with heap:=s.heap.push { cls:=.type "tuple",data:=.seq #[u,v] },toks:=s.toks }) i (λb o a e=>?_) λb a=>(g b a).upd (h b a)
 grind[Heap.get?_push_cases]
end
def rm (K:W.Frag)(a b:Addr):It:=
 ⟨λi H=>∃c x ys y,qs K H a c/\c[i]? = some x/\qs K H b ys/\ys[i]? = some y,
  λi H v e=>∃T x y,v=.ref T/\H T=none/\e=upd H T (.tup [x,y])/\(∀c,qs K H a c->c[i]? = some x)/\∀ys,qs K H b ys->ys[i]? = some y,
  λi H=>∃c ys,qs K H a c/\qs K H b ys/\(c.length<=i\/ys.length<=i)⟩
structure ZipAt (z TI TO i1 i2 a b:Addr)(i:Nat)(h:Heap):Prop where
 hz:IsZip h z TI TO .none
 hTI:PySem.IsPair h TI (.ref i1) (.ref i2)
 hTO:∃u v,PySem.IsPair h TO u v
 h1:h.IsListIter i1 a i
 h2:h.IsListIter i2 b i
structure Apart5 (z TI TO i1 i2:Addr):Prop where
 TIz:TI≠z
 TOz:TO≠z
 i1z:i1≠z
 i2z:i2≠z
 TITO:TI≠TO
 TIi1:TI≠i1
 TIi2:TI≠i2
 TOi1:TO≠i1
 TOi2:TO≠i2
 i12:i1≠i2
def Rc (n:Nat):Apart5 (n+4) (n+2) (n+3) n (n+1):=by
 constructor<;>(intro z;have z:(_:Nat)=_:=z;lia)
def Wq {h:Heap}{a c:Addr}{its:Yn}{o:Obj}(p:h.IsList a its)(e:h.get? c=some o)(n:o.cls ≠ .type "list"):a≠c:=λq=>by
 subst q;obtain⟨g,b,f,_⟩:=p;rw[e] at b;obtain rfl:=Zqi b;exact n f
def Gw {h:Heap}{z TI TO f g a b:Addr}{i:Nat}{o ys:Yn}(D:Apart5 z TI TO f g)(st:ZipAt z TI TO f g a b i h)(p:h.IsList a o)(e:h.IsList b ys):ZipApart z TI TO f g a b:=by
 obtain⟨hz,q,⟨u,v,c⟩,⟨r,j,c1,t⟩,⟨s,l,c2,w⟩⟩:=st;have m:r.cls ≠ .type "list" := by rw[c1];decide
 have n:s.cls ≠ .type "list" := by rw[c2];decide
 exact⟨D.TIz,D.TOz,D.i1z,D.i2z,D.TITO,D.TIi1,D.TIi2,D.TOi1,D.TOi2,D.i12,Wq p hz (show Value.type "zip" ≠ .type "list" by decide),Wq p c (by show Value.type "tuple" ≠ _;decide),Wq p j m,Wq p l n,Wq e hz (show Value.type "zip" ≠ .type "list" by decide),Wq e c (by show Value.type "tuple" ≠ _;decide),Wq e j m,Wq e l n⟩
def Re {P:Program}{w:World}{K:W.Frag}{t:Ym}{kx}{N:Pos}(a b z TI TO l m:Addr)(D:Apart5 z TI TO l m):Turn P w K (.Tuple t kx N) (rm K a b) [z,TI,TO,l,m] z (ZipAt z TI TO l m a b) where
 mem:=by simp
 obj:=λi h st c f=>by
  obtain⟨hz,O,⟨u,v,g⟩,⟨o1,C,c1,d1⟩,⟨o2,F,c2,d2⟩⟩:=st;simp only[Uq,Uw,or_false] at f;rcases f with rfl|rfl|rfl|rfl|rfl
  .exact⟨_,hz,λv q=>by cases q⟩
  .exact⟨_,O,λv q=>by cases q⟩
  .exact⟨_,g,λv q=>by cases q⟩
  .exact⟨_,C,λv q=>by rw[d1] at q;cases q⟩
  .exact⟨_,F,λv q=>by rw[d2] at q;cases q⟩
 keep:=λi h h' st j=>⟨j z () _ st.hz,j TI () _ st.hTI,(let ⟨u,v,e⟩:=st.hTO;⟨u,v,j TO () _ e⟩),st.h1.at λo e=>j l () o e,st.h2.at λo e=>j m () o e⟩
 item:=by
  intro X Q R S f i Y s Z H E I G st T;subst Q R S;obtain⟨xs,x,ys,y,J,L,M,hy⟩:=T;obtain⟨its,U,p,hz⟩:=I.list J;obtain⟨A,r,B,hz2⟩:=I.list M;obtain⟨u,hu,ru⟩:=U.get L;obtain⟨u2,hu2,ru2⟩:=r.get hy;obtain⟨t1,t2,g⟩:=st.hTO;have ZA:=Gw D st p.isList B.isList;obtain⟨o1,C,_⟩:=id st.h1;obtain⟨o2,F,_⟩:=id st.h2;refine wpAny_pyNext_zip_item ZA st.hz st.hTI g st.h1 st.h2 p.isList B.isList (x:=u) (y:=u2) (by simpa using hu) (by simpa using hu2) λh' a1 a2 a3 a4 a5 a6 j=>?_;refine⟨_,rfl,wpAny_letOwnedTupleGo_zip (s:={ s with heap:=h' }) a1 λh2 b1 n=>?_⟩;have n:Heap.SameBut z h' h2:=n;have lt:∀{c o},s.heap.get? c=some o->c≠s.heap.objs.size:=λe=>Zi (Zk e);have lts:∀c ∈ [z,TO,l,m],c≠s.heap.objs.size:=λc f=>by
   simp only[Uq,Uw,or_false] at f;rcases f with rfl|rfl|rfl|rfl
   .exact lt st.hz
   .exact lt g
   .exact lt C
   .exact lt F
  have sub:∀c ∈ [z,TO,l,m],c ∈ [z,TI,TO,l,m]:=λc f=>by
   simp only[Uq,Uw,or_false] at f ⊢;rcases f with rfl|rfl|rfl|rfl<;>simp
  have hTz:s.heap.objs.size≠z:=λq=>lt st.hz q.symm;have I2:=I.paired (t':=s.toks) (h':=h2) (ch:=[z,TO,l,m]) ru ru2 (λc f=>G c (sub c f)) lts (n.extBut _ _ hTz a5) (λc o f e=>by
   simp only[Uq,Uw,or_false,not_or] at f;exact n.extBut c o f.1 (j c o f.1 f.2.1 f.2.2.1 f.2.2.2 e))
  refine⟨.ref s.heap.objs.size,_,I2,rfl,⟨_,x,y,rfl,I.hok.fresh (Zf _),rfl,λzs hq=>by rw[I.list_inj hq J];exact L,λzs hq=>by rw[I.list_inj hq M];exact hy⟩,
   ⟨b1,n.extBut _ _ D.TIz (j _ _ D.TIz D.TITO D.TIi1 D.TIi2 st.hTI),⟨_,_,n.extBut _ _ D.TOz a2⟩,a3.extBut n.extBut D.i1z,a4.extBut n.extBut D.i2z⟩,λc f=>?_⟩
  have hcn:c≠s.heap.objs.size:=by
   simp only[Uq,Uw,or_false] at f;rcases f with rfl|rfl|rfl|rfl|rfl
   .exact lt st.hz
   .exact lt st.hTI
   .exact lt g
   .exact lt C
   .exact lt F
  exact(JH hcn).trans (G c f).1
 done:=by
  intro X Q R S f i Y s Z H E I G st T;subst Q R S;obtain⟨xs,ys,J,M,L⟩:=T;obtain⟨its,U,p,hz⟩:=I.list J;obtain⟨A,r,B,hz2⟩:=I.list M;obtain⟨t1,t2,g⟩:=st.hTO;have l1:=U.length;have l2:=r.length;have ZA:=Gw D st p.isList B.isList;refine wpAny_pyNext_zip_end (I.ok.hd f) ZA st.hz st.hTI g st.h1 st.h2 p.isList B.isList ?_ λh' j=>⟨rfl,I.turnedL (t':=s.toks) (ch:=[z,TO,l,m]) (λc o f e=>?_) λc f=>G c ?_⟩
  .rcases L with q|q
   .exact .inl (by simp;lia)
   .exact .inr (by simp;lia)
  .simp only[Uq,Uw,or_false,not_or] at f;exact j c o f.1 f.2.1 f.2.2.1 f.2.2.2 e
  .simp only[Uq,Uw,or_false] at f ⊢;rcases f with rfl|rfl|rfl|rfl<;>simp
 self:=λ_ _ _ _ _ st h=>wpAny_pyIter_zip st.hz h
section
variable {X:Cx}
def mY (K:W.Frag)(e:TA):TI:=λZ H R=>e Z H λf c=>∃a b,f=[.ref a,.ref b]/\(∃g,qs K c a g)/\(∃ys,qs K c b ys)/\R (rm K a b) c
def Rf {a b:Expr}{o:TA}{p g:Pos}{i:Ym}{kx}{w:Pos}(x:Gl X "zip")(y:X.mg "zip" = none)(z:PA X [a,b] o)(hs:starEach [a,b] X.env=[(false,eval a X.env),(false,eval b X.env)]:=by rfl)(j:starEach [b] X.env=[(false,eval b X.env)]:=by rfl):
 PI X (.Tuple i kx w) (.Call (.Name "zip" p) [a,b] [] g) (mY X.K o):=by
 intro Y s Z H R I h;refine Call_ (Wz I x y (show bootBuiltins "zip" = some (.type "zip") by kernel_rfl) (PyProof.Rows.callWith_type1 (jH (z g Y s Z H _ I h) λS f ⟨T,A,l,B,C⟩=>?_) (by rw[hs,j]) (by rw[j];rfl)));obtain⟨a,b,e,⟨U,E⟩,⟨ys,F⟩,q⟩:=C;subst e;cases B with
 |cons r n =>
  cases n with
  |cons G n =>
   cases n;cases r;cases G;obtain⟨its,rv,p,hz⟩:=l.list E;obtain⟨t,J,K,L⟩:=l.list F;refine call_zip_2 p.isList K.isList λh' u M N O P z6 Q=>wpAny_pyIter_zip u ?_;refine⟨f.heap.objs.size+4,[f.heap.objs.size+4,f.heap.objs.size+2,f.heap.objs.size+3,f.heap.objs.size,f.heap.objs.size+1],_,_,A,rfl,l.kept (t':=f.toks) Q,
    Re a b (f.heap.objs.size+4) (f.heap.objs.size+2) (f.heap.objs.size+3) f.heap.objs.size (f.heap.objs.size+1) (Rc _),⟨u,M,⟨_,_,N⟩,O,P⟩,λc v=>?_,q⟩
   have m:f.heap.objs.size<=c:=by
    simp only[Uq,Uw,or_false] at v;rcases v with rfl|rfl|rfl|rfl|rfl<;>first|exact Zf _|exact Uj _ _
   exact l.fpOk m (l.hok.fresh m)
end
end L2
namespace L2.DL
def Gx {K:W.Frag}{F:Hp}{d:D}{ds:YG}{v:V}(h:AA d=some ds)(i:jg K F d v):∃a b,v=.ref a/\qs K F a b/\jd K F ds b:=by
 cases d with
 |lst es =>
  obtain rfl:=Zqi h;obtain⟨a,b,rfl,c,e⟩:=i;exact⟨a,b,rfl,c.sq,e⟩
 |scr ns =>
  obtain rfl:=Zqi h;obtain⟨a,rfl,c⟩:=i;exact⟨a,_,rfl,c,qi ns⟩
 |_=>exact J5 h
def yk (a ys:YG):YG:=List.zipWith (λx y=>D.tup [x,y]) a ys
def wd:YG->Res YG
 | [d,e]=>(Res.ofO (AA d)).bind λa=>(Res.ofO (AA e)).bind λys=>.ok (yk a ys)
 |_=>.no
def iZ (a:FA):FA:=λsd=>(a sd).bind wd
@[simp]def sj (a:FA)(sd:SD):iZ a sd=(a sd).bind wd:=rfl
@[simp]def vH (a ys:YG):wd [.lst a,.lst ys]=.ok (yk a ys):=rfl
def Rg {K:W.Frag}{c:Hp}{a b:Addr}{ds es:YG}{e ys:YE}(u:qs K c a e)(m:jd K c ds e)(w:qs K c b ys)(n:jd K c es ys):zN K c (rm K a b) (yk ds es):=λi H I f g=>by
 have z:(yk ds es).length=min ds.length es.length:=List.length_zipWith;have h:=jk.seq g (jk.seq f u);have j:=jk.seq g (jk.seq f w);have J:=m.length;have L:=n.length;rw[z];refine⟨λA=>?_,λA=>⟨e,ys,h,j,()⟩⟩;have o:i<ds.length:=()
 have p:i<es.length:=()
 obtain⟨x,q,ix⟩:=m.get (Zqg o);obtain⟨y,r,B⟩:=n.get (Zqg p);refine⟨⟨e,x,ys,y,h,q,j,r⟩,λv M C=>?_⟩;obtain⟨T,N,O,rfl,E,rfl,F,G⟩:=C;have s:=F e h;rw[q] at s;obtain rfl:=Zqi s;have t:=G ys j;rw[r] at t;obtain rfl:=Zqi t;have l:=qj g E (.tup [x,y]);refine⟨.tup [ds[i],es[i]],_,?_,l,j0.mpr ⟨T,_,rfl,.of JL,.mk (jg.same (f.trans l.ff) _ _ ix) (.mk (jg.same (f.trans l.ff) _ _ B) .nil)⟩⟩;unfold yk;rw[List.getElem?_zipWith,Zqg o,Zqg p]
section
variable {X:Cx}{E:XK}{fr:FA}{p pos tp:Pos}{elts:Ym}
def Rh {a b:Expr}{kx}(j:Gl X "zip")(l:X.mg "zip" = none)(m:QA X E [a,b] fr)(hs:starEach [a,b] X.env=[(false,eval a X.env),(false,eval b X.env)]:=by rfl)(e:starEach [b] X.env=[(false,eval b X.env)]:=by rfl):QI X E (.Tuple elts kx tp) (.Call (.Name "zip" p) [a,b] [] pos) (iZ fr):=PI.weak (Rf j l m hs e) λZ H R o=>by
 obtain⟨B,F,sd,r,n⟩:=o;refine⟨B,F,sd,r,(ja n).mono (λds c K s t f u=>?_) λ_ _ q=>q⟩;unfold wd at c
 split at c
 .obtain⟨L,x,y⟩:=jh (ja c);obtain⟨ys,z,A⟩:=jh (ja y);obtain⟨v,w,rfl,h,h'⟩:=C8 u;obtain⟨C,M,rfl,g,G⟩:=Gx x h;obtain⟨I,N,rfl,i,J⟩:=Gx z h';exact⟨C,I,rfl,⟨_,jk.seq f.fh g⟩,⟨_,jk.seq f.fh i⟩,A _ s t f (Rg g G i J)⟩
 .exact c.elim
end
end L2.DL
namespace L2.ST
open PySem
def y0:Nat->Nat->Nat
 | 0,z=>z
 |n+1,z=>y0 n (5*z+1)
def Gy (a b z):y0 (a+b) z=y0 b (y0 a z):=by
 induction a generalizing z with
 |zero=>rw[Nat.zero_add];rfl
 |succ a c=>rw[Nat.succ_add];exact c _
def Gz (n z d):y0 n (z+d)=y0 n z+5 ^ n*d:=by
 induction n generalizing z d with
 |zero=>simp[y0]
 |succ n a =>
  show y0 n (5*(z+d)+1)=y0 n (5*z+1)+5 ^ (n+1)*d
  grind
def mG (n):5 ^ n % 4=1:=by
 induction n with
 |zero=>rfl
 |succ n a=>lia
def Ri (k z):∃u,y0 (2 ^ k) z=z+2 ^ k*(2*u+1):=by
 induction k generalizing z with
 |zero=>exact⟨2*z,by show 5*z+1=z+1*(2*(2*z)+1);lia⟩
 |succ k b =>
  obtain⟨u,a⟩:=b z;have e:2 ^ (k+1)=2 ^ k+2 ^ k:=()
  rw[e,Gy,a,Gz,a];have c:=mG (2 ^ k);have ⟨v,hv⟩:∃v,5 ^ (2 ^ k)=4*v+1:=⟨5 ^ (2 ^ k) / 4,()⟩;refine⟨2*u*(2*v+1) / 2+v,?_⟩;have:2*u*(2*v+1) / 2=u*(2*v+1):=by grind
  grind
def Rj (m n z):y0 n z % m=y0 n (z % m) % m:=by
 have h:=Gz n (z % m) (m*(z / m));rw[Nat.mod_add_div] at h;rw[h,<- Nat.mul_assoc,Nat.mul_comm _ m,Nat.mul_assoc,Nat.add_mul_mod_self_left]
theorem CP:∀k x y,y<2 ^ k->∃q,q<2 ^ k/\y0 q x % 2 ^ k=y
 | 0,x,y,h=>by grind
 |k+1,x,y,h=>by
  have e:2 ^ (k+1)=2*2 ^ k:=()
  have hp:0<2 ^ k:=Nat.two_pow_pos k;obtain⟨q,o,g⟩:=CP k x (y % 2 ^ k) (UC _ hp);rw[e] at h ⊢;by_cases c:y0 q x % (2*2 ^ k)=y
  .grind
  .refine⟨q+2 ^ k,(),?_⟩;rw[Gy];obtain⟨u,i⟩:=Ri k (y0 q x);rw[i];generalize y0 q x=w at *;generalize 2 ^ k=m at *;have j:w+m*(2*u+1)=(w+m)+(2*m)*u:=by grind
   rw[j,Nat.add_mul_mod_self_left];have l:=Nat.div_add_mod w m;have f:=UC w (show 0<2*m from ());rw[g] at l;have a:w % (2*m) % m=y % m:=by rwa [Nat.mod_mul_left_mod]
   have a1:w % (2*m)<m\/m<=w % (2*m):=()
   have a2:y<m\/m<=y:=()
   have b:∀t,t<2*m->m<=t->t % m=t-m:=λt p n=>by
    rw[Nat.mod_eq_sub_mod n,UT ()]
   rw[Nat.add_mod,UT (show m<2*m from ())];generalize w % (2*m)=t at *;rcases a1 with a1|a1<;>rcases a2 with a2|a2
   .rw[UT a1,UT a2] at a;exact Zn a c
   .rw[UT a1,b y h a2] at a;rw[UT ()];lia
   .rw[UT a2,b t f a1] at a;rw[Nat.mod_eq_sub_mod (),UT ()];lia
   .rw[b t f a1,b y h a2] at a;exact Zn () c
def JG (t:YD):Nat->SetTable.Probe->SetTable.Probe
 | 0,p=>p
 |n+1,p=>JG t n (t.advance p)
def YP (t)(a b)(p):JG t (a+b) p=JG t b (JG t a p):=by
 induction a generalizing p with
 |zero=>rw[Nat.zero_add];rfl
 |succ a c=>rw[Nat.succ_add];exact c _
def Rk (t)(n)(p):JG t (n+1) p=t.advance (JG t n p):=YP t n 1 p
def Km (mask i pert:Nat):SetTable.Probe:={ j:=i,more:=SetTable.runEnd mask i-i,i:=i,perturb:=pert,dummy:=none }
def qA (mask:Nat):Nat->Nat×Nat->Nat×Nat
 | 0,s=>s
 |n+1,s=>qA mask n (SetTable.leap mask s.1 s.2)
def AG (mask i):SetTable.runEnd mask i-i<=9:=by
 grind[SetTable.runEnd]
def G0 (t)(m):∀p,p.more=m->p.dummy=none->JG t (m+1) p=Km t.mask (SetTable.leap t.mask p.i p.perturb).1 (SetTable.leap t.mask p.i p.perturb).2:=by
 induction m with
 |zero =>
  intro p a b;show t.advance p=_
  simp_all [SetTable.advance,Km]
 |succ m c =>
  intro p a b;show JG t (m+1) (t.advance p)=_
  simp_all [SetTable.advance]
theorem G8 (t):∀r i pert,∃n,n<=10*r/\JG t n (Km t.mask i pert)=Km t.mask (qA t.mask r (i,pert)).1 (qA t.mask r (i,pert)).2
 | 0,i,pert=>⟨0,Zf _,rfl⟩
 |r+1,i,pert=>by
  have ⟨n,a,b⟩:=G8 t r (SetTable.leap t.mask i pert).1 (SetTable.leap t.mask i pert).2;have c:=AG t.mask i;refine⟨(SetTable.runEnd t.mask i-i+1)+n,(),?_⟩
  rwa [YP,(G0 t (SetTable.runEnd t.mask i-i) (Km t.mask i pert) rfl rfl)]
def G9 (mask a b)(s):qA mask (a+b) s=qA mask b (qA mask a s):=by
 induction a generalizing s with
 |zero=>rw[Nat.zero_add];rfl
 |succ a c=>rw[Nat.succ_add];exact c _
theorem CQ (mask):∀r s,(qA mask r s).2=s.2 / 32 ^ r
 | 0,s=>by show s.2=_;rw[Nat.pow_zero,Nat.div_one]
 |r+1,s=>by
  show(qA mask r (SetTable.leap mask s.1 s.2)).2=_;rw[CQ mask r];show s.2 / 32 / 32 ^ r=_;rw[Nat.div_div_eq_div_mul,Nat.pow_succ,Nat.mul_comm 32]
theorem CS (mask):∀r i,i<mask+1->qA mask r (i,0)=(y0 r i % (mask+1),0)
 | 0,i,h=>by
  show(i,0)=(i % (mask+1),0);rw[UT h]
 |r+1,i,h=>by
  show qA mask r ((i*5+1+0 / 32) % (mask+1),0 / 32)=(y0 r (5*i+1) % (mask+1),0);rw[Nat.zero_div,Nat.add_zero,CS mask r _ (UC _ ()),<- Rj,Nat.mul_comm i 5]
def GA (mask r)(s)(h:s.1<mask+1):(qA mask r s).1<mask+1:=by
 induction r generalizing s with
 |zero=>exact h
 |succ r a=>exact a _ (UC _ ())
def fy (c:t.mask+1=2 ^ k)(h)(f:y<=t.mask):∃n,n<10*SetTable.turns t.mask/\(JG t n (t.probeStart h)).j=y:=by
 have hs:t.probeStart h=Km t.mask (SetTable.bits h % (t.mask+1)) (SetTable.bits h):=rfl;have g:SetTable.bits h<2 ^ 64:=by
  grind[SetTable.bits]
 have i:=GA t.mask 13 (SetTable.bits h % (t.mask+1),SetTable.bits h) (UC _ ());have hp:(qA t.mask 13 (SetTable.bits h % (t.mask+1),SetTable.bits h)).2=0:=by
  grind[CQ]
 have ⟨q,j,e⟩:=CP k (qA t.mask 13 (SetTable.bits h % (t.mask+1),SetTable.bits h)).1 y ();have a:qA t.mask (13+q) (SetTable.bits h % (t.mask+1),SetTable.bits h)=(y,0):=by
  rw[G9]
  grind[CS]
 have ⟨n,l,b⟩:=G8 t (13+q) (SetTable.bits h % (t.mask+1)) (SetTable.bits h);refine⟨n,by unfold SetTable.turns;lia,?_⟩;rw[hs,b,a];rfl
def GB {t:YD}{p:SetTable.Probe}(h:p.dummy=none):(t.advance p).dummy=none:=by
 grind[SetTable.advance]
def Rl {t:YD}{p:SetTable.Probe}(h:p.dummy=none)(n):(JG t n p).dummy=none:=by
 induction n generalizing p with
 |zero=>exact h
 |succ n a=>exact a (GB h)
theorem GC {t:YD}{hashAt:Nat->Int}{h:Int}:∀k fuel p,k<fuel->p.dummy=none->(∀m,m<k->∃i,t.slot (JG t m p).j=.live i)->t.slot (JG t k p).j=.empty ->
 (∃m i,m<k/\t.slot (JG t m p).j=.live i/\hashAt i=h/\SetTable.probe.go t hashAt h fuel p=some (.candidate (JG t m p).j i (JG t (m+1) p))/\∀a b,a<m->t.slot (JG t a p).j=.live b->hashAt b≠h) \/
 (SetTable.probe.go t hashAt h fuel p=some (.empty (JG t k p).j none)/\∀a b,a<k->t.slot (JG t a p).j=.live b->hashAt b≠h)
 | 0,0,p,hf,_,_,_=>()
 | 0,fuel+1,p,_,hd,_,e=>by
  have e:t.slot p.j=.empty:=e;refine .inr ⟨?_,()⟩;unfold SetTable.probe.go;rw[e,hd];rfl
 |k+1,0,p,hf,_,_,_=>()
 |k+1,fuel+1,p,hf,hd,hl,e=>by
  have ⟨i,f⟩:=hl 0 (Vd _);have f:t.slot p.j=.live i:=f;by_cases c:hashAt i=h
  .refine .inl ⟨0,i,Vd _,f,c,?_,()⟩;unfold SetTable.probe.go;rw[f];show(if(hashAt i == h)=true then _ else _)=_;rw[Zd ()];rfl
  .have j:SetTable.probe.go t hashAt h (fuel+1) p=SetTable.probe.go t hashAt h fuel (t.advance p):=by
    simp_all [SetTable.probe.go]
   rcases GC k fuel (t.advance p) () (GB hd) (λm l=>hl (m+1) ()) e with ⟨m,n,o,g,q,s,r⟩|⟨o,g⟩
   .refine .inl ⟨m+1,n,(),g,q,by rwa [j],λa b l hs=>?_⟩;cases a with
    |zero =>
     simp_all
    |succ a=>exact r a b () hs
   .refine .inr ⟨by rwa [j],λa b l hs=>?_⟩;cases a with
    |zero =>
     simp_all
    |succ a=>exact g a b () hs
open PySem
def zO (a:Yi):Prop:=∀i j,i<j->j<a.size->a.getD i 0<a.getD j 0
def Ko {α: Type}{a:Array α}(h)(d):a.getD i d=a[i]:=()
theorem CT (u:zO xs):∀fuel lo a,a-lo<=fuel->lo<=a->a<=xs.size->(∀i,i<lo->xs.getD i 0<j)->(∀i,a<=i->i<xs.size->j<=xs.getD i 0) ->
 SetTable.below.go xs j fuel lo a<=xs.size/\(∀i,i<SetTable.below.go xs j fuel lo a->xs.getD i 0<j)/\∀i,SetTable.below.go xs j fuel lo a<=i->i<xs.size->j<=xs.getD i 0
 | 0,lo,a,hf,hl,hs,h1,h2=>by
  have e:lo=a:=()
  subst e;unfold SetTable.below.go;exact⟨hs,h1,h2⟩
 |fuel+1,lo,a,hf,hl,hs,h1,h2=>by
  unfold SetTable.below.go;by_cases c:lo<a
  .rw[Zd c];obtain⟨m,e,l,m2,n,o⟩:=EG (k:=fuel+1) (x:=0) c hf;have f:m<xs.size:=Zg m2 hs;have h:xs.getD m j=xs.getD m 0:=by rw[Ko f,Ko f]
   show(if xs.getD ((lo+a) / 2) j<j then _ else _)<=xs.size/\(∀i,i<(if xs.getD ((lo+a) / 2) j<j then _ else _)->_)/\∀i,(if xs.getD ((lo+a) / 2) j<j then _ else _)<=i->_;rw[e];by_cases d:xs.getD m j<j
   .rw[Zd d];rw[h] at d;refine CT u fuel (m+1) a o m2 hs (λi b=>?_) h2;by_cases q:i=m
    .rw[q];exact d
    .exact Ug (u i m (UD (Uo b) q) f) d
   .rw[Ze d];rw[h] at d;refine CT u fuel lo m n l (Zz f) h1 λi b g=>?_;by_cases q:i=m
    .rw[q];exact Nat.le_of_not_lt d
    .exact Zz (UL (Nat.le_of_not_lt d) (u m i (UD b (Ne.symm q)) g))
  .rw[Ze c];have e:lo=a:=()
   subst e;exact⟨hs,h1,h2⟩
def AH (u:zO xs)(j):SetTable.below xs j<=xs.size/\(∀i,i<SetTable.below xs j->xs.getD i 0<j)/\∀i,SetTable.below xs j<=i->i<xs.size->j<=xs.getD i 0:=
 CT u xs.size 0 xs.size () () (Zf _) () ()
def Rm (u:zO xs)(c:i<xs.size):SetTable.below xs (xs.getD i 0)=i:=by
 obtain⟨g,e,f⟩:=AH u (xs.getD i 0);generalize SetTable.below xs (xs.getD i 0)=p at *;rcases Ve p i with q|q|q
 .have a:=u p i q c;have b:=f p (Zf _) ();lia
 .exact q
 .have:=e i q;lia
def yp (t:YD)(j:Nat):Prop:=∃i,i<t.place.size/\t.place.getD i 0=j
def GD (j):SetTable.has #[] j=false:=rfl
def GE {t:YD}(u:zO t.place){i j:Nat}(a:i<t.place.size)(e:t.place.getD i 0=j):t.slot j=.live i:=by
 unfold SetTable.slot;have b:SetTable.below t.place j=i:=by rw[<- e];exact Rm u a
 simp_all
def Rn (b:t.dummies = #[])(h:¬yp t j):t.slot j=.empty:=by
 unfold SetTable.slot;have c:¬(t.place[SetTable.below t.place j]? == some j)=true:=by
  intro z;have z:t.place[SetTable.below t.place j]? = some j:=by simpa using z
  obtain⟨a,e⟩:=Jv.mp z;exact h ⟨_,a,by rwa [Ko a]⟩
 simp_all [GD]
def Ro (u:zO t.place)(h:yp t j):∃i,t.slot j=.live i/\i<t.place.size/\t.place.getD i 0=j:=by
 obtain⟨i,a,e⟩:=h;exact⟨i,GE u a e,a,e⟩
def Rp {t t':YD}(h:t.mask=t'.mask)(p):t.advance p=t'.advance p:=by
 unfold SetTable.advance;rw[h]
def GF {t t':YD}(h:t.mask=t'.mask)(n)(p):JG t n p=JG t' n p:=by
 induction n generalizing p with
 |zero=>rfl
 |succ n a=>show JG t n (t.advance p)=JG t' n (t'.advance p);rw[Rp h,a]
def GG {t t':YD}(h:t.mask=t'.mask)(x):t.probeStart x=t'.probeStart x:=by
 unfold SetTable.probeStart;rw[h]
def va (t:YD)(o:Nat->Prop)(x:Int)(y:Nat):Prop:=∃n,(JG t n (t.probeStart x)).j=y/\∀m,m<n->o (JG t m (t.probeStart x)).j
def va.mono {t t':YD}{o c:Nat->Prop}{x:Int}{y:Nat}(h:va t o x y)(a:t.mask=t'.mask)(e:∀j,o j->c j):va t' c x y:=by
 obtain⟨n,g,f⟩:=h;refine⟨n,?_,λm b=>?_⟩
 .rwa [<- GF a,<- GG a]
 .rw[<- GF a,<- GG a];exact e _ (f m b)
structure TabOk (t:YD)(hs:Array Int):Prop where
 size:t.place.size=hs.size
 up:zO t.place
 le:∀i,i<t.place.size->t.place.getD i 0<=t.mask
 nod:t.dummies = #[]
 pow:∃k,t.mask+1=2 ^ k
 room:t.place.size<=t.mask
 ways:∀i,i<t.place.size->va t (yp t) (hs.getD i 0) (t.place.getD i 0)
def Rq (u:zO xs)(hs:xs.size<=m):∃y,y<=m/\∀i,i<xs.size->xs.getD i 0≠y:=by
 by_cases h:∀i,i<xs.size->xs.getD i 0=i
 .exact⟨m,Zf _,λi j e=>()⟩
 .obtain⟨i,j,hne,hmin⟩:∃i,i<xs.size/\xs.getD i 0≠i/\∀k,k<i->xs.getD k 0=k:=by
   have g:∀n,n<=xs.size->(∀k,k<n->xs.getD k 0=k)\/∃i,i<xs.size/\xs.getD i 0≠i/\∀k,k<i->xs.getD k 0=k:=by
    intro n
    induction n with
    |zero=>intro _;exact .inl λk f=>Zn f (UR _)
    |succ n l =>
     intro o;rcases l () with q|q
     .by_cases c:xs.getD n 0=n
      .refine .inl λk f=>?_;by_cases e:k=n
       .rwa [e]
       .exact q k ()
      .exact .inr ⟨n,(),c,q⟩
     .exact .inr q
   rcases g xs.size (Zf _) with q|q
   .exact Zn q h
   .exact q
  refine⟨i,(),λk f e=>?_⟩;rcases Ve k i with q|q|q
  .grind
  .subst q;exact hne e
  .have a:=u i k q f;have b:i<=xs.getD i 0:=by
    cases i with
    |zero=>exact Ua _
    |succ i =>
     have:=u i (i+1) () j;have:=hmin i ();lia
   lia
def Rr (T:TabOk t hs)(x):∃n,n<10*SetTable.turns t.mask/\(∀m,m<n->yp t (JG t m (t.probeStart x)).j)/\¬yp t (JG t n (t.probeStart x)).j:=by
 obtain⟨k,g⟩:=T.pow;obtain⟨y,h,j⟩:=Rq T.up T.room;obtain⟨n,b,e⟩:=fy g x h;have a:¬yp t (JG t n (t.probeStart x)).j:=by
  rw[e];rintro⟨i,l,q⟩;exact j i l q
 have f:∀d n,n<=d->n<10*SetTable.turns t.mask->¬yp t (JG t n (t.probeStart x)).j->∃n,n<10*SetTable.turns t.mask/\(∀m,m<n->yp t (JG t m (t.probeStart x)).j)/\¬yp t (JG t n (t.probeStart x)).j:=by
  intro d
  induction d with
  |zero =>
   grind
  |succ d o =>
   intro n s b a;by_cases c:∀m,m<n->yp t (JG t m (t.probeStart x)).j
   .exact⟨n,b,c,a⟩
   .have ⟨m,p⟩:=Classical.not_forall.mp c;have ⟨u,r⟩:=Classical.not_imp.mp p;exact o m () () r
 exact f n n (Zf _) b a
def CU {α: Type}(a:Array α)(hp:p<=a.size)(x):(SetTable.insertAt a p x).size=a.size+1:=by
 grind[SetTable.insertAt]
def GH {α: Type}(a:Array α)(hp:p<=a.size)(x d)(i):(SetTable.insertAt a p x).getD i d=if i<p then a.getD i d else if i=p then x else a.getD (i-1) d:=by
 unfold SetTable.insertAt;simp only[VX]
 grind
def Rs (T:TabOk t hs)(u:y<=t.mask)(v:¬yp t y)(w:va t (yp t) x y)(F:t.place.size+1<=t.mask):TabOk (t.put y).1 (SetTable.insertAt hs (t.put y).2 x)/\(t.put y).2<=hs.size/\(t.put y).1.mask=t.mask:=by
 obtain⟨n,A,B⟩:=AH T.up y;have hp:(t.put y).2=SetTable.below t.place y:=rfl;have a:(t.put y).1.place=SetTable.insertAt t.place (SetTable.below t.place y) y:=rfl;have b:(t.put y).1.mask=t.mask:=rfl;have h:(t.put y).1.dummies = #[]:=by
  show(if SetTable.has t.dummies y then SetTable.eraseAt t.dummies (SetTable.below t.dummies y) else t.dummies)=_;rw[T.nod,GD];rfl
 rw[hp];have C:∀i,SetTable.below t.place y<=i->i<t.place.size->y<t.place.getD i 0:=λi E o=>by
  have:=B i E o;have:t.place.getD i 0≠y:=λz=>v ⟨i,o,z⟩;lia
 generalize SetTable.below t.place y=p at *;have sz:(SetTable.insertAt t.place p y).size=t.place.size+1:=CU _ n _;have f:=GH t.place n y 0;have l:∀j,yp t j->yp (t.put y).1 j:=by
  rintro j ⟨i,g,e⟩;by_cases c:i<p
  .exact⟨i,by rw[a,sz];lia,by rw[a,f,Zd c];exact e⟩
  .exact⟨i+1,by rw[a,sz];lia,by rw[a,f,Ze (),Ze (),Nat.add_sub_cancel];exact e⟩
 have hsz:=T.size;refine⟨⟨?_,?_,?_,h,by rw[b];exact T.pow,(),?_⟩,(),b⟩
 .rw[a,sz,CU _ ()];lia
 .intro i j m q;rw[a] at q ⊢;rw[sz] at q;rw[f,f];by_cases c1:j<p
  .rw[Zd c1,Zd ()];exact T.up i j m ()
  .rw[Ze c1];by_cases c2:j=p
   .rw[Zd c2,Zd ()];exact A i ()
   .rw[Ze c2];by_cases r:i<p
    .rw[Zd r];exact T.up i (j-1) () ()
    .rw[Ze r];by_cases s:i=p
     .rw[Zd s];exact C (j-1) () ()
     .rw[Ze s];exact T.up (i-1) (j-1) (Nat.sub_lt_sub_right () (by assumption)) ()
 .intro i g;rw[a] at g ⊢;rw[sz] at g;rw[f,b]
  split
  .exact T.le i ()
  .split
   .exact u
   .exact T.le (i-1) ()
 .intro i g;rw[a] at g ⊢;rw[sz] at g;rw[f,GH hs () x 0];by_cases c1:i<p
  .rw[Zd c1,Zd c1];exact(T.ways i ()).mono b.symm l
  .rw[Ze c1,Ze c1];by_cases c2:i=p
   .rw[Zd c2,Zd c2];exact w.mono b.symm l
   .rw[Ze c2,Ze c2];exact(T.ways (i-1) ()).mono b.symm l
open PySem
theorem AI (t)(i pert):∀k,k<=SetTable.runEnd t.mask i-i->JG t k (Km t.mask i pert)={ j:=i+k,more:=SetTable.runEnd t.mask i-i-k,i:=i,perturb:=pert,dummy:=none }
 | 0,_=>rfl
 |k+1,h=>by
  rw[Rk,AI t i pert k ()]
  grind[SetTable.advance]
def CV {mask i:Nat}(h:i<=mask):i<=SetTable.runEnd mask i/\SetTable.runEnd mask i<=mask:=by
 grind[SetTable.runEnd]
def xY (owner:Array (Option Nat))(j:Nat):Prop:=∃i,owner.getD j none=some i
theorem GI {t:YD}{owner:Array (Option Nat)}(hs:owner.size=t.mask+1):∀fuel i pert y,i<=t.mask->SetTable.layClean.free t.mask owner fuel i pert=some y ->
 y<=t.mask/\owner.getD y none=none/\∃n,(JG t n (Km t.mask i pert)).j=y/\∀m,m<n->xY owner (JG t m (Km t.mask i pert)).j
 | 0,i,pert,y,_,h=>by unfold SetTable.layClean.free at h;exact J5 h
 |fuel+1,i,pert,y,hi,h=>by
  have j:=CV hi;unfold SetTable.layClean.free at h;have l:∀{k},k<SetTable.runEnd t.mask i+1-i->k<=SetTable.runEnd t.mask i-i:=λa=>by
   rw[Nat.succ_sub j.1] at a;exact Uo a
  have o:∀{k},k<SetTable.runEnd t.mask i+1-i->i+k<owner.size:=λa=>by
   rw[hs];exact Nat.lt_succ_of_le (Zh (Nat.add_le_of_le_sub' j.1 (l a)) j.2)
  have e:∀k,k<SetTable.runEnd t.mask i+1-i->owner.getD (i+k) (some 0)=owner.getD (i+k) none:=λk a=>by
   rw[Ko (o a),Ko (o a)]
  have bz:∀k,k<SetTable.runEnd t.mask i+1-i->(!(owner.getD (i+k) (some 0)).isNone)=true->xY owner (i+k):=λk a p=>by
   rw[e k a] at p;unfold xY;cases q:owner.getD (i+k) none with
   |none=>rw[q] at p;exact JC p
   |some v=>exact⟨v,rfl⟩
  split at h
  .rename_i k a;obtain⟨r,b,s⟩:=List.find?_range_eq_some.mp a;have b:=Jh.mp b;obtain rfl:=Zqi h;refine⟨Uo (by have:=o b;rwa [hs] at this),?_,k,?_,λm f=>?_⟩
   .rw[e k b] at r;cases q:owner.getD (i+k) none with
    |none=>rfl
    |some v=>rw[q] at r;exact JC r
   .rw[AI t i pert k (l b)]
   .rw[AI t i pert m (l (Ug f b))];exact bz m (Ug f b) (s m f)
  .rename_i a;have s:=Jw.mp a;have w:(SetTable.leap t.mask i pert).1<=t.mask:=Jn.mp (UC _ (Vd _));obtain⟨x,z,n,A,B⟩:=GI hs fuel _ _ y w h;have g:=G0 t (SetTable.runEnd t.mask i-i) (Km t.mask i pert) rfl rfl;have g:JG t (SetTable.runEnd t.mask i-i+1) (Km t.mask i pert)=Km t.mask (SetTable.leap t.mask i pert).1 (SetTable.leap t.mask i pert).2:=g;refine⟨x,z,SetTable.runEnd t.mask i-i+1+n,by rw[YP,g];exact A,λm f=>?_⟩;by_cases c:m<=SetTable.runEnd t.mask i-i
   .rw[AI t i pert m c];exact bz m () (s m ())
   .obtain⟨u,rfl⟩:∃u,m=SetTable.runEnd t.mask i-i+1+u:=⟨m-(SetTable.runEnd t.mask i-i+1),()⟩;rw[YP,g];exact B u ()
theorem GJ {mask:Nat}{owner:Array (Option Nat)}(hs:owner.size=mask+1):∀fuel i pert,i<=mask->SetTable.layClean.free mask owner fuel i pert=none->∀r,r<fuel->xY owner (qA mask r (i,pert)).1
 | 0,i,pert,_,_,r,hr=>Zn hr (UR _)
 |fuel+1,i,pert,hi,h,r,hr=>by
  have a:=CV hi;unfold SetTable.layClean.free at h
  split at h
  .cases h
  .rename_i b;have c:(SetTable.leap mask i pert).1<=mask:=Jn.mp (UC _ (Vd _));cases r with
   |zero =>
    have f:=(Jw.mp b) 0 ();have e:owner.getD (i+0) (some 0)=owner.getD i none:=by grind
    rw[e] at f;show xY owner i;unfold xY;cases q:owner.getD i none with
    |none=>simp_all
    |some v=>simp
   |succ r=>exact GJ hs fuel _ _ c h r ()
def Rt {mask k:Nat}(a:mask+1=2 ^ k)(h){y:Nat}(b:y<=mask):∃r,r<SetTable.turns mask/\(qA mask r (SetTable.bits h % (mask+1),SetTable.bits h)).1=y:=by
 have c:SetTable.bits h<2 ^ 64:=by
  grind[SetTable.bits]
 have f:=GA mask 13 (SetTable.bits h % (mask+1),SetTable.bits h) (UC _ ());have hp:(qA mask 13 (SetTable.bits h % (mask+1),SetTable.bits h)).2=0:=by
  grind[CQ]
 have ⟨q,g,e⟩:=CP k (qA mask 13 (SetTable.bits h % (mask+1),SetTable.bits h)).1 y ();refine⟨13+q,by unfold SetTable.turns;lia,?_⟩;rw[G9]
 grind[CS]
structure LayOk (t:YD)(owner:Array (Option Nat))(hs:Yh):Prop where
 size:owner.size=t.mask+1
 lt:∀j i,owner.getD j none=some i->i<hs.length
 one:∀j j' i,owner.getD j none=some i->owner.getD j' none=some i->j=j'
 all:∀i,i<hs.length->∃j,j<=t.mask/\owner.getD j none=some i/\va t (xY owner) (hs.getD i 0) j
def Ru {f:Nat->Nat}{n:Nat}(h:∀a b,a<n->b<n->f a=f b->a=b):((List.range n).map f).Nodup:=by
 grind[List.pairwise_map,List.Pairwise.imp_of_mem,List.nodup_range]
def Rv {t:YD}{owner:Array (Option Nat)}{hs:Yh}(L:LayOk t owner hs)(p:hs.length<=t.mask):∃y,y<=t.mask/\owner.getD y none=none:=by
 apply Classical.byContradiction;intro j;have g:∀y,y<t.mask+1->∃i,owner.getD y none=some i:=λy h=>by
  cases q:owner.getD y none with
  |none=>grind
  |some i=>simp
 have l:((List.range (t.mask+1)).map λy=>(owner.getD y none).getD 0).Nodup:=Ru λa b m n e=>by
  obtain⟨i,c⟩:=g a m;obtain⟨o,f⟩:=g b n;rw[c,f] at e;have e:i=o:=e;subst e;exact L.one a b i c f
 have sub:((List.range (t.mask+1)).map λy=>(owner.getD y none).getD 0) ⊆ List.range hs.length:=λz hz=>by
  obtain⟨y,h,rfl⟩:=Ja.mp hz;obtain⟨i,c⟩:=g y (Jh.mp h);rw[c];exact Jh.mpr (L.lt y i c)
 have:=VY l sub
 grind
def Rx {owner:Array (Option Nat)}{y:Nat}(a:y<owner.size)(v)(j):(owner.setIfInBounds y v).getD j none=if j=y then v else owner.getD j none:=by
 simp
 grind
def Ry {t:YD}{owner:Array (Option Nat)}{hs:Yh}(L:LayOk t owner hs)(x:hs.length<=t.mask)(hp:∃k,t.mask+1=2 ^ k)(h):
 ∃y,SetTable.layClean.free t.mask owner (SetTable.turns t.mask) (SetTable.bits h % (t.mask+1)) (SetTable.bits h)=some y/\LayOk t (owner.setIfInBounds y (some hs.length)) (hs++[h]):=by
 have p:SetTable.bits h % (t.mask+1)<=t.mask:=Jn.mp (UC _ (Vd _));cases q:SetTable.layClean.free t.mask owner (SetTable.turns t.mask) (SetTable.bits h % (t.mask+1)) (SetTable.bits h) with
 |none =>
  obtain⟨k,A⟩:=hp;obtain⟨y,B,C⟩:=Rv L x;obtain⟨r,E,e⟩:=Rt A h B;obtain⟨i,hz⟩:=GJ L.size _ _ _ p q r E;rw[e,C] at hz;exact J5 hz
 |some y =>
  obtain⟨F,s,n,G,H⟩:=GI L.size _ _ _ y p q;have l:=Rx (owner:=owner) (y:=y) (by rw[L.size];lia) (some hs.length);have u:∀j,xY owner j->xY (owner.setIfInBounds y (some hs.length)) j:=by
   rintro j ⟨i,f⟩;refine⟨i,?_⟩;rw[l,Ze λz=>by rw[z,s] at f;cases f];exact f
  refine⟨y,rfl,⟨by rw[Array.size_setIfInBounds];exact L.size,λj i f=>?_,λj v i f g=>?_,λi o=>?_⟩⟩
  .rw[Ub,Us];rw[l] at f
   split at f
   .simp_all
   .have:=L.lt j i f;lia
  .rw[l] at f g
   split at f
   .rename_i a;obtain rfl:=Zqi f
    split at g
    .rename_i b;rw[a,b]
    .have:=L.lt v _ g;lia
   .split at g
    .obtain rfl:=Zqi g;have:=L.lt j _ f;lia
    .exact L.one j v i f g
  .rw[Ub,Us] at o;by_cases c:i<hs.length
   .have ⟨j,I,w,J⟩:=L.all i c;refine⟨j,I,?_,?_⟩
    .rwa [l,Ze λz=>by rw[z,s] at w;cases w]
    .have e:(hs++[h]).getD i 0=hs.getD i 0:=by
      rw[Ut,Ut,UO c]
     rw[e];exact J.mono rfl u
   .have e:i=hs.length:=()
    subst e;refine⟨y,F,by rw[l,Zd rfl],?_⟩;have e:(hs++[h]).getD hs.length 0=h:=by
     rw[Ut,US (Zf _),Nat.sub_self];rfl
    rw[e];exact⟨n,G,λm K=>u _ (H m K)⟩
theorem GK {t:YD}(hp:∃k,t.mask+1=2 ^ k):∀rest hs owner,LayOk t owner hs->hs.length+rest.length<=t.mask+1 ->
 ∃a,rest.foldl (init:=some (owner,hs.length)) (λb h=>do
  let (owner,k) <- b
  let j <- SetTable.layClean.free t.mask owner (SetTable.turns t.mask) (SetTable.bits h % (t.mask+1)) (SetTable.bits h)
  pure (owner.setIfInBounds j (some k),k+1))=some (a,hs.length+rest.length)/\LayOk t a (hs++rest)
 | [],hs,owner,L,_=>by grind
 |h::rest,hs,owner,L,hl=>by
  rw[Zu] at hl;obtain⟨y,e,c⟩:=Ry L () hp h;obtain⟨f,g,i⟩:=GK hp rest (hs++[h]) _ c ()
  grind
def Rz {t:YD}(hp:∃k,t.mask+1=2 ^ k)(hs)(b:hs.size<=t.mask+1):∃owner,SetTable.layClean t.mask hs=some owner/\LayOk t owner hs.toList:=by
 have a:LayOk t (Array.replicate (t.mask+1) none) []:=by
  have z:∀j i,(Array.replicate (t.mask+1) (none:Option Nat)).getD j none≠some i:=λj i h=>by
   simp[Array.getElem?_replicate] at h
   split at h<;>exact J5 h
  exact⟨(),(),(),()⟩
 have ⟨o,e,L⟩:=GK hp hs.toList [] _ a ()
 simp_all [SetTable.layClean]
open PySem
def R0 {owner:Array (Option Nat)}{j i:Nat}(h:owner.getD j none=some i):j<owner.size:=()
def KB (mask:Nat)(owner:Array (Option Nat)):List (Nat×Nat):=(List.range (mask+1)).filterMap λj=>(owner.getD j none).map (j,·)
def R1:p∈KB mask owner↔p.1<=mask/\owner.getD p.1 none=some p.2:=by
 unfold KB;rw[List.mem_filterMap];constructor
 .rintro⟨j,a,e⟩;obtain⟨i,b,e⟩:=Jk.mp e;subst e;exact⟨Jn.mp (Jh.mp a),b⟩
 grind
def R3 (mask)(owner):(KB mask owner).Pairwise λa b=>a.1<b.1:=by
 unfold KB;rw[List.pairwise_filterMap];refine List.pairwise_lt_range.imp λ{a b} c x e y f=>?_;obtain⟨i,_,rfl⟩:=Jk.mp e;obtain⟨g,_,rfl⟩:=Jk.mp f;exact c
def CW {α: Type}(l:List α)(i)(d):l.toArray.getD i d=l.getD i d:=()
def CY {α β: Type}(l:List α)(f:α -> β)(i)(hi)(d):(l.map f).getD i d=f l[i]:=()
def R4 {mask:Nat}(hp:∃k,mask+1=2 ^ k)(hs)(S:hs.size<=mask)(finger moves)(led plain):
 ∃t' c,SetTable.laid mask finger moves led plain hs=some (t',c)/\t'.mask=mask/\t'.moves=moves/\t'.led=led/\t'.plain=plain/\t'.finger=finger/\c.size=hs.size/\(∀k,k<c.size->c.getD k 0<hs.size)/\(∀k l,k<c.size->l<c.size->c.getD k 0=c.getD l 0->k=l)/\(∀i,i<hs.size->∃k,k<c.size/\c.getD k 0=i)/\TabOk t' (c.map λi=>hs.getD i 0):=by
 let C:YD:={ mask:=mask,place:=#[],dummies:=#[],finger:=0,led:=false,moves:=0,plain:=true }
 obtain⟨owner,e,L⟩:=Rz (t:=C) hp hs ();have e:SetTable.layClean mask hs=some owner:=e;have hsz:owner.size=mask+1:=L.size;have mem:=λp=>R1 (mask:=mask) (owner:=owner) (p:=p);have B:=R3 mask owner;have x:((KB mask owner).map (·.2)).Nodup:=by
  unfold List.Nodup;rw[U0];refine List.Pairwise.imp_of_mem (λ{a b} E F G n=>?_) B;have m:=((mem a).mp E).2;have u:=((mem b).mp F).2;rw[n] at m;have:=L.one _ _ _ m u;lia
 have v:((KB mask owner).map (·.2)) ⊆ List.range hs.size:=λz hz=>by
  obtain⟨p,hp,rfl⟩:=Ja.mp hz;have:=L.lt _ _ ((mem p).mp hp).2;exact Jh.mpr (by simpa using this)
 have o:List.range hs.size ⊆ ((KB mask owner).map (·.2)):=λi g=>by
  obtain⟨j,m,u,_⟩:=L.all i (by simpa using Jh.mp g);exact Ja.mpr ⟨(j,i),(mem (j,i)).mpr ⟨m,u⟩,rfl⟩
 have len:(KB mask owner).length=hs.size:=by
  have a:=VY x v;have b:=VY List.nodup_range o;rw[Zql,ZC] at a b;lia
 have H:SetTable.laid mask finger moves led plain hs=some ({ mask:=mask,place:=((KB mask owner).map (·.1)).toArray,dummies:=#[],finger:=finger,led:=led,moves:=moves,plain:=plain },((KB mask owner).map (·.2)).toArray):=by
  unfold SetTable.laid;rw[e];rfl
 generalize I:KB mask owner=lv at *;have w:∀i g,((lv.map (·.1)).toArray).getD i 0=lv[i].1:=λi g=>by rw[CW,CY _ _ _ g]
 have go:∀i g,((lv.map (·.2)).toArray).getD i 0=lv[i].2:=λi g=>by rw[CW,CY _ _ _ g]
 have r:=Jj.mp B;refine⟨_,_,H,rfl,rfl,rfl,rfl,rfl,by simpa using len,λk f=>?_,λk l f h n=>?_,λi g=>?_,?_⟩
 .have f:k<lv.length:=by simpa using f
  rw[go k f];have:=L.lt _ _ ((mem lv[k]).mp (Uv f)).2;simpa using this
 .have f:k<lv.length:=by simpa using f
  have h:l<lv.length:=by simpa using h
  rw[go k f,go l h] at n;have m:=((mem lv[k]).mp (Uv f)).2;have u:=((mem lv[l]).mp (Uv h)).2;rw[n] at m;have T:=L.one _ _ _ m u;rcases Ve k l with q|q|q
  .have:=r k l f h q;lia
  .exact q
  .have:=r l k h f q;lia
 .obtain⟨p,hp,n⟩:=Ja.mp (o (Jh.mpr g));obtain⟨k,f,rfl⟩:=UB hp;exact⟨k,by simpa using f,by rw[go k f];exact n⟩
 .have J:∀j,xY owner j->yp { mask:=mask,place:=(lv.map (·.1)).toArray,dummies:=#[],finger:=finger,led:=led,moves:=moves,plain:=plain } j:=by
   rintro j ⟨i,s⟩;have K:=R0 s;have M:(j,i)∈lv:=(mem (j,i)).mpr ⟨by show j<=mask;lia,s⟩;obtain⟨k,f,n⟩:=UB M;exact⟨k,by simpa using f,by show((lv.map (·.1)).toArray).getD k 0=j;rw[w k f,n]⟩
  refine⟨(),λi j y s=>?_,λi g=>?_,rfl,hp,by show((lv.map (·.1)).toArray).size<=mask;simp;lia,λk f=>?_⟩
  .have s:j<lv.length:=by simpa using s
   show((lv.map (·.1)).toArray).getD i 0<((lv.map (·.1)).toArray).getD j 0;rw[w i (),w j s];exact r i j () s y
  .have g:i<lv.length:=by simpa using g
   show((lv.map (·.1)).toArray).getD i 0<=mask;rw[w i g];exact((mem lv[i]).mp (Uv g)).1
  .have f:k<lv.length:=by simpa using f
   have m:=((mem lv[k]).mp (Uv f)).2;have A:=L.lt _ _ m;obtain⟨j,U,N,O⟩:=L.all lv[k].2 A;have P:=L.one _ _ _ N m;subst P;have Q:(((lv.map (·.2)).toArray).map λi=>hs.getD i 0).getD k 0=hs.toList.getD lv[k].2 0:=by
    have R:((lv.map (·.2)).toArray).map (λi=>hs.getD i 0)=((lv.map (·.2)).map λi=>hs.getD i 0).toArray:=by simp
    rw[R,CW,Zw,CY _ _ _ f];show hs.getD lv[k].2 0=_;rw[VX,Ut,Vm]
   rw[Q];show va _ _ _ (((lv.map (·.1)).toArray).getD k 0);rw[w k f];exact O.mono rfl J
theorem GL:∀fuel a n,(∃k,a=2 ^ k)->n<a*2 ^ fuel->(∃k,SetTable.sizeAbove.go n fuel a=2 ^ k)/\n<SetTable.sizeAbove.go n fuel a
 | 0,a,n,hp,h=>by
  simp_all [SetTable.sizeAbove.go]
 |fuel+1,a,n,⟨k,hk⟩,h=>by
  unfold SetTable.sizeAbove.go
  split
  .exact GL fuel (a*2) n ⟨k+1,()⟩ ()
  grind
def GM (h:n<1000000000):(∃k,SetTable.sizeAbove n=2 ^ k)/\n<SetTable.sizeAbove n:=
 GL 64 8 n ⟨3,rfl⟩ (Zg h (by decide))
theorem GN:∀fuel a n,a<=2*n+8->SetTable.sizeAbove.go n fuel a<=2*n+8
 | 0,a,n,h=>h
 |fuel+1,a,n,h=>by
  unfold SetTable.sizeAbove.go
  split
  .exact GN fuel (a*2) n ()
  lia
def R5 (n):SetTable.sizeAbove n<=2*n+8:=GN 64 8 n ()
def R6 {t:YD}{hs:Array Int}{wanted:Nat}(r:hs.size<=wanted)(f:wanted<1000000000):
 ∃t' a,t.relaid hs wanted=some (t',a)/\t'.led=t.led/\t'.plain=t.plain/\t'.mask+1=SetTable.sizeAbove wanted/\a.size=hs.size/\(∀k,k<a.size->a.getD k 0<hs.size)/\(∀k b,k<a.size->b<a.size->a.getD k 0=a.getD b 0->k=b)/\(∀i,i<hs.size->∃k,k<a.size/\a.getD k 0=i)/\TabOk t' (a.map λi=>hs.getD i 0):=by
 obtain⟨⟨k,s⟩,g⟩:=GM f;have h:SetTable.sizeAbove wanted-1+1=SetTable.sizeAbove wanted:=()
 obtain⟨t',a,e,j,_,l,m,_,n,o,p,q,c⟩:=R4 ⟨k,by rwa [h]⟩ hs () t.finger (t.movedTo (SetTable.sizeAbove wanted-1)) t.led t.plain;exact⟨t',a,e,l,m,by rwa [j],n,o,p,q,c⟩
open PySem
variable {prog:Program}{w:World}{A:Around}{E:Ya}{s:Shared}
theorem TabOk.fits {t:YD}{es:Array (Int×Value)}(T:TabOk t (es.map (·.1))):t.fits es.size=true:=by
 have a:=T.size;rw[Ul] at a;unfold SetTable.fits SetTable.fill;rw[T.nod];simp[a,show es.size<=t.mask by have:=T.room;lia]
def GO {es:Array (Int×Value)}{i:Nat}(hi):(es.map (·.1)).getD i 0=es[i].1:=()
def CZ {es:Array (Int×Value)}{i:Nat}(hi):(es[i]?.map (·.1)).getD 0=es[i].1:=()
def V5 (t:YD)(p:SetTable.Probe):Prop:=p.j+p.more<=t.mask
def GP (t)(h:i<=t.mask):V5 t (Km t.mask i pert):=by
 have:=CV h;show i+(SetTable.runEnd t.mask i-i)<=t.mask;lia
def R7 (h:V5 t p):V5 t (t.advance p):=by
 unfold V5 at h;unfold SetTable.advance
 split
 .show p.j+1+(p.more-1)<=t.mask;lia
 .have a:(SetTable.leap t.mask p.i p.perturb).1<=t.mask:=Jn.mp (UC _ (Vd _));exact GP t (pert:=(SetTable.leap t.mask p.i p.perturb).2) a
def R8 (h:V5 t p)(n):V5 t (JG t n p):=by
 induction n generalizing p with
 |zero=>exact h
 |succ n a=>exact a (R7 h)
def R9 (t)(h):V5 t (t.probeStart h):=GP t (Jn.mp (UC _ (Vd _)))
def RA (h:V5 t p)(n):(JG t n p).j<=t.mask:=by
 have:=R8 h n
 grind[V5]
theorem GQ {a:Addr}{o:Obj}{es:Array (Int×Value)}{ep:Nat}{t:YD}{x:Value}{h:Int}{same:Value->Bool}{Q:SetFound->YC}{e:Nat}
 (O:s.heap.get? a=some o) (P:o.data=.set es ep t) (T:TabOk t (es.map (·.1))) (u:t.mask % 2=1)
 (hq:∀i (l:i<es.size),es[i].1=h->∀Q:Bool->YC,Q (same es[i].2) s->YJ prog w A (eqBool es[i].2 x) Q E s)
 (hr:∀i (l:i<es.size),∃b,es[i].2=.ref b)
 (hsn:t.led=true\/∀Q:Bool->YC,Q false s->YJ prog w A (searchCouldBeSeen x ((es.filter (·.1 == h)).toList.map (·.2))) Q E s)
 (he:e<10*SetTable.turns t.mask) (H:∀m,m<e->yp t (JG t m (t.probeStart h)).j) (r:¬yp t (JG t e (t.probeStart h)).j)
 (I:∀i (l:i<es.size),es[i].1=h->same es[i].2=true->Q (.there none) s)
 (v:(∀i (l:i<es.size),es[i].1=h->same es[i].2=false)->Q (.free (JG t e (t.probeStart h)).j false) s):
 ∀fuel c st,c<=e->e-c<fuel->st.getD (t.probeStart h)=JG t c (t.probeStart h) ->
  (∀m i l,m<c->t.slot (JG t m (t.probeStart h)).j=.live i->es[i].1=h->same es[i].2=false) ->
  YJ prog w A (setSearchFrom a x h true fuel st) Q E s
 | 0,c,st,hc,hf,_,_=>Zn hf (UR _)
 |fuel+1,c,st,hc,hf,hst,hno=>by
  have hsz:t.place.size=es.size:=by have:=T.size;rwa [Ul] at this
  show wpAny _ _ (_ >>= _) _ _ _;refine Za (wpAny_setState_of O P T.fits ?_);dsimp only;have hg:t.gaveWay=false:=by unfold SetTable.gaveWay;rw[u];rfl
  rw[hg];simp only[UF,if_false];have live:∀m,m<e->∃i,t.slot (JG t m (t.probeStart h)).j=.live i/\i<es.size/\t.place.getD i 0=(JG t m (t.probeStart h)).j:=λm hm=>by
   obtain⟨i,h1,h2,h3⟩:=Ro T.up (H m hm);exact⟨i,h1,(),h3⟩
  have step:∀m,JG t m (JG t c (t.probeStart h))=JG t (c+m) (t.probeStart h):=λm=>(YP t c m _).symm;have F:∀g:Nat->Int,(∀i,g i=(es[i]?.map (·.1)).getD 0)->(∃m i,c<=m/\m<e/\t.slot (JG t m (t.probeStart h)).j=.live i/\g i=h/\t.probe g h (st.getD (t.probeStart h))=some (.candidate (JG t m (t.probeStart h)).j i (JG t (m+1) (t.probeStart h)))/\∀f j,c<=f->f<m->t.slot (JG t f (t.probeStart h)).j=.live j->g j≠h) \/
   (t.probe g h (st.getD (t.probeStart h))=some (.empty (JG t e (t.probeStart h)).j none)/\∀f j,c<=f->f<e->t.slot (JG t f (t.probeStart h)).j=.live j->g j≠h):=λg _=>by
   rw[hst];have sd:(JG t c (t.probeStart h)).dummy=none:=Rl rfl c;have ek:c+(e-c)=e:=()
   rcases GC (t:=t) (hashAt:=g) (h:=h) (e-c) (10*SetTable.turns t.mask) (JG t c (t.probeStart h)) () sd () (by rw[step,ek];exact Rn T.nod r) with ⟨m,i,g1,g2,g3,g4,g5⟩|⟨g1,g2⟩
   .rw[step] at g2 g4;rw[step] at g4;refine .inl ⟨c+m,i,(),(),g2,g3,g4,λf j a1 a2 R=>g5 (f-c) j () (by rw[step,show c+(f-c)=f by lia];exact R)⟩
   .rw[step,ek] at g1;exact .inr ⟨g1,λf j a1 a2 R=>g2 (f-c) j () (by rw[step,show c+(f-c)=f by lia];exact R)⟩
  generalize B:t.probe _ h (st.getD (t.probeStart h))=met;have J:∀i l,es[i].1=h->∃m,m<e/\t.slot (JG t m (t.probeStart h)).j=.live i:=λi l C=>by
   obtain⟨n,S,n2⟩:=T.ways i ();rw[GO l,C] at S n2;refine⟨n,?_,by rw[S];exact GE T.up () rfl⟩;rcases Ve n e with q|q|q
   .exact q
   .subst q;exact Zn ⟨i,(),S.symm⟩ r
   .exact Zn (n2 e q) r
  rcases F _ (λi=>rfl) with ⟨m,i,c1,c2,U,c4,c5,c6⟩|⟨c1,c2⟩
  .have X:=B.symm.trans c5;subst X;obtain⟨i2,k1,k2,k3⟩:=live m c2;rw[U] at k1;cases k1;have C:es[i].1=h:=by rw[<- CZ k2];exact c4
   dsimp only;have rest:YJ prog w A (do
    let some (_,y):=es[i]? | unsupported "internal:set-entry"
    let p <- holding [y] (eqBool y x)
    let (es',_,t') <- setState a
    if true&&p then return SetFound.there none
    let some same:=t'.sameMemory t.moves t.mask|unsupported "set.changed-during-lookup:is-the-new-block-at-the-old-address"
    let G <- match (if same then t'.slot (JG t m (t.probeStart h)).j else .empty) with
     | .live j=>match es'[j]? with
      |some (_,y')=>do pure (if <- isSame y' y then some j else none)
      |none=>pure none
     |_=>pure none
    match G with
    |none=>rule "set.search.anew";setSearchFrom a x h true fuel none
    |some j=>if p then return .there (some j) else setSearchFrom a x h true fuel (some (JG t (m+1) (t.probeStart h)))) Q E s:=by
    rw[UA k2];dsimp only;refine Za (wpAny_holding (hq i k2 C _ ?_));refine Za (wpAny_setState_of O P T.fits ?_);dsimp only;cases hs:same es[i].2 with
    |true =>
     simp only[Bool.and_self,if_true];exact Zb (I i k2 C hs)
    |false =>
     simp only[Bool.and_false,UF,if_false];have Y:t.sameMemory t.moves t.mask=some true:=by unfold SetTable.sameMemory;rw[Zd (beq_self_eq_true _)]
     rw[Y];dsimp only;simp only[if_true];rw[U];dsimp only;rw[UA k2];dsimp only;obtain⟨b,hb⟩:=hr i k2;have Z:∀{Q':Bool->YC},Q' true s->YJ prog w A (isSame es[i].2 es[i].2) Q' E s:=λ{Q'} hq'=>by
      rw[hb];unfold isSame;dsimp only;rw[Zd (beq_self_eq_true _)];exact Zb hq'
     refine Za (Z ?_);simp only[if_true];refine Za (Zb ?_);dsimp only;refine GQ O P T u hq hr hsn he H r I v fuel (m+1) _ () () rfl λf j K hm' N L=>?_;by_cases d1:f<c
     .exact hno f j K d1 N L
     .by_cases d2:f=m
      .subst d2;rw[U] at N;cases N;exact hs
      .exact Zn (by rw[CZ K];exact L) (c6 f j () () N)
   cases M:t.led with
   |true =>
    rw[Ze ()];exact rest
   |false =>
    rw[Zd ()];rcases hsn with z|hsn
    .rw[z] at M;cases M
    .refine Za (hsn _ ?_);rw[Ze ()];exact rest
  .have X:=B.symm.trans c1;subst X;dsimp only;refine Zb (v λi l C=>?_);obtain⟨m,m1,m2⟩:=J i l C;by_cases d1:m<c
   .exact hno m i l d1 m2 C
   .exact Zn (by rw[CZ l];exact C) (c2 m i () m1 m2)
def RB {a:Addr}{o:Obj}{es:Array (Int×Value)}{ep:Nat}{t:YD}{x:Value}{h:Int}{same:Value->Bool}{Q:SetFound->YC}
 (p:s.heap.get? a=some o) (q:o.data=.set es ep t) (T:TabOk t (es.map (·.1))) (c:t.mask % 2=1) (B:t.mask<=9000)
 (r:∀i (l:i<es.size),es[i].1=h->∀Q:Bool->YC,Q (same es[i].2) s->YJ prog w A (eqBool es[i].2 x) Q E s)
 (u:∀i (l:i<es.size),∃b,es[i].2=.ref b)
 (m:t.led=true\/∀Q:Bool->YC,Q false s->YJ prog w A (searchCouldBeSeen x ((es.filter (·.1 == h)).toList.map (·.2))) Q E s)
 (n:∀i (l:i<es.size),es[i].1=h->same es[i].2=true->Q (.there none) s)
 (f:(∀i (l:i<es.size),es[i].1=h->same es[i].2=false)->∀y,y<=t.mask->¬yp t y->va t (yp t) h y->Q (.free y false) s):
 YJ prog w A (setSearch a x h true) Q E s:=have ⟨e,v,g,j⟩:=Rr T h;GQ p q T c r u m v g j n (λz=>f z _ (RA (R9 t h) e) j ⟨e,rfl,g⟩) 100000 0 none (Ua _) (by grind[SetTable.turns]) rfl ()
open PySem
theorem GR:∀fuel a n,a<=SetTable.sizeAbove.go n fuel a
 | 0,a,n=>by simp_all [SetTable.sizeAbove.go]
 |fuel+1,a,n=>by
  unfold SetTable.sizeAbove.go
  split
  .exact Zh () (GR fuel (a*2) n)
  .exact Zf _
def RC (n):8<=SetTable.sizeAbove n:=GR 64 8 n
def RD {m k:Nat}(h:m+1=2 ^ k)(a:7<=m):m % 2=1:=by
 cases k with
 |zero=>lia
 |succ k=>lia
def RE {b:Yi}{n:Nat}(o:∀k,k<b.size->b.getD k 0<n)(p:∀k m,k<b.size->m<b.size->b.getD k 0=b.getD m 0->k=m)(q:∀i,i<n->∃k,k<b.size/\b.getD k 0=i):b.toList.Perm (List.range n):=by
 have r:b.toList.Nodup:=by
  unfold List.Nodup;rw[List.pairwise_iff_getElem];intro i j t u v e;have c:i<b.size:=by simpa using t
  have f:j<b.size:=by simpa using u
  have:=p i j c f (by rw[Ko c,Ko f];simpa using e);lia
 refine List.perm_iff_count.mpr λa=>?_;rw[r.count,List.nodup_range.count];have:a∈b.toList↔a∈List.range n:=by
  rw[List.mem_range];constructor
  .intro h;obtain⟨k,l,e⟩:=UB h;have g:k<b.size:=by simpa using l
   have:=o k g;rw[Ko g] at this;have e:b[k]=a:=by simpa using e
   lia
  .intro h;have ⟨k,l,e⟩:=q a h;rw[Ko l] at e;rw[<- e,VM];exact VN l
 simp only[this]
def RF {α: Type}{es:Array α}{a:Yi}(d)(c:∀k,k<a.size->a.getD k 0<es.size):(a.filterMap (es[·]?))=a.map λi=>es.getD i d:=by
 apply Array.toList_inj.mp;rw[Array.toList_filterMap,Array.toList_map];have:∀l:Yj,(∀i∈l,i<es.size)->l.filterMap (es[·]?)=l.map λi=>es.getD i d:=by
  intro l
  induction l with
  |nil=>intro _;rfl
  |cons i l g =>
   simp_all
 refine this _ λi f=>?_;obtain⟨k,h,e⟩:=UB f;have b:k<a.size:=()
 have:=c k b
 simp_all
structure SetIs (hp:Heap)(a:Addr)(es:Array (Int×Value))(t:YD):Prop where
 at_:∃ep,hp.get? a=some { cls:=.type "set",dict:=none,data:=.set es ep t,slots:=#[] }
 tab:TabOk t (es.map (·.1))
 seven:7<=t.mask
 most:t.mask<=8*es.size+7
 room:es.size*5<t.mask*3
 refs:∀i (hi:i<es.size),∃b,es[i].2=.ref b
def SetIs.odd {hp:Heap}{a:Addr}{es:Array (Int×Value)}{t:YD}(S:SetIs hp a es t):t.mask % 2=1:=have ⟨k,b⟩:=S.tab.pow;RD b S.seven
variable {prog:Program}{w:World}{A:Around}{E:Ya}{s:Shared}
def GS {hp:Heap}{a:Addr}{es es':Array (Int×Value)}{ep:Nat}{t t':YD}(b:hp.get? a=some { cls:=.type "set",dict:=none,data:=.set es ep t,slots:=#[] }):
 (hp.update a (Obj.putSet es' t')).get? a=some { cls:=.type "set",dict:=none,data:=.set es' (ep+1) t',slots:=#[] }:=by
 have:=Heap.get?_update_self (Obj.putSet es' t') b (by rfl)
 rwa [(putSet_of es' t' rfl)] at this
def RG {α β: Type}(f:α -> β)(xs)(p)(x):(SetTable.insertAt xs p x).map f=SetTable.insertAt (xs.map f) p (f x):=by
 unfold SetTable.insertAt;simp
def RH {a:Addr}{es:Array (Int×Value)}{ep:Nat}{t:YD}{Q:Unit->YC}
 (m:s.heap.get? a=some { cls:=.type "set",dict:=none,data:=.set es ep t,slots:=#[] }) (T:TabOk t (es.map (·.1))) (U:1<=es.size) (X:es.size<=1000) (C:∀i (f:i<es.size),∃b,es[i].2=.ref b)
 (h:∀es' t',es'.toList.Perm es.toList->t'.led=t.led->t'.plain=t.plain->SetIs (s.heap.update a (Obj.putSet es' t')) a es' t'->Q Yt { s with heap:=s.heap.update a (Obj.putSet es' t') }):
 YJ prog w A (setRelay a (SetTable.grown es.size)) Q E s:=by
 have F:SetTable.grown es.size=es.size*4:=by unfold SetTable.grown;rw[Ze ()]
 have G:=R5 (es.size*4);obtain⟨_,H⟩:=GM (n:=es.size*4) ();have I:=RC (es.size*4);obtain⟨t',c,e,J,K,Y,r,l,L,u,M⟩:=R6 (t:=t) (hs:=es.map (·.1)) (wanted:=es.size*4) (by rw[Ul];lia) ();rw[Ul] at r l u;rw[F];unfold setRelay;refine Za (wpAny_setState_of m rfl T.fits ?_);dsimp only;rw[Ze (by rw[sizeLine_eq];lia)];rw[e];have v:=RF (es:=es) (0,Value.none) l;have g:(c.filterMap (es[·]?)).size=es.size:=by rw[v,Ul];exact r
 have o:(c.filterMap (es[·]?)).toList.Perm es.toList:=by
  rw[Array.toList_filterMap];exact((RE l L u).filterMap _).trans (by rw[filterMap_getElem?_range])
 have x:(c.filterMap (es[·]?)).map (·.1)=c.map λi=>(es.map (·.1)).getD i 0:=by
  rw[v,Array.map_map];apply Array.map_congr_left;intro i f;obtain⟨k,y,N⟩:=Array.getElem_of_mem f;have:=l k y;rw[Ko y,N] at this;show(es.getD i (0,Value.none)).1=_;rw[Ko this,GO this]
 have z:TabOk t' ((c.filterMap (es[·]?)).map (·.1)):=by rw[x];exact M
 have B:∀i (f:i<(c.filterMap (es[·]?)).size),∃b,(c.filterMap (es[·]?))[i].2=.ref b:=λi f=>by
  have O:(c.filterMap (es[·]?))[i]∈es.toList:=o.mem_iff.mp (by rw[VM];exact VN f);obtain⟨j,P,R⟩:=UB O;have p:j<es.size:=by simpa using P
  obtain⟨b,S⟩:=C j p;refine⟨b,?_⟩;rw[<- R];simpa using S
 have q:¬((c.filterMap (es[·]?)).size != es.size)=true:=by rw[g];simp
 refine Za (wpAny_of_eq (a:=(c.filterMap (es[·]?),t')) ?_ ?_)
 .show(if((c.filterMap (es[·]?)).size != es.size)=true then _ else _)=_;rw[Ze q]
 .dsimp only;generalize c.filterMap (es[·]?)=es' at g o z B x;exact wpAny_storeSet_of m rfl (h es' t' o J K ⟨⟨ep+1,GS m⟩,z,(),(),(),B⟩) (by rw[sizeLine_eq];lia)
def RJ {es es':Array (Int×Value)}(e:∀i (a:i<es.size),∃b,es[i].2=.ref b){x:Value}{h:Int}{b:Addr}(f:x=.ref b)(g:es'.toList.Perm (es.toList++[(h,x)])):∀i (a:i<es'.size),∃b,es'[i].2=.ref b:=λi a=>by
 rcases Jb.mp (g.mem_iff.mp (by rw[VM];exact VN a)) with z|z
 .obtain⟨j,l,m⟩:=UB z;have c:j<es.size:=by simpa using l
  obtain⟨b,n⟩:=e j c;refine⟨b,?_⟩;rw[<- m];simpa using n
 .rw[Jd.mp z];exact⟨b,f⟩
def RK {a:Addr}{es:Array (Int×Value)}{t:YD}{x:Value}{b:Addr}{h:Int}{same:Value->Bool}{Q:Bool->YC}
 (S:SetIs s.heap a es t) (O:x=.ref b) (hl:es.size+1<=1000)
 (T:∀i (C:i<es.size),es[i].1=h->∀Q:Bool->YC,Q (same es[i].2) s->YJ prog w A (eqBool es[i].2 x) Q E s)
 (H:t.led=true\/∀Q:Bool->YC,Q false s->YJ prog w A (searchCouldBeSeen x ((es.filter (·.1 == h)).toList.map (·.2))) Q E s)
 (U:∀Q:Bool->YC,Q true s->YJ prog w A (hashByValue 8 x) Q E s)
 (I:∀i (C:i<es.size),es[i].1=h->same es[i].2=true->Q false s)
 (l:(∀i (C:i<es.size),es[i].1=h->same es[i].2=false)->∀h' es' t',Heap.SameBut a s.heap h'->SetIs h' a es' t'->es'.toList.Perm (es.toList++[(h,x)])->t'.led=t.led->t'.plain=t.plain->Q true { s with heap:=h' }):
 YJ prog w A (setAddHashed a x h) Q E s:=by
 obtain⟨ep,o⟩:=S.at_;have J:t.mask<=9000:=by have:=S.most;lia
 unfold setAddHashed setAddHashedIn;refine wpAny_holding (Za (wpAny_setState_of o rfl S.tab.fits ?_));dsimp only;have X:byScan x es=false:=by subst O;rfl
 rw[X];simp only[UF,if_false];refine Za (RB o rfl S.tab S.odd J T S.refs H (λi C Y Z=>Zb (I i C Y Z)) λq y hy hf hw=>?_);dsimp only;refine Za (wpAny_setState_of o rfl S.tab.fits ?_);dsimp only;have hsz:t.place.size=es.size:=by have:=S.tab.size;rwa [Ul] at this
 have K:=S.room;have F:=S.seven;obtain⟨m,f,r⟩:=Rs S.tab hy hf hw ();rw[Ul] at f;have g:(t.put y).1.led=t.led:=rfl;have j:(t.put y).1.plain=t.plain:=rfl;generalize P:t.put y=tp at m f r g j;obtain⟨e,p⟩:=tp;dsimp only at m f r g j ⊢;have em:(SetTable.insertAt es p (h,x)).map (·.1)=SetTable.insertAt (es.map (·.1)) p h:=RG _ _ _ _;rw[<- em] at m;have G:(SetTable.insertAt es p (h,x)).toList.Perm (es.toList++[(h,x)]):=by
  have:=SetTable.insertAt_perm es p (h,x)
  rwa [Array.toList_push] at this
 have u:(SetTable.insertAt es p (h,x)).size=es.size+1:=CU es f _;have n:=RJ S.refs O G;generalize SetTable.insertAt es p (h,x)=es1 at m G u n;have R:YJ prog w A (do
  storeSet a es1 e
  if !false&&e.tooFull then setRelay a (SetTable.grown (es.size+1))
  return true) Q E s:=by
  refine Za (wpAny_storeSet_of o rfl ?_ (by rw[sizeLine_eq];lia));have v:=GS (es':=es1) (t':=e) o;have B:=Heap.SameBut.update s.heap a (Obj.putSet es1 e);by_cases c:e.tooFull=true
  .rw[Zd (by rw[c];rfl)];rw[<- u];refine Za (RH v m () () n λL t2 M l2 p2 S2=>(Zb (l q _ L t2 (B.trans (Heap.SameBut.update _ a _)) S2 (M.trans G) (l2.trans g) (p2.trans j))))
  .rw[Ze (by simpa using c)];have N:¬(e.fill*5 ≥ e.mask*3):=by
    intro z;exact c (Zp z)
   have hfl:e.fill=es1.size:=by
    unfold SetTable.fill;have:=m.size;rw[Ul] at this;rw[this,m.nod];rfl
   have S1:SetIs (s.heap.update a (Obj.putSet es1 e)) a es1 e:=⟨⟨ep+1,v⟩,m,(),by have:=S.most;lia,(),n⟩;exact Zb (l q _ es1 e B S1 G g j)
 grind[wpAny_bind,wpAny_pure]
open PySem
variable {prog:Program}{w:World}{A:Around}{E:Ya}{s:Shared}
inductive HashAll (prog:Program)(w:World)(A:Around)(E:Ya)(s:Shared):Yf->List Int->Prop
 |nil:HashAll prog w A E s [] []
 |cons {v:Value} {vs:Yf} {h:Int} {hs:Yh}:(∀(tk:Nat) (Q:Int->YC),(∀tk',tk<=tk'->Q h { s with toks:=tk' })->YJ prog w A (pyHash v) Q E { s with toks:=tk })->HashAll prog w A E s vs hs->HashAll prog w A E s (v::vs) (h::hs)
def Da (hs:Yh):Int:=reduceHash (Builtin.Tuple.tupleHashOf hs)
def GT (g:s.heap.get? a=some o)(i:o.cls=.type "tuple")(j:o.data=.seq items n)(l:A.units<cLine)
 (H:HashAll prog w A.in1 E s items.toList hs) (h:∀tk,tk0<=tk->Q (Da hs) { s with toks:=tk }):YJ prog w A (pyHash (.ref a)) Q E { s with toks:=tk0 }:=by
 have m:Shared.TypeIs { s with toks:=tk0 } (.ref a) "tuple" := ⟨o,g,i⟩;refine W.pyHash_slot m F.slot_tuple_hash F.entry_tuple_hash (F.args_tuple_hash_1 _) (beq_builtin_none _) (.inr l) ?_;show wpAny _ _ (Builtin.Tuple.tupleItemsOf (.ref a) >>= _) _ _ _;refine Za (wpAny_tupleItemsOf g j (Za ?_));rw[<- Vo];refine wpAny_forIn_list _ (λrest (b:Array Int) s'=>∃left tk,HashAll prog w A.in1 E s rest left/\b.toList++left=hs/\s'={ s with toks:=tk }/\tk0<=tk) _ ?_ ?_ _ _ ⟨hs,tk0,H,rfl,rfl,Zf _⟩
 .rintro x rest b s' ⟨left,tk,e,f,rfl,c⟩;cases e with
  |cons q p =>
   grind[wpAny_bind,wpAny_pure,Nat.le_trans]
 .rintro b s' ⟨left,tk,e,f,rfl,c⟩;cases e;rw[ZB] at f;show wpAny _ _ (retInt (Builtin.Tuple.tupleHashOf b.toList)) _ _ _;rw[f];exact Za (wpAny_mkInt (Zb ⟨_,_,rfl,h _ (Vl c)⟩))
theorem GU:∀{a:Yf} {ns:Yh},PyProof.Rows.IntsAre a ns->HashAll prog w A E s a (ns.map hashInt)
 |_,_,.nil=>.nil
 |_,_,.cons n t r=>.cons (λtk Q h=>wpAny_pyHash_int (h _ (Nat.le_succ tk))) (GU r)
inductive PlainV (hp:Heap):Nat->Value->Prop
 |int (n:Nat) (i:Int) (t:Tok):PlainV hp n (.int i t)
 |tup {n:Nat} {a:Addr} {o:Obj} {items:Yn} {k:Nat}:hp.get? a=some o->o.cls=.type "tuple" -> o.data=.seq items k->(∀v∈items.toList,PlainV hp n v)->PlainV hp (n+1) (.ref a)
def RL (p:PlainV s.heap n v):∀d Q,n<=d->Q true s->YJ prog w A (hashByValue d v) Q E s:=by
 induction p with
 |int n i t =>
  intro d Q _ h;cases d<;>exact Zb h
 |tup a b c _ g =>
  intro d Q j h;cases d with
  |zero=>lia
  |succ d =>
   have e:Shared.TypeIs s (.ref _) "tuple" := ⟨_,a,b⟩;refine Za (wpAny_specialOf e F.slot_tuple_hash.lookup (Za (wpAny_seqItems a c (Za ?_))));rw[Option.getD_some,<- Vo];refine wpAny_forIn_list _ (λrest r s'=>r.1=none/\s'=s/\∀v∈rest,v∈_) _ ?_ ?_ _ _ ⟨rfl,rfl,λv f=>f⟩
   .grind[wpAny_bind,wpAny_pure]
   grind[wpAny_pure]
def GV (p:PlainV s.heap n v):∀d Q,n<=d->Q true s->YJ prog w A (eqIsQuiet d v) Q E s:=by
 induction p with
 |int n i t =>
  intro d Q _ h;exact wpAny_of_eq (eqIsQuiet_byValue d rfl) h
 |tup a c e _ g =>
  intro d Q j h;cases d with
  |zero=>lia
  |succ d =>
   have b:Shared.TypeIs s (.ref _) "tuple" := ⟨_,a,c⟩;unfold eqIsQuiet;refine Za (wpAny_specialOf b F.slot_tuple_eq.lookup (Za (wpAny_isInstance b isSubtype_tuple_tuple (Za (wpAny_seqItems a e (Za ?_))))));rw[Option.getD_some,<- Vo];refine wpAny_forIn_list _ (λrest r s'=>r.1=none/\s'=s/\∀v∈rest,v∈_) _ ?_ ?_ _ _ ⟨rfl,rfl,λv f=>f⟩
   .grind[wpAny_bind,wpAny_pure]
   grind[wpAny_pure]
def GW (p:PlainV s.heap n v):∀d Q,n<=d->Q false s->YJ prog w A (ofAClassStatement d v) Q E s:=by
 induction p with
 |int n i t =>
  intro d Q _ h;cases d<;>exact Zb h
 |tup a b c _ g =>
  intro d Q j h;cases d with
  |zero=>lia
  |succ d =>
   have e:Shared.TypeIs s (.ref _) "tuple" := ⟨_,a,b⟩;unfold ofAClassStatement;refine Za (wpAny_typeOf e ?_);simp;refine Za (wpAny_seqItems a c (Za ?_));rw[<- Vo];refine wpAny_forIn_list _ (λrest r s'=>r.1=none/\s'=s/\∀v∈rest,v∈_) _ ?_ ?_ _ _ ⟨rfl,rfl,λv f=>f⟩
   .grind[wpAny_bind,wpAny_pure]
   grind[wpAny_pure]
def RM (a:n<=8)(b:PlainV s.heap n x)(e:∀y∈ys,PlainV s.heap n y)(h:Q false s):YJ prog w A (searchCouldBeSeen x ys) Q E s:=by
 refine Za (wpAny_forIn_list _ (λrest r s'=>r.1=none/\s'=s/\∀v∈rest,v∈ys) _ ?_ ?_ _ _ ())
 .rintro y rest r s' ⟨g,rfl,f⟩;have c:=e y (f y Zqs);have nx:∀v∈rest,v∈ys:=by grind
  dsimp only
  split
  all_goals
   split
   .exact Zb ⟨rfl,rfl,nx⟩
   .exact Za (GV b 8 _ a (Za (GV c 8 _ a (Za (GW b 8 _ a (Za (GW c 8 _ a (Zb ⟨rfl,rfl,nx⟩))))))))
 grind[wpAny_pure]
structure KeyFam (prog:Program)(w:World)(hp:Heap)(PV:Value->Prop)(hsh:Value->Int)(same:Value->Value->Bool):Prop where
 ref:∀v,PV v->∃b,v=.ref b
 plain:∀v,PV v->PlainV hp 8 v
 hash:∀v,PV v->∀(A:Around) (E:Ya) (s:Shared) (Q:Int->YC),(∀b o,hp.get? b=some o->s.heap.get? b=some o)->A.units+8<cLine->(∀tk,s.toks<=tk->Q (hsh v) { s with toks:=tk })->YJ prog w A (pyHash v) Q E s
 eq:∀v u,PV v->PV u->∀(A:Around) (E:Ya) (s:Shared) (Q:Bool->YC),(∀b o,hp.get? b=some o->s.heap.get? b=some o)->A.units+8<cLine->Q (same v u) s->YJ prog w A (eqBool v u) Q E s
 coh:∀v u,PV v->PV u->same v u=true->hsh v=hsh u
def PlainV.keep (k:∀b o,hp.get? b=some o->hp'.get? b=some o)(p:PlainV hp n v):PlainV hp' n v:=by
 induction p with
 |int n i t=>exact .int n i t
 |tup a c e _ f=>exact .tup (k _ _ a) c e f
def Wr (same:Value->Value->Bool)(D:Yf)(v:Value):Yf:=if D.any (same · v) then D else D++[v]
def yd (same:Value->Value->Bool)(val:Nat->Value)(i:Nat):Yf:=((List.range i).map val).foldl (Wr same) []
theorem AJ (same)(val)(i):yd same val (i+1)=Wr same (yd same val i) (val i):=by
 grind[yd,List.range_succ,List.map_append,List.foldl_append]
theorem GX (same)(val):∀i,(yd same val i).length<=i
 | 0=>Zf _
 |i+1=>by
  have:=GX same val i
  grind[Wr,AJ,List.length_append,List.length_singleton]
theorem Db (same)(val):∀i v,v∈yd same val i->∃j,j<i/\v=val j
 | 0,v,h=>by cases h
 |i+1,v,h=>by
  rw[AJ] at h;unfold Wr at h
  split at h
  .have ⟨j,a,e⟩:=Db same val i v h;exact⟨j,(),e⟩
  .rcases Jb.mp h with z|z
   .have ⟨j,a,e⟩:=Db same val i v z;exact⟨j,(),e⟩
   grind
def Holds (a:Value->Int)(hp:Heap)(S:Addr)(ld:Bool)(D:Yf):Prop:=∃es t,SetIs hp S es t/\es.toList.Perm (D.map λv=>(a v,v))/\t.led=ld/\t.plain=true
section
variable {prog:Program}{w:World}{A:Around}{E:Ya}{s:Shared}
def RN {hp:Heap}{u:Value->Prop}{a:Value->Int}{same:Value->Value->Bool}(K:KeyFam prog w hp u a same){S:Addr}{ld:Bool}{D:Yf}{x:Value}{Q:Bool->YC}
 (B:∀b o,hp.get? b=some o->s.heap.get? b=some o) (P:A.units+8<cLine) (H:Holds a s.heap S ld D) (C:∀v∈D,u v) (q:u x) (hl:D.length<=999)
 (h:∀h' b,Heap.SameBut S s.heap h'->Holds a h' S ld (Wr same D x)->Q b { s with heap:=h' }):YJ prog w A (setAddHashed S x (a x)) Q E s:=by
 obtain⟨es,t,J,j,l,m⟩:=H;obtain⟨b,R⟩:=K.ref x q;have L:es.size=D.length:=by
  have:=j.length_eq
  simp_all
 have f:∀i (c:i<es.size),es[i].2∈D/\es[i].1=a es[i].2:=λi c=>by
  have F:=j.mem_iff.mp (by rw[VM];exact VN c);obtain⟨v,g,e⟩:=Ja.mp F;rw[<- e];exact⟨g,rfl⟩
 have n:∀v∈D,∃i,∃c:i<es.size,es[i]=(a v,v):=λv g=>by
  have F:=j.mem_iff.mpr (Ja.mpr ⟨v,g,rfl⟩);obtain⟨i,c,e⟩:=UB F;exact⟨i,by simpa using c,by simpa using e⟩
 have M:=(K.plain x q).keep B;refine RK (same:=λy=>same y x) J R () (λi c _ r p=>K.eq _ _ (C _ (f i c).1) q A E s r B P p) (.inr λr p=>?_) (λr p=>RL M 8 r (Zf _) p) (λi c h1 T=>?_) λG h' es' t' U X I Y Z=>?_
 .refine RM (Zf 8) M (λy hy=>?_) p;obtain⟨e,N,rfl⟩:=Ja.mp hy;have N:e∈es:=by
   simp_all
  obtain⟨i,c,rfl⟩:=Array.getElem_of_mem N;exact(K.plain _ (C _ (f i c).1)).keep B
 .have e:Wr same D x=D:=Zd (VB.mpr ⟨_,(f i c).1,T⟩);have:=h s.heap false (Heap.SameBut.refl S s.heap) ⟨es,t,J,by rw[e];exact j,l,m⟩;exact this
 .have e:Wr same D x=D++[x]:=Ze λz=>by
   obtain⟨v,g,hs⟩:=VB.mp z;obtain⟨i,c,O⟩:=n v g;have:=G i c (by rw[O];exact K.coh v x (C v g) q hs);rw[O] at this;rw[hs] at this;cases this
  refine h h' true U ⟨es',t',X,?_,Y.trans l,Z.trans m⟩;rw[e,Uc];exact I.trans (j.append_right _)
end
section
variable {prog:Program}{w:World}{A:Around}{R:Result->YC}{I:Addr}{fp wr:Yl}{G:Array GenState->Array GenState->Prop}{n:Nat}{P:Nat->Value->Prop}{St:Nat->YC}
def Holds.keep {b:Value->Int}{hp hp':Heap}{S:Addr}{ld:Bool}{D:Yf}(H:Holds b hp S ld D)(k:∀o,hp.get? S=some o->hp'.get? S=some o):Holds b hp' S ld D:=by
 obtain⟨es,t,a,r⟩:=H;obtain⟨ep,c⟩:=a.at_;exact⟨es,t,⟨⟨ep,k _ c⟩,a.tab,a.seven,a.most,a.room,a.refs⟩,r⟩
def RO (W:WalksS prog w A.in1 I fp wr G n P St)(S)(B:S∉fp)(p:∀b o,hp.get? b=some o->b∉wr/\b≠S)
 {C:Value->Prop} {f:Value->Int} {same:Value->Value->Bool} (K:KeyFam prog w hp C f same) (val) (q:∀i v,P i v->v=val i) (J:∀i,i<n->C (val i)) (hn:n<=999) (Q:A.in1.units+8<cLine) (ld):
 ∀k i s,n-i=k->i<=n->St i s->(∀b o,hp.get? b=some o->s.heap.get? b=some o)->Holds f s.heap S ld (yd same val i) ->
  (∀s',Moved (S::wr) G s s'->Holds f s'.heap S ld (yd same val n)->R (.ok (.ret .none)) s') ->
  codeAny (model prog w) A (.builtin "set.update.loop" ⟨[.ref S,.ref I],[]⟩) R s:=by
 have r:S∉wr:=λh=>B (W.sub _ h);have c:∀b∈wr,b∈S::wr:=by grind
 intro k
 induction k with
 |zero =>
  intro i s T Z g t H L;have M:i=n:=()
  subst M;refine codeAny_builtin F.entry_set_update_loop ?_;rw[Around.under_plainId F.plain_set_update_loop _];show wpAny _ A.in1 (pyNext (.ref I) >>= _) _ _ s;refine Za (W.done s _ _ g λs' m=>?_);show wpAny _ A.in1 (ret Value.none) _ _ s';exact Zb (L s' (m.mono c) (H.keep λo e=>m.heap S _ r e))
 |succ k ih =>
  intro i s T Z g t H L;have j:i<n:=()
  refine codeAny_builtin F.entry_set_update_loop ?_;rw[Around.under_plainId F.plain_set_update_loop _];show wpAny _ A.in1 (pyNext (.ref I) >>= _) _ _ s;refine Za (W.item i s _ _ j g λv s' hP x m=>?_);have U:=q i v hP;have H':=H.keep (hp':=s'.heap) λo e=>m.heap S _ r e;have a:∀b o,hp.get? b=some o->s'.heap.get? b=some o:=λb o e=>m.heap b o (p b o e).1 (t b o e);have X:C v:=by rw[U];exact J i j
  show wpAny _ A.in1 (holding [v] (setAdd S v) >>= _) _ _ s';refine Za (wpAny_holding ?_);unfold setAdd;refine wpAny_holding ?_;refine Za (K.hash v X _ _ _ _ a Q λtk y=>?_);have hl:=GX same val i;refine RN K a Q H' (λu hu'=>?_) X () λh' b l Y=>?_
  .grind[Db]
  .rw[U,<- AJ] at Y;refine Zb ⟨plainId_quiet F.plain_set_update_loop _,ih (i+1) _ (by rw[Nat.sub_succ,T];rfl) j (W.frame _ s' _ _ x ?_ λb hb o e=>?_) (λb o e=>?_) Y λN z O=>?_⟩
   .exact y
   .rw[l.2 b ()];exact e
   .rw[l.2 b (p b o e).2];exact a b o e
   .refine L N (Moved.trans W.gtrans ((m.mono c).then_heap ?_ λb o hb e=>?_) z) O
    .exact y
    .rw[l.2 b ()];exact e
end
def RP (led:Bool):TabOk (SetTable.fresh 0 0 led) ((#[]:Array (Int×Value)).map (·.1)):=by
 refine⟨by rw[Ul];rfl,λi j _ h=>Zn h (UR _),λi h=>Zn h (UR _),rfl,⟨3,rfl⟩,Ua _,λi h=>Zn h (UR _)⟩
def RQ (a:hp.get? S=some { cls:=.type "set",dict:=none,data:=.set #[] 0 (.fresh 0 0 led) }):Holds hsh hp S led []:=
 ⟨#[],.fresh 0 0 led,⟨⟨0,a⟩,RP led,Zf _,Zf _,(show 0*5<7*3 by decide),λi h=>Zn h (UR _)⟩,Vz _,rfl,rfl⟩
section
variable {prog:Program}{w:World}{A:Around}{E:Ya}{s:Shared}
def yU (w:World):Bool:=!w.params.followText "set-order"
def RR (a:Value)
 (h:Q₁ (.ref s.heap.objs.size) { s with heap:=s.heap.push { cls:=.type "set",dict:=none,data:=.set #[] 0 (.fresh 0 0 (yU w)) } }):
 codeAny (model prog w) A (.call (.builtin "set.__new__") ⟨[.type "set",a],[]⟩) (wants Q₁ E) s:=by
 refine codeAny_of_tree ?_;show wpAny _ A.in1 (do checkBuiltinCall "set.__new__" ⟨[.type "set",a],[]⟩;again (.builtin "set.__new__" ⟨[.type "set",a],[]⟩)) _ _ s;refine Za (wpAny_of_eq (F.newCall_set_1 a) (Zb ⟨plainId_quiet F.plain_set_new _,codeAny_builtin F.entry_set_new ?_⟩));rw[Around.under_plainId F.plain_set_new _];unfold Builtin.«set.__new__» Builtin.Frozenset.newClass;have b:=sub_set_self;obtain⟨hp,g,d,tk,os⟩:=s;dsimp only
 wp_walk
 refine wpAny_askSetting (Zb ?_);dsimp only;simp only[newObj];refine Za (wpAny_alloc (Zb ?_));exact Zb h
set_option maxRecDepth 100000 in
set_option maxHeartbeats 3200000 in
def RU {l:Addr}{a:Yn}{Y:Value->Prop}{m:Value->Int}{same:Value->Value->Bool}{Q:Ya}(hh:A.handled=none)(hl:s.heap.IsList l a)(K:KeyFam prog w s.heap Y m same)
 (I:∀(i:Nat) (v:Value),a[i]? = some v->Y v) (hn:a.size<=999) (hu:A.in1.in1.in1.units+8<cLine)
 (h:∀(h':Heap) (tk:Nat),Holds m h' s.heap.objs.size (yU w) (yd same (λi=>a.getD i .none) a.size)->(∀b o,b<s.heap.objs.size->s.heap.get? b=some o->h'.get? b=some o)->Q (.ref s.heap.objs.size) { s with heap:=h',toks:=tk }):
 YJ prog w A (call (.type "set") [.ref l]) Q E s:=by
 have Z:=λA:Around=>RR (prog:=prog) (w:=w) (A:=A) (E:=E) (s:=s) (.ref l) (Q₁:=λq s₁=>q=.ref s.heap.objs.size/\s₁={ s with heap:=s.heap.push { cls:=.type "set",dict:=none,data:=.set #[] 0 (.fresh 0 0 (yU w)) } }) ⟨rfl,rfl⟩;generalize yU w=led at h Z;obtain⟨c,tl,hmro⟩:=F.called_set.mro;have J:=F.called_set.made;have hsub:=F.called_set.sub;refine wpAny_call (codeAny_of_tree ?_);show wpAny _ _ (callAny (.type "set") _) _ _ _;refine Zb ⟨Code.quiet_builtin _ (by decide +kernel),codeAny_builtin F.entry_type_call ?_⟩;rw[Around.under_plain (weight_type_call_type "set" [.ref l] []) rfl];have h1:=F.called_set.notType;have h2:=F.called_set.canCreate;have hct:=F.typeCall_set_1 (.ref l)
 repeat (any_goals (first|assumption|wp_step))
 refine codeAny_mono (Z _) λr s₁ n=>?_;cases r with
 |error e=>exact n
 |ok L =>
  cases L with
  |ret q =>
   obtain⟨rfl,rfl⟩:=n;generalize f:({ cls:=.type "set",dict:=none,data:=.set #[] 0 (.fresh 0 0 led) }:Obj)=no at *;have hS:(s.heap.push no).get? s.heap.objs.size=some no:=Zr _ (by rw[<- f];rfl);have hT:Shared.TypeIs { s with heap:=s.heap.push no } (.ref s.heap.objs.size) "set" := ⟨_,hS,by rw[<- f]⟩;have hli:=F.called_set.init.lookup;have hbi:=F.called_set.init.bind (.ref s.heap.objs.size)
   repeat (any_goals (first|assumption|wp_step))
   refine codeAny_mono (codeAny_call_builtin (R:=wants (λr s₂=>r=.none/\∃h' tk,s₂={ s with heap:=h',toks:=tk }/\Holds m h' s.heap.objs.size led (yd same (λi=>a.getD i .none) a.size) /\
    (∀b o,b<s.heap.objs.size->s.heap.get? b=some o->h'.get? b=some o)) E) F.called_set.init.plain F.entry_set_init (check_set_init_1 hT ?_)) λr₂ s₂ hr₂=>?_
   .obtain⟨ol,t,u,nl,x⟩:=hl;obtain⟨ocls,p,M,g⟩:=ol;simp only at u x;subst u;subst x;have y:(s.heap.push no).get? l=some { cls:=.type "list",dict:=p,data:=.seq a nl,slots:=g }:=Zq _ t;have hsls:=F.sub_list_set;have hslf:=F.sub_list_frozenset;have hne:(Value.type "list" == Value.type "dict")=false:=by decide
    have z:(s.heap.push no).IsList l a:=⟨_,y,rfl,nl,rfl⟩;subst f;unfold Builtin.«set.__init__» noKeywords Builtin.Frozenset.updateFrom;generalize N:pyIter=PI
    wp_walk
    subst N;refine wpAny_pyIter_list z ?_;refine Za (wpAny_runValue ?_);have B:l<s.heap.objs.size:=Zk t;have O:A.in1.in1.in1.handled=none:=by simp[hh]
    generalize f:({ cls:=.type "set",dict:=none,data:=.set #[] 0 (.fresh 0 0 led) }:Obj)=no at *;have j:(s.heap.push no).objs.size=s.heap.objs.size+1:=Heap.size_push ..;have C:l≠(s.heap.push no).objs.size:=by rw[j];exact Zi (UE B)
    have P:s.heap.objs.size ∉ [(s.heap.push no).objs.size,l]:=by
     simp only[Uq,Uw,or_false,not_or];exact⟨by rw[j];exact Zi (UK _),U7 B⟩
    have hw:∀(i:Nat) (v:Value),a[i]? = some v->v=(λi=>a.getD i .none) i:=λi v hv=>by
     show v=a.getD i .none;rw[VX,hv];rfl
    refine RO ((Walks.list O _ l C a).toS) s.heap.objs.size P (hp:=s.heap) (λb o e=>?_) K (λi=>a.getD i .none) hw (λi hi=>?_) hn (by exact hu) led (a.size-0) 0 _ () (Ua _)
     ⟨⟨_,Zr _ rfl,rfl,rfl⟩,(z.push _)⟩ (λb o e=>Zq _ (Zq _ e)) (RQ (by rw[f];exact Zq _ hS)) λs' H H'=>?_
    .have G:=Zk e;refine⟨?_,Zi G⟩;simp only[Uq,Uw,or_false];rw[j];exact Zi (UE G)
    .exact I i _ (by show a[i]? = some (a.getD i .none);rw[Ko hi,UA hi])
    .obtain⟨h',g',d',S,T⟩:=s';have eg:g'=s.gens:=H.gens;have ed:d'=s.drawn:=H.drawn;have eo:T=s.os:=H.os;subst eg;subst ed;subst eo;show wpAny _ _ _ _ _ _;refine Zb ?_;show wpAny _ _ (ret Value.none) _ _ _;refine Zb ⟨rfl,h',S,rfl,H',λb o G e=>?_⟩;exact H.heap b o (by simp only[Uq,Uw,or_false,not_or];exact⟨Zi G,by rw[j];exact Zi (UE G)⟩) (Zq _ (Zq _ e))
   .cases r₂ with
    |error e=>exact hr₂
    |ok fl₂ =>
     cases fl₂ with
     |ret r =>
      obtain⟨rfl,h',tk,rfl,U,X⟩:=hr₂
      repeat (any_goals (first|assumption|wp_step))
      exact h _ _ U X
     |_=>exact hr₂.elim
  |_=>exact n.elim
end
def KC (p:Int×Int):PyData:=.tuple [.int p.1,.int p.2]
def yS (r:Jy):PyData:=.tuple (r.map KC)
def GY (p:Int×Int):Int:=Da ([p.1,p.2].map hashInt)
def GZ (r:Jy):Int:=Da (r.map GY)
def IsPair (hp:Heap)(v:Value)(p:Int×Int):Prop:=∃a o b n t u,v=.ref a/\hp.get? a=some o/\o.cls=.type "tuple" /\ o.data=.seq b n/\b.toList=[.int p.1 t,.int p.2 u]
inductive IsPairs (hp:Heap):Yf->Jy->Prop
 |nil:IsPairs hp [] []
 |cons {v vs p r}:IsPair hp v p->IsPairs hp vs r->IsPairs hp (v::vs) (p::r)
def yP (hp:Heap)(v:Value)(r:Jy):Prop:=∃a o b n,v=.ref a/\hp.get? a=some o/\o.cls=.type "tuple" /\ o.data=.seq b n/\IsPairs hp b.toList r
def RV (h:IsPair hp v p):Reads hp v (KC p) []:=by
 obtain⟨a,o,g,n,t,u,rfl,b,c,e,f⟩:=h;refine .tuple b c e ?_;rw[f];exact .cons (.int _ _) (.cons (.int _ _) .nil)
def RW:∀{a:Yf} {r:Jy},IsPairs hp a r->ReadsAll hp a (r.map KC) []:=λh=>by
 induction h with
 |nil=>exact .nil
 |cons b _ c=>exact .cons (RV b) c
def Ha (h:yP hp v r):Reads hp v (yS r) []:=by
 obtain⟨a,o,g,n,rfl,b,c,e,f⟩:=h;exact .tuple b c e (RW f)
def IsPair.keep (k:∀b o,hp.get? b=some o->hp'.get? b=some o)(h:IsPair hp v p):IsPair hp' v p:=by
 obtain⟨a,o,c,n,t,u,e,f,r⟩:=h;exact⟨a,o,c,n,t,u,e,k _ _ f,r⟩
theorem IsPairs.keep (k:∀b o,hp.get? b=some o->hp'.get? b=some o)(h:IsPairs hp vs r):IsPairs hp' vs r:=by
 induction h with
 |nil=>exact .nil
 |cons a _ c=>exact .cons (a.keep k) c
theorem yP.keep (k:∀b o,hp.get? b=some o->hp'.get? b=some o)(h:yP hp v r):yP hp' v r:=by
 obtain⟨a,o,c,n,e,f,g,i,j⟩:=h;exact⟨a,o,c,n,e,k _ _ f,g,i,j.keep k⟩
theorem RX (h:IsPair hp v p)(n):PlainV hp (n+1) v:=by
 obtain⟨a,o,j,k,t,u,rfl,c,f,g,i⟩:=h;refine .tup c f g λx b=>?_;rw[i] at b;rcases Uq.mp b with e|e
 .rw[e];exact .int _ _ _
 .rw[Jd.mp e];exact .int _ _ _
def RY (h:yP hp v r)(n):PlainV hp (n+2) v:=by
 obtain⟨a,o,c,k,rfl,e,f,g,b⟩:=h;refine .tup e f g ?_;generalize c.toList=l at b
 induction b with
 |nil=>simp
 |cons i _ j =>
  grind[RX]
section
variable {prog:Program}{w:World}{A:Around}{E:Ya}{s:Shared}
def RZ (c:A.units<cLine):∀{b:Yf} {r:Jy},IsPairs s.heap b r->HashAll prog w A E s b (r.map GY):=λh=>by
 induction h with
 |nil=>exact .nil
 |cons e _ f =>
  refine .cons (λtk Q h=>?_) f;obtain⟨a,o,b,n,t,u,rfl,g,i,j,l⟩:=e;refine GT g i j c ?_ h;rw[l];exact GU (.cons _ _ (.cons _ _ .nil))
def Sa (c:yP s.heap v r)(e:A.units<cLine)(b:A.in1.units<cLine)(h:∀tk,s.toks<=tk->Q (GZ r) { s with toks:=tk }):YJ prog w A (pyHash v) Q E s:=by
 obtain⟨a,o,l,n,rfl,f,g,i,j⟩:=c;exact GT f g i e (RZ b j) h
end
def Sb (p q):PyData.eqv (KC p) (KC q)=decide (p=q):=by
 grind[KC,PyData.eqv,PyData.eqvAll]
theorem Hb:∀r q:Jy,PyData.eqvAll (r.map KC) (q.map KC)=decide (r=q)
 | [],[]=>by rfl
 | [],_::_=>by rfl
 |_::_,[]=>by rfl
 |p::r,q::s=>by
  rw[Zl,Zl];unfold PyData.eqvAll;rw[Sb,Hb r s,Vg];simp
def Sc (r q):PyData.eqv (yS r) (yS q)=decide (r=q):=Hb r q
theorem Hc:∀r:Jy,PyData.canLayAll0 (r.map KC)=true
 | []=>rfl
 |p::r=>by
  rw[Zl];unfold PyData.canLayAll0;rw[Hc r];rfl
def Hd (r):(yS r).canLay0=true:=Hc r
theorem He:∀r:Jy,PyData.depthAll (r.map KC)<=1
 | []=>Ua _
 |p::r=>by
  rw[Zl];unfold PyData.depthAll;have a:(KC p).depth=1:=rfl;have b:=He r;rw[a];lia
def Se (r):(yS r).depth<=2:=Vy (He r)
def IsPair.inj (h:IsPair hp v p)(h':IsPair hp v q):p=q:=by
 obtain⟨a,o,c,n,t,u,rfl,f,g,i,j⟩:=h;obtain⟨l,m,b,r,t',x,e,k1,k2,k3,y⟩:=h'
 grind
theorem IsPairs.inj:∀{a:Yf} {r q:Jy},IsPairs hp a r->IsPairs hp a q->r=q:=λ{a r q} g h=>by
 induction g generalizing q with
 |nil=>cases h;rfl
 |cons b _ c =>
  cases h with
  |cons k1 k2=>rw[b.inj k1,c k2]
theorem yP.inj (h:yP hp v r)(h':yP hp v q):r=q:=by
 obtain⟨a,o,j,n,rfl,b,l,c,f⟩:=h;obtain⟨m,p,g,t,e,k1,k2,k3,i⟩:=h';cases e;rw[b] at k1;obtain rfl:=Zqi k1;rw[c] at k3;cases k3;exact f.inj i
open Classical in
def yR (hp:Heap)(v:Value):Jy:=if h:∃r,yP hp v r then h.choose else[]
theorem AK (h:yP hp v r):yR hp v=r:=by
 unfold yR;have e:∃r,yP hp v r:=⟨r,h⟩;rw[dif_pos e];exact e.choose_spec.inj h
def Sf (prog)(w)(hp):KeyFam prog w hp (λv=>∃r,yP hp v r) (λv=>GZ (yR hp v)) (λv u=>decide (yR hp v=yR hp u)) where
 ref:=by
  rintro v ⟨r,a,o,b,n,e,_⟩;exact⟨a,e⟩
 plain:=by
  rintro v ⟨r,h⟩;exact RY h 6
 hash:=by
  rintro v ⟨r,h⟩ A E s Q hk hu hq;rw[AK h] at hq;exact Sa (h.keep hk) () (show A.units+1<cLine from ()) hq
 eq:=by
  rintro v u ⟨r,h⟩ ⟨q,h'⟩ A E s Q hk hu hq;rw[AK h,AK h',<- Sc] at hq;have c:=Se r;exact SeqAt.eqBoolOverData prog w A E s v u (yS r) (yS q) [] [] Q (Ha (h.keep hk)) (Ha (h'.keep hk)) (Hd r) (Hd q) () hq
 coh:=()
def vC:Slot "set_iterator" "__next__" "set_iterator.__next__" :=
 .of (owner:= "set_iterator") (n:= "__next__") (by kernel_rfl) (by rfl) (by rfl) (by rfl)
  (by first|exact .inl (by decide +kernel)|exact .inr (by decide +kernel)) (by kernel_rfl)
def Hf:entryFor table "set_iterator.__next__" = some Builtin.«set_iterator.__next__»:=entryFor_of_tree (by rfl)
def Hg:Manifest.owners.lookup (String.ofList ['r','o','t','a','r','e','t','i','_','t','e','s'].reverse)=some Manifest.sig_set_iterator:=by kernel_rfl
def Hh (a):argsOk "set_iterator.__next__" ⟨[a],[]⟩:=by
 unfold argsOk;rw[signature?_of (n:=['_','_','t','x','e','n','_','_']) (by kernel_rfl) Hg];rfl
def Sh:entryFor table "set.__iter__" = some Builtin.«frozenset.__iter__»:=entryFor_alias (id':= "frozenset.__iter__") (by kernel_rfl) rfl (by decide +kernel) (by kernel_rfl)
def Hi:Slot "set_iterator" "__iter__" "set_iterator.__iter__" :=
 .of (owner:= "set_iterator") (n:= "__iter__") (by rw[typeLookup_type,builtinLookup_eq_fast];kernel_rfl) (by decide +kernel) (by rfl) (by rfl)
  (by first|exact .inl (by decide +kernel)|exact .inr (by decide +kernel)) (by rw[isSubtype_type];kernel_rfl)
def Si:entryFor table "set_iterator.__iter__" = some Builtin.«dict_keyiterator.__iter__» :=
 entryFor_alias (id':= "dict_keyiterator.__iter__") (by kernel_rfl) (by rfl) (by decide +kernel) (by kernel_rfl)
def Sj (a):argsOk "set_iterator.__iter__" ⟨[a],[]⟩:=by
 unfold argsOk;rw[signature?_of (n:=['_','_','r','e','t','i','_','_']) (by kernel_rfl) Hg];rfl
abbrev Hj (h:Heap)(it S:Addr)(slot i n ep:Nat):Prop:=h.get? it=some { cls:=.type "set_iterator",dict:=none,data:=.fields #[.int slot 0,.int i 0,.ref S,.int n 0,.int ep 0],slots:=#[] }
abbrev WO (es:Array (Int×Value))(ep:Nat)(t:YD):Obj:={ cls:=.type "set",dict:=none,data:=.set es ep t,slots:=#[] }
def Kg (w:World)(S ep:Nat)(es:Array (Int×Value)):Array (Int×Value):=if w.params.followText "set-order" then pickOrder (w.params.setOrder S ep) es else es
theorem Hk {α: Type}(next):∀fuel k (left:List α) a,left.length<=fuel->(pickOrder.go next fuel k left a).toList.Perm (a.toList++left)
 | 0,k,left,a,h=>by
  simp_all [pickOrder.go]
 |fuel+1,k,left,a,h=>by
  unfold pickOrder.go;cases q:left[next k % left.length]? with
  |none =>
   have b:left.length=0:=by
    grind[Nat.eq_zero_or_pos,Nat.mod_lt,Zqg]
   simp_all
  |some x =>
   have b:=List.length_eraseIdx_of_lt ((Jc.mp q).1);refine(Hk next fuel (k+1) _ _ ()).trans ?_;rw[Array.toList_push,Uh];refine List.Perm.append_left _ ?_;have c:left=left.take (next k % left.length)++x::left.drop (next k % left.length+1):=by
    grind[List.take_append_drop,List.drop_eq_getElem_cons]
   rw[List.eraseIdx_eq_take_drop_succ];exact Vx ((List.perm_middle (l₁:=left.take (next k % left.length))).symm) (List.Perm.of_eq c.symm)
theorem Sk {α: Type}(next)(es:Array α):(pickOrder next es).toList.Perm es.toList:=by
 grind[pickOrder,Hk]
def Hl (w)(S ep)(es):(Kg w S ep es).toList.Perm es.toList:=by
 grind[Kg,Sk,List.Perm.refl]
def Dc (w)(S ep)(es):(Kg w S ep es).size=es.size:=by
 have:=(Hl w S ep es).length_eq;omega
def Sl (u:zO xs)(hi):SetTable.below xs (xs[i]+1)=i+1:=by
 obtain⟨f,c,g⟩:=AH u (xs[i]+1);have e:=Ko hi 0;rcases Ve (SetTable.below xs (xs[i]+1)) (i+1) with q|q|q
 .grind
 .exact q
 .have a:=c (i+1) q;have b:=u i (i+1) () ();lia
def Sm (xs)(u:zO xs):SetTable.below xs 0=0:=by
 obtain⟨b,a,c⟩:=AH u 0;rcases Vn (SetTable.below xs 0) with q|q
 .exact q
 .have:=a 0 q;lia
section
variable {prog:Program}{w:World}{A:Around}{E:Ya}{s:Shared}
def Sn (a:s.heap.get? S=some (WO es ep t))(c:t.fits es.size=true)(hp:t.plain=true)
 (g:Q (.ref s.heap.objs.size) { s with heap:=s.heap.push { cls:=.type "set_iterator",data:=.fields #[.int 0 0,.int 0 0,.ref S,.int es.size 0,.int ep 0] } }):YJ prog w A (pyIter (.ref S)) Q E s:=by
 have f:s.TypeIs (.ref S) "set" := ⟨_,a,rfl⟩;refine wpAny_pyIter_slot f F.slot_set_iter (wpAny_call_entry F.slot_set_iter f Sh ?_ (F.args_set_iter_1 _));unfold Builtin.«frozenset.__iter__» Builtin.Frozenset.slot0 slotArgs;simp only[bind_assoc];refine Za (Zb (Za (Zb (Za (Za (wpAny_setEntries_of a rfl c (Zb ?_)))))));have h:wpAny (model prog w) A.in1 (setDrawn S) (λb s'=>b=false/\s'=s) E s:=by
  refine Za (wpAny_setState_of a rfl c (Za (Za (wpAny_askSetting (Zb (Zb ⟨?_,rfl⟩))))));obtain⟨mask,place,dummies,finger,led,moves,plain⟩:=t;cases hp;exact Bool.and_false _
 refine Za (Zc h (λb s' z=>?_) λ_ _ e=>e);obtain⟨rfl,rfl⟩:=z;refine Za (Zb (Za (Za (wpAny_setState_of a rfl c (Zb (Za (wpAny_newObj_type (Zb ⟨_,rfl, "set_iterator",_,⟨_,Zr _ rfl,rfl⟩,vC.lookup,g⟩) (by simp_all [sizeOk,sizeLine_eq]))))))))
def Hm (f:s.heap.get? S=some (WO es ep t))(g:t.fits es.size=true)(hp:t.plain=true)(b:t.led=yU w)(l:zO t.place)(hz:t.place.size=es.size)
 (m:w.params.followText "set-order" = false->SetTable.below t.place slot=i)
 (c:∀a,(w.params.followText "set-order" = false->i<es.size->SetTable.below t.place a=i+1)->Q (((Kg w S ep es)[i]?).map λe=>(e.2,a)) s):YJ prog w A (setNext S slot i ep) Q E s:=by
 refine Za (wpAny_setState_of f rfl g ?_);refine Za (Za (wpAny_askSetting (Zb ?_)));cases q:w.params.followText "set-order" with
 |true =>
  have e:({ program:=(model prog w).prog,params:=(model prog w).w.params }:Setting).params.followText "set-order" = true:=q;rw[Zd e];rw[Ze ()];refine Za (Za (wpAny_setState_of f rfl g ?_));refine Za (Za (wpAny_askSetting (Zb ?_)));rw[Zd e];refine Za (wpAny_askSetting (Zb (Zb ?_)));have:=c slot λz=>by rw[q] at z;cases z
  unfold Kg at this
  rwa [Zd q] at this
 |false =>
  have e:¬({ program:=(model prog w).prog,params:=(model prog w).w.params }:Setting).params.followText "set-order" = true:=by
   show ¬w.params.followText "set-order" = true;rw[q];simp
  rw[Ze e];have n:Kg w S ep es=es:=by unfold Kg;rw[q];rfl
  rw[n] at c;rw[(m q)];have b:t.led=true:=by rw[b];unfold yU;rw[q];rfl
  obtain⟨mask,place,dummies,finger,led,moves,plain⟩:=t;cases hp;cases b
  split
  .rename_i z;exact Zn z Zj
  .refine Za (Zb (Zb ?_));by_cases h:i<es.size
   .have j:i<place.size:=by rwa [hz]
    have:=c (place[i]+1) λ_ _=>Sl l j;rw[UA h] at this
    rwa [UA h,UA j]
   grind[Array.getElem?_eq_none]
abbrev YQ (w:World)(it S:Addr)(es:Array (Int×Value))(ep:Nat)(t:YD)(i:Nat)(h:Heap):Prop:=(∃slot,Hj h it S slot i es.size ep/\(w.params.followText "set-order" = false->i<=es.size->SetTable.below t.place slot=i))/\h.get? S=some (WO es ep t)
structure SetGood (w:World)(es:Array (Int×Value))(t:YD):Prop where
 fits:t.fits es.size=true
 plain:t.plain=true
 led:t.led=yU w
 up:zO t.place
 size:t.place.size=es.size
def So (G:SetGood w es t)(st:YQ w it S es ep t i s.heap)(n:i<es.size)
 (o:∀h' x,(∃k,(Kg w S ep es)[i]? = some (k,x))->YQ w it S es ep t (i+1) h'->Heap.SameBut it s.heap h'->Q (some x) { s with heap:=h' }):YJ prog w A (pyNext (.ref it)) Q E s:=by
 obtain⟨⟨l,a,f⟩,g⟩:=st;have m:s.TypeIs (.ref it) "set_iterator" := ⟨_,a,rfl⟩;have e:S≠it:=by grind
 unfold pyNext;refine Za (wpAny_attempt (wpAny_callSpecial?_slot m vC
  (wpAny_call_entry vC m Hf ?_ (Hh _))))
 unfold Builtin.«set_iterator.__next__» slotArgs;simp only[UF,bind_assoc];refine Za (Zb ?_);refine Za (wpAny_fieldsOf a rfl (Za (wpAny_setEntries_of g rfl G.fits ?_)));simp;refine Za (Hm g G.fits G.plain G.led G.up G.size () λc hs=>?_);have p:i<(Kg w S ep es).size:=by rwa [Dc]
 rw[UA p];refine Za (wpAny_setField_rec a () λh₁ he₁ hs₁=>(Za (wpAny_setField_rec he₁ () λh₂ he₂ hs₂=>?_)));refine Zb ⟨_,rfl,Zb (o h₂ _ () ⟨⟨c,?_,λz _=>hs z n⟩,hs₂.extBut _ _ e (hs₁.extBut _ _ e g)⟩ ⟨hs₂.1.trans hs₁.1,λb f=>(hs₂.2 b f).trans (hs₁.2 b f)⟩)⟩;unfold Hj;simpa [rawInt] using he₂
def Sq (g:A.handled=none)(G:SetGood w es t)(st:YQ w it S es ep t i s.heap)(j:i=es.size)
 (h:∀h',Heap.ExtBut it s.heap h'->Q none { s with heap:=h' }):YJ prog w A (pyNext (.ref it)) Q E s:=by
 obtain⟨⟨c,a,l⟩,e⟩:=st;have f:s.TypeIs (.ref it) "set_iterator" := ⟨_,a,rfl⟩;unfold pyNext;refine Za (wpAny_attempt (wpAny_callSpecial?_slot (name:=Str.ofString "__next__") f vC
  (wpAny_call_entry vC f Hf ?_ (Hh _))))
 unfold Builtin.«set_iterator.__next__» slotArgs;simp only[List.isEmpty_nil,Bool.not_true,UF,↓reduceIte,ZD];refine Za (Zb ?_);refine Za (wpAny_fieldsOf a rfl ?_);dsimp only;refine Za (wpAny_setEntries_of e rfl G.fits ?_);simp[Int.toNat_natCast];refine Za (Hm e G.fits G.plain G.led G.up G.size () λb hs=>?_);rw[VV (by rw[Dc];lia)];refine Za (wpAny_setField a rfl () (Za ?_));refine Za (wpAny_newObj_type (Za (wpAny_of_eq (by first|rfl|(simp only)) ?_)) (by size_fits));refine wpAny_newObj_type (Za (wpAny_handled ?_)) (by size_fits);rw[g];refine Za (Zb (wpAny_throw ?_));exact Za (wpAny_isInstance ⟨_,Zr _ rfl,rfl⟩ isSubtype_stop (Zb (h _ (((Heap.SameBut.update ..).extBut.push _).push _))))
end
def Sr (n:A.handled=none)(G:SetGood w es t):WalksS prog w A it [it,S] [it] (λg p=>p=g) es.size (λi v=>∃k,(Kg w S ep es)[i]? = some (k,v)) (λi s=>YQ w it S es ep t i s.heap):=
 (show Walks prog w A it [it,S] [it] es.size (λi v=>∃k,(Kg w S ep es)[i]? = some (k,v)) (λi h=>YQ w it S es ep t i h) from {
  sub:=by simp
  frame:=by grind
  item:=λi s Q E q st a=>So G st q λh' x r c u=>a x h' s.toks r c λb o l e=>u.extBut b o () e
  done:=λs Q E st a=>Sq n G st rfl λh' y=>a h' s.toks λb o l e=>y b o () e
  self:=λi s Q E st a=>have ⟨⟨m,f,l⟩,z⟩:=st;have j:=⟨_,f,rfl⟩;wpAny_pyIter_slot j Hi (wpAny_call_entry Hi j Si (Zb ⟨_,rfl, "set_iterator",_,j,vC.lookup,a⟩) (Sj _)) }).toS
def Ss:typeLookup (.type "set") "__len__" = pure (some (.builtin "set.__len__")):=by rw[typeLookup_type,builtinLookup_eq_fast];kernel_rfl
section
variable {prog:Program}{w:World}{A:Around}{E:Ya}{s:Shared}
def Su (a:s.TypeIs (.ref r) "set")(h:Q false s):YJ prog w A (Builtin.List.listLengthHint (.ref r)) Q E s:=by
 refine Za (wpAny_specialOf a Ss ?_);generalize c:("set.__len__" : String)=id0;subst c;exact Za (wpAny_isInstance (b:=true) a (by rw[isSubtype_type];kernel_rfl) (wpAny_ite_split (λe=>Zn e (by decide)) (λ_=>(Za (wpAny_typeOf a (Zb h))))))
def Sv (Z:A.handled=none)(i:s.heap.get? S=some (WO es ep t))(G:SetGood w es t)(hn:es.size<=1000)
 (h:∀(h':Heap) (tk:Nat) (U:Yf),(∀b o,s.heap.get? b=some o->h'.get? b=some o)->U.Perm (es.toList.map (·.2))->s.heap.objs.size<h'.objs.size->R U { s with heap:=h',toks:=tk }):YJ prog w A (collect (.ref S)) R E s:=by
 have C:S<s.heap.objs.size:=Zk i;have X:s.TypeIs (.ref S) "set" := ⟨_,i,rfl⟩;unfold collect;refine Za (wpAny_runValue (codeAny_builtin F.entry_proto_collect ?_));rw[Around.under_plainId F.plain_proto_collect _];show wpAny _ A.in1 (newList [] >>= λl=>again (.builtin "list.__iadd__" ⟨[l,.ref S],[]⟩)) _ _ s;refine Za (wpAny_newObj_type ?_);refine Zb ⟨plainId_quiet F.plain_list_iadd _,codeAny_builtin F.entry_list_iadd ?_⟩;rw[Around.under_plainId F.plain_list_iadd _];generalize n:({ cls:=.type "list",data:=.seq ([]:Yf).toArray }:Obj)=no;have hL₁:(s.heap.push no).get? s.heap.objs.size=some no:=Zr _ (by rw[<- n];rfl);have ho₁:(s.heap.push no).get? S=some (WO es ep t):=Zq _ i;have hT₁:Shared.TypeIs { s with heap:=s.heap.push no } (.ref S) "set" := ⟨_,ho₁,rfl⟩;have p:S≠s.heap.objs.size:=Zi C;show wpAny _ A.in1 (Builtin.List.listExtendWith (.ref s.heap.objs.size) (.ref S) (.ref s.heap.objs.size)) _ _ _;unfold Builtin.List.listExtendWith;refine Za (wpAny_typeOf hT₁ ?_);have h1:Builtin.List.listSameRef (.ref s.heap.objs.size) (.ref S)=false:=by simp[Builtin.List.listSameRef,Ne.symm p]
 have h2:(Value.type "set" == Value.type "list")=false:=by decide
 have h3:(Value.type "set" == Value.type "tuple")=false:=by decide
 simp only[h1,h2,h3,Bool.or_false,UF,if_false];refine Za (Sn (s:={ s with heap:=s.heap.push no }) ho₁ G.fits G.plain ?_);have J:(s.heap.push no).objs.size=s.heap.objs.size+1:=Heap.size_push ..;generalize K:(s.heap.push no).objs.size=I at *;generalize q:({ cls:=.type "set_iterator",data:=.fields #[.int 0 0,.int 0 0,.ref S,.int es.size 0,.int ep 0] }:Obj)=ni;have hS₂:=Zq ni ho₁;have hL₂:=Zq ni hL₁;have hI₂:((s.heap.push no).push ni).get? I=some ni:=by rw[<- K];exact Zr _ (by rw[<- q];rfl)
 refine Za (wpAny_holding (Su ⟨_,hS₂,rfl⟩ ?_));have L:I≠s.heap.objs.size:=()
 have r:∀M,(∀h' tk c a,(∀b o,s.heap.get? b=some o->h'.get? b=some o)->h'.get? s.heap.objs.size=some { cls:=.type "list",dict:=none,data:=.seq a c,slots:=#[] }->a.toList.Perm (es.toList.map (·.2))->M (.ok (.ret (.ref s.heap.objs.size))) { s with heap:=h',toks:=tk }) ->
  ∀h c₁ tk,(∀b o,b≠s.heap.objs.size->((s.heap.push no).push ni).get? b=some o->h.get? b=some o)->h.get? s.heap.objs.size=some { cls:=.type "list",dict:=none,data:=.seq #[] c₁,slots:=#[] } ->
  codeAny (model prog w) A (.builtin "list.extend.loop" ⟨[.ref s.heap.objs.size,.ref I,.ref s.heap.objs.size],[]⟩) M { s with heap:=h,toks:=tk }:=by
  intro M hR h₀ c₁ tk u f;have N:s.heap.objs.size ∉ [I,S]:=by
   simp only[Uq,Uw,or_false,not_or];exact()
  have v:h₀.get? I=some ni:=u I _ L hI₂;rw[<- q] at v;refine codeAny_extend_loopS (Sr (prog:=prog) (w:=w) (A:=A.in1) (it:=I) (S:=S) (ep:=ep) Z G) (Zh hn (by rw[sizeLine_eq];lia)) s.heap.objs.size N _ es.size 0 { s with heap:=h₀,toks:=tk } #[] c₁ rfl (Ua _)
   ⟨⟨0,v,λ_ _=>Sm _ G.up⟩,u S _ p hS₂⟩ f (ItemsOf.nil _) λs' a c H O g=>?_
  obtain⟨h',g',d',P,Q⟩:=s';have eg:g'=s.gens:=H.gens;have ed:d'=s.drawn:=H.drawn;have eo:Q=s.os:=H.os;subst eg;subst ed;subst eo;refine hR h' P c a (λb o e=>?_) O ?_
  .have x:=Zk e;have y:b≠s.heap.objs.size:=Zi x;have T:b≠I:=Zi (Zg x (by rw[J];exact Nat.le_succ _));exact H.heap b o (by simp only[Uq,Uw,or_false,not_or];exact⟨y,T⟩) (u b o y (Zq _ (Zq _ e)))
  .have el:a.toList=(Kg w S ep es).toList.map (·.2):=by
    apply VO;intro j;rw[Zv];by_cases Y:j<a.size
    .obtain⟨k,u⟩:=g.2 j a[j] (UA Y);have:(Kg w S ep es).toList[j]? = some (k,a[j]):=by simpa using u
     rw[this];simp[Y]
    .have hw:(Kg w S ep es).toList[j]? = none:=Vq (by rw[Ui,Dc,<- g.1];lia);rw[hw];exact Vq (by rw[Ui];lia)
   rw[el];exact(Hl w S ep es).map _
 have z:∀h' tk c (a:Yn),(∀b o,s.heap.get? b=some o->h'.get? b=some o)->h'.get? s.heap.objs.size=some { cls:=.type "list",dict:=none,data:=.seq a c,slots:=#[] }->a.toList.Perm (es.toList.map (·.2)) ->
  YJ prog w A (do
   let o <- load s.heap.objs.size
   match o.data with
    | .seq xs _=>pure xs.toList
    |_=>unsupported "internal:collect") R E { s with heap:=h',toks:=tk }:=λh' tk c a B m hp=>by
  refine Za (wpAny_load m ?_);exact Zb (h h' tk a.toList B hp (Zk m))
 have hL₂':((s.heap.push no).push ni).get? s.heap.objs.size=some { cls:=.type "list",dict:=none,data:=.seq #[] 0,slots:=#[] }:=by rw[hL₂,<- n]
 refine wpAny_ite_split (λ_=>?_) (λ_=>Zb ⟨plainId_quiet F.plain_extend_loop _,r _ (λh' tk c a B m hp=>z h' tk c a B m hp) _ 0 _ (λb o _ e=>e) hL₂'⟩);refine Za (wpAny_rule ?_);refine Za ?_;show wpAny _ _ (updateSeq s.heap.objs.size (·.push .none) >>= λ_=>updateSeq s.heap.objs.size (·.pop)) _ _ _;refine Za (wpAny_updateSeq hL₂' rfl ?_);have hL₃:=Heap.get?_update_self (Obj.mapSeq (·.push Value.none)) hL₂' rfl;refine wpAny_updateSeq (hz:=by seq_fits) hL₃ rfl ?_;have hL₄:=Heap.get?_update_self (Obj.mapSeq (·.pop)) hL₃ rfl;refine Zb ⟨plainId_quiet F.plain_extend_loop _,r _ (λh' tk c a B m hp=>z h' tk c a B m hp) _ _ _ (λb o x e=>?_) hL₄⟩;exact(Heap.get?_update_other _ _ (Ne.symm x)).trans ((Heap.get?_update_other _ _ (Ne.symm x)).trans e)
end
theorem Hn:∀{a:Yf} {r:Jy},W8 h a r->IsPairs h a r
 | [],[],_=>.nil
 | [],_::_,p=>by have:=p.1;simp at this
 |_::_,[],p=>by have:=p.1;simp at this
 |u::a,q::r,p=>by
  obtain⟨b,c,nb,t,v,e,f,g,j⟩:=p.2 0 q rfl;obtain rfl:=Zqi e;refine .cons ⟨b,c,_,nb,t,v,rfl,f,g,j,rfl⟩ (Hn ⟨by have:=p.1;simpa using this,λi x l=>p.2 (i+1) x l⟩)
def Sw (R:RowAt h v r a o us n):yP h v r:=
 ⟨a,o,us.toArray,n,R.isv,R.get,R.cls,R.dat,Hn R.prs⟩
def jT (rs:Jz):Nat->List Nat
 | 0=>[]
 |n+1=>if(jT rs n).any (λi=>decide (rs.getD i []=rs.getD n [])) then jT rs n else jT rs n++[n]
def Sx (rs)(n):jT rs (n+1)=if(jT rs n).any (λi=>decide (rs.getD i []=rs.getD n [])) then jT rs n else jT rs n++[n]:=rfl
def qO (rs:Jz):Jz:=(jT rs rs.length).map λi=>rs.getD i []
theorem Xw (rs):∀n i,i∈jT rs n->i<n
 | 0,i,h=>by cases h
 |n+1,i,h=>by
  unfold jT at h
  split at h
  .have:=Xw rs n i h;lia
  .rcases Jb.mp h with q|q
   .have:=Xw rs n i q;lia
   simp_all
theorem Dd (rs):∀n,(jT rs n).length<=n
 | 0=>Zf _
 |n+1=>by
  have:=Dd rs n
  grind[jT,List.length_append,List.length_singleton]
theorem Ho (rs):∀n,((jT rs n).map λi=>rs.getD i []).Nodup
 | 0=>VC
 |n+1=>by
  have a:=Ho rs n;unfold jT
  grind
theorem Hq (rs):∀n r,r∈((jT rs n).map λi=>rs.getD i [])↔∃i,i<n/\rs.getD i []=r
 | 0,r=>by
  constructor
  .intro h;cases h
  lia
 |n+1,r=>by
  have a:=Hq rs n;unfold jT
  grind
def Hr (rs):(qO rs).Nodup:=Ho rs _
def Hs (rs):(qO rs).length<=rs.length:=by unfold qO;rw[Zql];exact Dd rs _
theorem bS:r∈qO rs↔r∈rs:=by
 unfold qO;rw[Hq];constructor
 .grind
 .intro h;obtain⟨i,a,z⟩:=UB h;exact⟨i,a,()⟩
theorem Ht {same:Value->Value->Bool}{val:Nat->Value}{rs:Jz}{n:Nat}(h:∀i j,i<n->j<n->same (val i) (val j)=decide (rs.getD i []=rs.getD j [])):∀k,k<=n->yd same val k=(jT rs k).map val
 | 0,_=>rfl
 |k+1,hk=>by
  rw[AJ,Ht h k (),Sx];unfold Wr;have e:((jT rs k).map val).any (same · (val k))=(jT rs k).any (λi=>decide (rs.getD i []=rs.getD k [])):=by
   rw[List.any_map,Vg,VB,VB];constructor
   .rintro⟨i,a,z⟩;exact⟨i,a,by rwa [<- h i k (by have:=Xw rs k i a;lia) ()]⟩
   .rintro⟨i,a,z⟩;exact⟨i,a,by show same (val i) (val k)=true;rwa [h i k (by have:=Xw rs k i a;lia) ()]⟩
  grind
theorem AL {G:Hp}{rs:Jz}{ys:YE}(h:qm G (rs.map rD) ys):∀ix:Yj,(∀i∈ix,i<rs.length)->qm G ((ix.map λi=>rs.getD i []).map rD) (ix.map λi=>ys.getD i .non)
 | [],_=>by rfl
 |i::ix,hi=>by
  have ⟨x,a,b⟩:=h.get (i:=i) (d:=rD (rs.getD i [])) ();rw[Zl,Zl,Zl];refine⟨x,_,?_,b,AL h ix ()⟩;rw[Qe a]
def zo (w:World)(S:Addr)(ys:YE):HO:=.ext λh=>∃es ep t a,h.get? S=some (WO es ep t)/\SetGood w es t/\es.size<=1000/\(es.toList.map (·.2)).Perm a/\jv ys a
def Hu (w:World):YE->Hp->VK->Prop:=λb H Q=>∃a ys rs,b=[.ref a]/\Rd H a (.lst ys)/\qm H (rs.map rD) ys/\rs.length<=999/\∀S,H S=none->Q (.ref S) (upd H S (zo w S ((jT rs rs.length).map λi=>ys.getD i .non)))
def Hv (w:World):YE->Hp->VK->Prop:=λb H Q=>∃S ys rs,b=[.ref S]/\H S=some (zo w S ys)/\qm H (rs.map rD) ys/\(∀r∈rs,r ≠ [])/\rs.length<1000 /\
 ∀l a,H l=none->(∀G,qm G (rs.map rD) ys->qm G ((JQ j8 rs).map rD) a)->Q (.ref l) (upd H l (.lst a))
def Sy (p:us.Perm vs):∀{f:YE} {rs:Jz},jv f us->f.length=rs.length->∃(a:YE) (b:Jz),jv a vs/\b.Perm rs/\a.length=b.length/\∀G,qm G (rs.map rD) f->qm G (b.map rD) a:=by
 induction p with
 |nil=>exact λ{f rs} h c=>⟨f,rs,h,.refl _,c,λ_ h=>h⟩
 |cons x _ C =>
  intro f rs h c;cases h with
  |cons r h =>
   cases rs with
   |nil=>simp at c
   |cons q rs =>
    obtain⟨a,b,j,m,n,o⟩:=C h (by simpa using c);refine⟨_::a,q::b,.cons r j,m.cons q,by simp[n],λG g=>?_⟩;obtain⟨y,w,e,i,t⟩:=g;cases e;exact⟨_,_,rfl,i,o G t⟩
 |swap x y l =>
  intro f rs h c;cases h with
  |cons r h =>
   cases h with
   |cons F h =>
    cases rs with
    |nil=>simp at c
    |cons q rs =>
     cases rs with
     |nil=>simp at c
     |cons H rs =>
      refine⟨_,H::q::rs,.cons F (.cons r h),.swap _ _ _,by simpa using c,λG g=>?_⟩;obtain⟨y,w,e,i,t⟩:=g;cases e;obtain⟨y,w,e,I,J⟩:=t;cases e;exact⟨_,_,rfl,I,⟨_,_,rfl,i,J⟩⟩
 |trans _ _ u v =>
  intro f rs h c;obtain⟨a,b,j,m,n,o⟩:=u h c;obtain⟨z,B,i,K,L,M⟩:=v j n;exact⟨z,B,i,K.trans m,L,λG g=>M G (o G g)⟩
section
variable {X:Cx}
def call_setRows (L:X.calm=true)(hu:X.A.units+64<cLine):jU X (.type "set") (Hu X.w):=by
 intro Y s Z H xs G Q I M h;obtain⟨a,ys,rs,rfl,N,J,hl,q⟩:=h;obtain⟨u,rfl,O⟩:=QX M;obtain rfl:u=Value.ref a:=O;obtain⟨its,p,pl,hz⟩:=I.list (.inl N);have P:=J.length;have l2:=p.length;rw[Zql] at P;have sz:its.toArray.size=its.length:=Zm;have S:∀i,its.toArray.getD i .none=its.getD i .none:=λi=>by
  simp
 have T:∀i,i<its.length->yP s.heap (its.getD i .none) (rs.getD i []):=λi f=>by
  have hr:i<rs.length:=()
  obtain⟨x,g,U⟩:=J.get (i:=i) (d:=rD (rs.getD i [])) ();obtain⟨v,l,y⟩:=p.get g;obtain⟨b,o,ws,n,R⟩:=Cp I.hok U y;rw[Qe l];exact Sw R
 refine RU (I.ok.hd L) pl.isList (Sf X.prog X.w s.heap) (λi v l=>?_) () () λh' tk H' kk=>?_
 .grind
 .have same:∀i j,i<its.toArray.size->j<its.toArray.size->(λv u=>decide (yR s.heap v=yR s.heap u)) ((λi=>its.toArray.getD i .none) i) ((λi=>its.toArray.getD i .none) j)=decide (rs.getD i []=rs.getD j []):=λi j f hj=>by
   grind[AK]
  obtain⟨es,t,m,B,led,plain⟩:=H';rw[Ht same _ (Zf _)] at B;obtain⟨ep,K⟩:=m.at_;have en:its.toArray.size=rs.length:=()
  rw[en] at B;have c:(es.toList.map (·.2)).Perm ((jT rs rs.length).map λi=>its.getD i .none):=by
   have:=B.map (·.2);rw[Zw,Zw] at this;refine this.trans (List.Perm.of_eq (UZ λi _=>?_));exact S i
  have vl:jv ((jT rs rs.length).map λi=>ys.getD i .non) ((jT rs rs.length).map λi=>its.getD i .none):=Xk λi f=>by
   have f:=Xw rs _ i f;obtain⟨x,g⟩:∃x,ys[i]? = some x:=⟨ys[i]'(),()⟩;obtain⟨v,l,y⟩:=p.get g;rw[Qe g,Qe l];exact y
  have C:es.size<=1000:=by
   have:=c.length_eq;rw[Zql,Zql,Ui] at this;have:=Dd rs rs.length;lia
  have F:t.place.size=es.size:=by
   have:=m.tab.size;rw[Ul] at this;exact this
  refine⟨.ref s.heap.objs.size,upd H s.heap.objs.size (zo X.w s.heap.objs.size ((jT rs rs.length).map λi=>ys.getD i .non)),I.laid (λb o e=>kk b o (Zk e) e) (Zf _) ?_,rfl,q _ (I.hok.fresh (Zf _))⟩;refine⟨⟨es,ep,t,_,K,⟨m.tab.fits,plain,led,m.tab.up,F⟩,C,c,vl⟩,⟨_,K⟩,λh1 h2 z kp=>?_⟩;have ⟨es,ep,t,G,e,r⟩:=z;exact⟨es,ep,t,G,kp _ e,r⟩
def Sz (I:Inv X Y Z H s)(h:H S=some (zo X.w S ys)):∃es ep t a,s.heap.get? S=some (WO es ep t)/\SetGood X.w es t/\es.size<=1000/\(es.toList.map (·.2)).Perm a/\jv ys a:=(I.hok S _ h).1
def S0
 (i:wpAny (model prog w) A.in1 (collect x) (λa c=>∃lt,Wk lt/\a.length<1000/\(∀h',(∀b o,c.heap.get? b=some o->h'.get? b=some o)->2<=a.length->zS prog w A.in1.in1 { c with heap:=h' } a lt) /\
  ∀f h' l,Pl a.length f a.length->Up lt f a.length->(∀b o,c.heap.get? b=some o->h'.get? b=some o)->c.heap.objs.size<=l->(∃e,h'.get? l=some (seqObj "list" (f.map (jC a)) e))->Q (.ref l) { c with heap:=h' }) E s):
 YJ prog w A (call (.builtin "sorted") [x]) Q E s:=by
 refine Calls.call_function_entry kind_sorted plain_sorted entry_sorted (args_sorted1 _) (Za (Zb (Za (Zc i (λa c z=>?_) λ_ _ e=>e))));obtain⟨lt,W,g,j,m⟩:=z;have h:(c.heap.push (seqObj "list" a.toArray 0)).get? c.heap.objs.size=some (seqObj "list" a.toArray 0):=Zr _ rfl;have n:∀b o,c.heap.get? b=some o->b≠c.heap.objs.size:=λb o e=>Zi (Zk e);refine Za (wpAny_newList (Za (wpAny_holding (wpAny_call_entry slot_list_sort ⟨_,h,rfl⟩ entry_list_sort (Fd W h g (λh' q=>j h' λb o e=>q b o (n b o e) (Zq _ e)) λf p u=>⟨_,rfl,Zb ⟨_,rfl,m f _ _ p u (λb o e=>?_) (Zf _) (sortedHeap_at h)⟩⟩) (args_list_sort _)))))
 grind[size_push',sortedHeap_old,Nat.lt_succ_of_lt,Heap.lt_size,Heap.get?_push_of_some]
def call_sortedSet (hc:X.calm=true)(hu:X.A.units+64<cLine):jU X (.builtin "sorted") (Hv X.w):=by
 intro Y s Z H xs us Q I rv h;obtain⟨S,ys,rs,rfl,hS,T,J,h64,q⟩:=h;obtain⟨u,rfl,ru⟩:=QX rv;obtain rfl:u=Value.ref S:=ru;obtain⟨es,ep,t,ws,ho,G,hsz,U,vl⟩:=Sz I hS;have l1:=T.length;rw[Zql] at l1;have K:∀m:Yf,m.Perm (es.toList.map (·.2))->m.length=rs.length:=λm n=>by
  have a:=n.length_eq;have b:=U.length_eq;have c:=vl.length;lia
 refine S0 (Sv (A:=X.A.in1) (E:=X.xe) (I.ok.hd hc) ho G hsz λh1 tk m kk n hsz1=>?_);obtain⟨g,f,y,L,l2,g2⟩:=Sy (U.symm.trans n.symm) vl ();have lv:=K m n;have lr:=L.length_eq;have A2:=g2 H T;have M:∀r∈f,r ≠ []:=λr hr=>J r (L.mem_iff.mp hr);refine⟨λi j=>j8 (f.getD i []) (f.getD j []),xU.wk λi=>f.getD i [],(),λh' N h2=>Fl (by show X.A.units+1+1+4<cLine;lia) (I.hok.kept λb o e=>N b o (kk b o e)) A2 y M h2,λz h' l p u N hl O=>?_⟩;have ⟨e,O⟩:=O;have P:m.length=f.length:=()
 rw[P] at p u;have B:s.heap.objs.size<=l:=by
  have hl:h1.objs.size<=l:=hl;lia
 have at_:∀i∈z.toList,∃x v,g[i]? = some x/\m[i]? = some v/\js x v:=λi C=>by
  have hn:=p.mem C;have ⟨x,F⟩:∃x,g[i]? = some x:=⟨g[i]'(),()⟩;have ⟨v,n,rr⟩:=y.get F;exact⟨x,v,F,n,rr⟩
 have sp:=Co xU p u;have se:=Ao xU (((Qz f).trans L).trans (Qz rs).symm) (W7 xU f) (W7 xU rs);have R:=q l (z.toList.map λi=>g.getD i .non) (I.hok.fresh B) λG hG=>by
  have:=AL (g2 G hG) z.toList λi C=>p.mem C
  rwa [sp,se] at this
 refine⟨.ref l,upd H l (.lst (z.toList.map λi=>g.getD i .non)),I.laid (λb o e=>N b o (kk b o e)) B ⟨?_,z.toList.map (jC m),e,?_,?_⟩,rfl,R⟩
 .rw[Zql,p.len];exact QK ()
 .refine Xk λi C=>?_;have ⟨x,v,F,n,rr⟩:=at_ i C;unfold jC
  rwa [Qe F,Qe n]
 .rw[O]
  congr 3
  apply Vk;simp
end
end L2.ST
namespace L2.DL
open PySem PySem.Spec PyProof.Rows L2.ST
def YR:YG->YH
 | [.lst ds]=>(Q3 Kv ds).bind λrs=>if(∀r∈rs,r ≠ [])/\(qO rs).length<1000/\rs.length<=999 then some (.lst ((JQ j8 (qO rs)).map jq)) else none
 |_=>none
section
variable {X:Cx}{E:XK}{fr:FA}{es:Ym}{e:Expr}
def S3 (h:∀{s:TA},PA X es s->PE X e (vm (Hv X.w) (BH (vm (Hu X.w) s) vi)))(y:QA X E es fr):QN X E e (jt YR fr):=PE.weak (h y) λZ H Q A=>by
 obtain⟨B,F,sd,r,n⟩:=A;refine⟨B,F,sd,r,(ja n).mono (λds C O c g b I=>?_) λ_ _ q=>q⟩;obtain⟨z,hz,q⟩:=jh C;unfold YR at hz
 split at hz
 .obtain⟨rs,J,hz⟩:=Jg.mp hz
  split at hz
  .rename_i j;obtain rfl:=Zqi hz;obtain⟨v,rfl,h⟩:=Q7 I;rw[Cz J,jm] at h;obtain⟨a,ys,rfl,K,m⟩:=h;refine⟨a,ys,rs,rfl,K.same b.fh,zY.mp (jd.same b.fh _ _ m),j.2.2,λS t=>?_⟩;have u:∀G,qm G (rs.map rD) ys->qm G ((qO rs).map rD) ((jT rs rs.length).map λi=>ys.getD i .non):=λG o=>AL o _ λi L=>Xw rs _ i L;refine⟨S,_,qO rs,rfl,JL,u _ (qm.same (Kt t (zo X.w S ((jT rs rs.length).map λi=>ys.getD i .non))) _ _ (zY.mp (jd.same b.fh _ _ m))),λr M=>j.1 r (bS.mp M),j.2.1,λl N w o=>?_⟩;have p:l≠S:=λz=>by simp_all [JL]
   have f:g l=none:=by rwa [JH p] at w
   have x:Ext c g c (upd g S (zo X.w S ((jT rs rs.length).map λi=>ys.getD i .non))):=.keep b.fh t _;exact(q.ext b) l c _ (x.trans (.keep x.fh w _)) f (Qj b.fh f) ⟨N,JL,zY.mpr (o c (u c (zY.mp m)))⟩
  .exact J5 hz
 simp_all
end
def bt_set:bootBuiltins "set" = some (.type "set"):=by kernel_rfl
def S4 (h:∀r∈rs,r ≠ [])(a:(qO rs).length<1000)(b:rs.length<=999):YR [.lst (rs.map jq)]=some (.lst ((JQ j8 (qO rs)).map jq)):=by
 show(Q3 Kv (rs.map jq)).bind _=_
 simp_all [Cy]
end L2.DL
namespace L2.ST
def zf (a b:Jy):Bool:=decide (a.length<b.length)||(decide (a.length=b.length)&&j8 a b)
theorem Xx:zf a b=true↔a.length<b.length\/(a.length=b.length/\j8 a b=true):=by
 simp_all [zf]
def De:zf a b=false↔b.length<a.length\/(a.length=b.length/\j8 a b=false):=by
 grind[Xx]
def vA:Tot zf where
 asy:=λa b h=>by
  rw[Xx] at h;rw[De];rcases h with h|⟨f,e⟩
  .exact .inl h
  .exact .inr ⟨f.symm,xU.asy _ _ e⟩
 neg:=λa b c h=>by
  rw[Xx] at h;rw[Xx,Xx];rcases h with h|⟨f,e⟩
  .omega
  .rcases Ve a.length b.length with z|z|z
   .exact .inl (.inl z)
   .rcases xU.neg a b c e with y|y
    .exact by grind
    simp_all
   lia
 tot:=λa b f e=>by
  rw[De] at f e;rcases f with f|⟨f,h3⟩<;>rcases e with e|⟨e,h4⟩
  .omega
  .omega
  .omega
  .exact xU.tot _ _ h3 h4
def S5 (hs:l.Pairwise λa b=>j8 a b=true)(p:Pl l.length jx l.length)(u:Up (λi j=>decide (((l.getD i []).length:Int)<((l.getD j []).length:Int))) jx l.length):jx.toList.map (λi=>l.getD i [])=JQ zf l:=by
 refine Ao vA ?_ ?_ (W7 vA l)
 .refine Vx ?_ (Qz l).symm;have q:jx.toList.Perm (List.range l.length):=by
   have:=Jq.mp p.perm;simpa using this
  refine(q.map _).trans (List.Perm.of_eq ?_);apply List.ext_getElem
  .simp
  .intro i r g;simp[g]
 .refine Jj.mpr λa b h m ab=>?_;rw[VL,VL];have sz:jx.toList.length=l.length:=by rw[Ui,p.size]
  rw[Zql] at h m;have n:jx.toList[a]=gx jx a:=by
   simp_all [gx]
  have o:jx.toList[b]=gx jx b:=by
   simp_all [gx]
  rw[n,o];have e:=p.lt (Zf _) (show a<l.length from ());have f:=p.lt (Zf _) (show b<l.length from ());have c:=u a b ab ();generalize gx jx a=i at c e;generalize gx jx b=j at c f;rw[De];rcases c with c|⟨c,ij⟩
  .simp_all
  .have:=of_decide_eq_false c;rcases Vf (l.getD i []).length (l.getD j []).length with z|z
   .exact .inl z
   .refine .inr ⟨(),xU.asy _ _ ?_⟩;have:=Jj.mp hs i j e f ij
    simp_all
section
variable {prog:Program}{w:World}{A:Around}{E:Ya}{s:Shared}
def S6 (e:IntsAre a kz)(f:kz.length=vs.length):yh prog w A s oneType' (λi=>(jC a i,jC vs i)) (λi j=>decide (kz.getD i 0<kz.getD j 0)) vs.length:=by
 have at_:∀{a:Yf} {kz:Yh},IntsAre a kz->∀i,i<kz.length->∃t,jC a i=.int (kz.getD i 0) t:=by
  intro a kz h
  induction h with
  |nil=>simp
  |cons n t _ b =>
   intro i c;cases i with
   |zero=>exact⟨t,rfl⟩
   |succ i=>exact b i ()
 intro i j c g E Q l
 grind[W.kat_lt_int]
def S7 (kz:Yh):Wk λi j=>decide (kz.getD i 0<kz.getD j 0):=
 ⟨λi j h=>(),()⟩
def S8 (p:IntsAre keys.toList kz)(z:kz.length=vs.length)(q:vs.length<1000)(r:kS≠a)
 (v:s.heap.get? kS=some (seqObj "list" keys e)) (B:s.heap.get? a=some (seqObj "list" #[] e1))
 (h:∀f h',Pl vs.length f vs.length->Up (λi j=>decide (kz.getD i 0<kz.getD j 0)) f vs.length->(∀b o,b≠kS->b≠a->s.heap.get? b=some o->h'.get? b=some o)->(∃c,h'.get? a=some (seqObj "list" (f.map (jC vs)) c))->P (.done (.ret .none)) { s with heap:=h' }):
 YJ prog w A (ksk_end a false vs.toArray e1 (.ref kS) keys) P E s:=by
 have hsz:keys.size=vs.length:=by
  have K:=p.length
  simp_all
 have L:keys=keys.toList.toArray:=Array.toArray_toList.symm;have x:keys.zip vs.toArray=(Array.range vs.length).map λi=>(jC keys.toList i,jC vs i):=by
  apply Array.ext_getElem?;intro k;rw[UQ];by_cases t:k<vs.length
  .rw[Array.getElem?_range,Zd t]
   grind[jC,List.getD_eq_getElem?_getD,Array.length_toList,Array.getElem?_zip_eq_some,Zqg]
  grind
 have m:∀st (f:Yi),arrOf st=f.map (λi=>(jC keys.toList i,jC vs i))->failedOf st=none->Pl vs.length f vs.length->Up (λi j=>decide (kz.getD i 0<kz.getD j 0)) f vs.length->YJ prog w A (ksk_tail a false e1 (.ref kS) st) P E s:=by
  intro st f C F y G;have H:(arrOf st).map (·.2)=f.map (jC vs):=by rw[C,Array.map_map];rfl
  unfold ksk_tail;dsimp only;rw[H,F];obtain⟨c1,g1⟩:∃c1,(s.heap.update kS (Obj.mapSeq λ_ => #[])).get? kS=some (seqObj "list" #[] c1):=⟨_,get?_update_seq v (λ_ => #[])⟩;have g:(s.heap.update kS (Obj.mapSeq λ_ => #[])).get? a=some (seqObj "list" #[] e1):=by rw[Heap.get?_update_ne _ _ _ _ (Ne.symm r)];exact B
  refine Za (listUpdate_at v rfl ?_ (by rw[hsz,sizeLine_eq];lia) (Ua _));refine Za (wpAny_letGo ?_);refine Za (seqEpoch_at (s:={ s with heap:=s.heap.update kS (Obj.mapSeq λ_ => #[]) }) g rfl (Za (listUpdate_at (s:={ s with heap:=s.heap.update kS (Obj.mapSeq λ_ => #[]) }) g rfl ?_ (Ua _) (by rw[Ze Zj,Ul,y.size,sizeLine_eq];lia))));simp only[bne_self_eq_false,UF,if_false];refine Zb (h f _ y G (λb o I u J=>?_) ?_)
  .show((s.heap.update kS (Obj.mapSeq λ_ => #[])).update a (Obj.mapSeq λ_=>f.map (jC vs))).get? b=some o;rw[Heap.get?_update_ne _ _ _ _ u,Heap.get?_update_ne _ _ _ _ I];exact J
  .exact⟨_,get?_update_seq g (λ_=>f.map (jC vs))⟩
 unfold ksk_end;dsimp only;simp only[UF,if_false];by_cases l:vs.toArray.size<2
 .rw[Zd l,Zd l];refine Za (Zb (m _ (Array.range vs.length) x rfl (An _ _ (Zf _)) λi j M N=>?_));rw[Zm] at l;lia
 .rw[Ze l,Ze l];rw[Zm] at l;rw[ksk_kind p (by rw[hsz];lia)];refine Za (Zb ?_);refine Za (Zc (Fb (S7 kz) (S6 p z) (Q:=λ_ n=>∃f,arrOf n=f.map (λi=>(jC keys.toList i,jC vs i))/\failedOf n=none/\Pl vs.length f vs.length/\Up (λi j=>decide (kz.getD i 0<kz.getD j 0)) f vs.length)
   ⟨x,rfl,rfl,rfl⟩ (An _ _ ()) () q ()) ?_ λ_ _ e=>e)
  exact()
def S9 {a n:Addr}{f:Value}{l:Yf}{kz:Yh}{K:Nat}{P:PySem.Fin->YC}(M:kz.length=l.length)(C:l.length<1000)(F:n≠a)
 (N:s.heap.get? n=some (seqObj "list" #[] 0)) (Y:s.heap.get? a=some (seqObj "list" #[] K))
 (y:∀(i:Nat) v k,l[i]? = some v->kz[i]? = some k->∀h tk,(∀b o,b≠n->b≠a->s.heap.get? b=some o->h.get? b=some o) ->
  YJ prog w A (call f [v]) (λr s'=>∃t G,r=.int k t/\s'={ s with heap:=h,toks:=G }) (λ_ _=>False) { s with heap:=h,toks:=tk })
 (h:∀B h' tk,Pl l.length B l.length->Up (λi j=>decide (kz.getD i 0<kz.getD j 0)) B l.length->(∀b o,b≠n->b≠a->s.heap.get? b=some o->h'.get? b=some o)->(∃c,h'.get? a=some (seqObj "list" (B.map (jC l)) c))->P (.done (.ret .none)) { s with heap:=h',toks:=tk }):
 YJ prog w A (ksk_rest a f false l.toArray K (.ref n)) P E s:=by
 unfold ksk_rest;refine Za (wpAny_rule ?_)
 first
  |rw[List.forIn_toArray]
  | (rw[<- Vo];simp only[List.toList_toArray])
  |rw[<- Vo]
 refine Za (ksk_fold (λi s'=>∃h' tk q e,s'={ s with heap:=h',toks:=tk }/\(∀b o,b≠n->s.heap.get? b=some o->h'.get? b=some o)/\h'.get? n=some (seqObj "list" q e)/\IntsAre q.toList (kz.take i)) l 0 s
  ⟨s.heap,s.toks,#[],0,rfl,λ_ _ _ e=>e,N,by simpa using IntsAre.nil⟩ ?step ?done)
 case step =>
  rintro j x s' O ⟨h',tk,q,e,rfl,L,m,H⟩;simp only[Nat.zero_add] at H ⊢;have Z:j<l.length:=();obtain⟨k,hkj⟩:∃k,kz[j]? = some k:=⟨_,Zqg ()⟩;have hz:q.size<=l.length:=by
   have Q:=H.length;rw[Ui,Uy] at Q;lia
  refine Za (wpAny_attempt (Zc (y j x k O hkj h' tk λb o R _ S=>L b o R S) (λv T U=>?_) λ_ _ X=>X.elim));obtain⟨z,I,rfl,rfl⟩:=U
  try dsimp only
  obtain⟨c2,hc2⟩:∃c2,(h'.update n (Obj.mapSeq (·.push (.int k z)))).get? n=some (seqObj "list" (q.push (.int k z)) c2):=⟨_,get?_update_seq m (·.push (.int k z))⟩;have ek:kz.take (j+1)=kz.take j++[k]:=by rw[Vr,hkj];simp
  have ea:(q.push (Value.int k z)).toList=q.toList++[Value.int k z]:=by simp
  refine Za (listUpdate_at (s:={ s with heap:=h',toks:=I }) m rfl ?_ (by rw[sizeLine_eq];lia) (Zh (Yx (Array.size_push ..)) (by rw[sizeLine_eq];lia)))
  grind[wpAny_pure,ksk_snoc,Heap.get?_update_ne]
 case done =>
  rintro s' ⟨h',tk,q,e,rfl,L,m,H⟩;have J:IntsAre q.toList kz:=by
   grind[List.take_of_length_le]
  try dsimp only
  refine Za (listItems_at m rfl ?_);exact S8 J M C F m () λB h2 p u k2 g=>by grind
def SA {a:Addr}{f:Value}{l:Yf}{kz:Yh}{n:Nat}{P:PySem.Fin->YC}(m:s.heap.get? a=some (seqObj "list" l.toArray n))(F:kz.length=l.length)(x:l.length<1000)
 (B:∀(i:Nat) v k,l[i]? = some v->kz[i]? = some k->∀h tk,(∀b o,b≠a->s.heap.get? b=some o->h.get? b=some o) ->
  YJ prog w A (call f [v]) (λr s'=>∃t y,r=.int k t/\s'={ s with heap:=h,toks:=y }) (λ_ _=>False) { s with heap:=h,toks:=tk })
 (h:∀q h' tk,Pl l.length q l.length->Up (λi j=>decide (kz.getD i 0<kz.getD j 0)) q l.length->(∀b o,b≠a->s.heap.get? b=some o->h'.get? b=some o)->(∃c,h'.get? a=some (seqObj "list" (q.map (jC l)) c))->P (.done (.ret .none)) { s with heap:=h',toks:=tk }):
 YJ prog w A (ksk_tree a f false) P E s:=by
 have G:a<s.heap.objs.size:=Zk m;obtain⟨C,ho1⟩:∃C,(s.heap.update a (Obj.mapSeq λ_=>(#[]:Yn))).get? a=some (seqObj "list" #[] C):=⟨_,get?_update_seq m λ_ => #[]⟩;have z:((s.heap.update a (Obj.mapSeq λ_=>(#[]:Yn))).push (seqObj "tuple" l.toArray 0)).objs.size=s.heap.objs.size+1:=by simp
 unfold ksk_tree;refine Za (listItems_at m rfl ?_);refine Za (listUpdate_at m rfl ?_ (by rw[Zm,sizeLine_eq];lia) (Ua _));refine Za (seqEpoch_at ho1 rfl (Za (wpAny_newTuple ?_ (by show l.length<=_;rw[sizeLine_eq];lia))));refine Za (wpAny_newList (wpAny_holding ?_) (Ua _));have H:∀{b o},s.heap.get? b=some o->b≠s.heap.objs.size/\b≠s.heap.objs.size+1:=λe=>⟨Zi (Zk e),Zi (UE (Zk e))⟩;have keep:∀b o,b≠a->s.heap.get? b=some o->(((s.heap.update a (Obj.mapSeq λ_=>(#[]:Yn))).push (seqObj "tuple" l.toArray 0)).push (seqObj "list" #[] 0)).get? b=some o:=λb o I e=>by
  grind[Heap.get?_push_of_some,Heap.get?_update_ne]
 refine S9
  F x (by rw[z];exact U7 (UE G)) (Zr _ rfl) (Zq _ (Zq _ ho1))
  ()
  (λq h' tk p u J g=>())
end
section
variable {X:Cx}
def Hw:YE->Hp->VK->Prop:=λe H Q=>∃a ys rs,e=[.ref a]/\Rd H a (.lst ys)/\qm H (rs.map rD) ys/\rs.Pairwise (λa b=>j8 a b=true)/\rs.length<1000/\(∀r∈rs,r.length<=1000) /\
 ∀l c,H l=none->(∀G,qm G (rs.map rD) ys->qm G ((JQ zf rs).map rD) c)->Q (.ref l) (upd H l (.lst c))
def SC {Y:Yb}{Z: St}{H:Hp}{s:Shared}{a:Addr}{ys:YE}{rs:Jz}{Q:VK}(I:Inv X Y Z H s)(T:Rd H a (.lst ys))(O:qm H (rs.map rD) ys)(hs:rs.Pairwise (λa b=>j8 a b=true))(U:rs.length<1000)(C:∀r∈rs,r.length<=1000)
 (q:∀l P,H l=none->(∀G,qm G (rs.map rD) ys->qm G ((JQ zf rs).map rD) P)->Q (.ref l) (upd H l (.lst P))):
 YI X (call (.builtin "sorted") [.ref a] [(Str.ofString "key",.builtin "len")]) (EP X Y Z Q) X.xe s:=by
 obtain⟨its,E,pl,hz⟩:=I.list (.inl T);have l1:=O.length;have l2:=E.length;rw[Zql] at l1;have F:its.length=rs.length:=()
 have hl:=pl.isList;have keep:∀b o,s.heap.get? b=some o->(((s.heap.push (seqObj "list" #[] 0)).update s.heap.objs.size (Obj.mapSeq (· ++ its.toArray))).push (seqObj "list" its.toArray 0)).get? b=some o:=λb o q=>by
  have w:b<s.heap.objs.size:=Zk q;refine Zq _ ?_;rw[Heap.get?_update_ne _ _ _ _ (Zi w),Heap.get?_push_ne _ _ _ (Zi w)];exact q
 have hsz:((s.heap.push (seqObj "list" #[] 0)).update s.heap.objs.size (Obj.mapSeq (· ++ its.toArray))).objs.size=s.heap.objs.size+1:=by
  simp
 have h:(((s.heap.push (seqObj "list" #[] 0)).update s.heap.objs.size (Obj.mapSeq (· ++ its.toArray))).push (seqObj "list" its.toArray 0)).get? (s.heap.objs.size+1)=some (seqObj "list" its.toArray 0):=by
  rw[<- hsz];exact Zr _ rfl
 refine call_function_entry_kw kind_sorted plain_sorted entry_sorted (ksk_s1 _ _) ?_;unfold Builtin.«sorted»;refine Za (m:=checkCount "sorted" 1 1 _) (Zb ?_);refine Za (collect_list hl ?_ (by rw[F,sizeLine_eq];lia));refine Za (wpAny_newList ?_ (by rw[F,sizeLine_eq];lia));show wpAny _ _ _ _ _ { s with heap:=((s.heap.push (seqObj "list" #[] 0)).update s.heap.objs.size (Obj.mapSeq (· ++ its.toArray))).push (seqObj "list" its.toArray 0) };rw[hsz];generalize hH:((s.heap.push (seqObj "list" #[] 0)).update s.heap.objs.size (Obj.mapSeq (· ++ its.toArray))).push (seqObj "list" its.toArray 0)=hp at keep h;refine Za (wpAny_holding (wpAny_call_entry_kw slot_list_sort ⟨_,h,rfl⟩ entry_list_sort ?body (ksk_l1 _ _)))
 case body =>
  show wpAny (model X.prog X.w) X.A.in1.in1 (Builtin.«list.sort» ⟨[.ref (s.heap.objs.size+1)],[(Str.ofString "key",.builtin "len")]⟩) _ _ _;rw[ksk_t4];refine SA (s:={ s with heap:=hp }) (kz:=rs.map λr=>(r.length:Int)) h () () (λi v k y hk h' tk J=>?_) λn h' tk p u J g=>⟨_,rfl,Zb ⟨_,rfl,?_⟩⟩
  .have f:i<rs.length:=by
    have:=(Jc.mp hk).1
    rwa [Zql] at this
   obtain⟨x,t,hI⟩:=O.get (i:=i) (d:=rD (rs.getD i [])) (by rw[Zv,Zqg f,Qe (Zqg f)];rfl);obtain⟨v',z,A⟩:=E.get t;rw[y] at z;obtain rfl:=Zqi z;obtain⟨b,o,K,m,R⟩:=Cp I.hok hI A;obtain rfl:v=Value.ref b:=R.isv;have hb:b≠s.heap.objs.size+1:=Zi (UE (Zk R.get));have ht:IsTup h' b K.toArray:=⟨o,J b o hb (keep b o R.get),R.cls,m,R.dat⟩;have L:K.length=(rs.getD i []).length:=R.prs.1;have ek:k=((rs.getD i []).length:Int):=by
    simp_all
   have S:(rs.getD i []).length<=1000:=by
    rw[Qe (Zqg f)];exact C _ (Uv f)
   have ev:Value.int ((K.toArray.size:Nat):Int) (tk+1)=Value.int k (tk+1):=by simp_all
   exact len_tuple (s:={ s with heap:=h',toks:=tk }) ht (by rw[Zm,L];lia) ⟨tk+1,tk+1+1,ev,rfl⟩
  .obtain⟨c,g⟩:=g;have M:∀b o,s.heap.get? b=some o->h'.get? b=some o:=λb o e=>J b o (Zi (UE (Zk e))) (keep b o e);rw[F] at p u;have ud:(λi j=>decide ((rs.map λr=>(r.length:Int)).getD i 0<(rs.map λr=>(r.length:Int)).getD j 0))=λi j=>decide (((rs.getD i []).length:Int)<((rs.getD j []).length:Int)):=by
    have e:∀i,(rs.map λr=>(r.length:Int)).getD i 0=((rs.getD i []).length:Int):=λi=>by
     rw[Ut,Zv,Ut];cases rs[i]?<;>rfl
    funext i j
    rw[e,e]
   rw[ud] at u;have sp:=S5 hs p u;have B:s.heap.objs.size<=s.heap.objs.size+1:=Nat.le_succ _;have at_:∀i∈n.toList,∃x v,ys[i]? = some x/\its[i]? = some v/\js x v:=λi f=>by
    have hn:=p.mem f;obtain⟨x,t⟩:∃x,ys[i]? = some x:=⟨ys[i]'(),()⟩;obtain⟨v,y,A⟩:=E.get t;exact⟨x,v,t,y,A⟩
   have N:=q (s.heap.objs.size+1) (n.toList.map λi=>ys.getD i .non) (I.hok.fresh B) λG hG=>by
    have:=AL hG n.toList λi f=>p.mem f;rw[sp] at this;exact this
   refine⟨.ref (s.heap.objs.size+1),upd H (s.heap.objs.size+1) (.lst (n.toList.map λi=>ys.getD i .non)),I.laid (a:=s.heap.objs.size+1) (o:=.lst (n.toList.map λi=>ys.getD i .non)) (t':=tk) M B ⟨?_,n.toList.map (jC its),c,?_,?_⟩,rfl,N⟩
   .rw[Zql,p.len];exact QK ()
   .refine Xk λi f=>?_;obtain⟨x,v,t,y,A⟩:=at_ i f;unfold jC;rw[Qe t,Qe y];exact A
   .rw[g]
    congr 3
    apply Vk;simp
def pe_sortLen (i:Gl X "sorted")(j:X.mg "sorted" = none)(b:Gl X "len")(c:X.mg "len" = none)(l:PA X [e] t)
 (m:backTo pos (starEach [e] X.env)=(false,eval e X.env)::backTo pos (starEach [] X.env):=by rfl) (f:(backTo pos (starEach [e] X.env)).any (·.1)=false:=by rfl):PE X (.Call (.Name "sorted" p) [e] [⟨some "key",.Name "len" lp,kp⟩] pos) (vm Hw t):=by
 intro Y s Z H Q I h;refine wpAny_Call_Name_kw (Wz I i j (show bootBuiltins "sorted" = some (.builtin "sorted") by kernel_rfl) ?_ (by decide) (by decide));refine callWith_kw (jH (l pos Y s Z H _ I h) λA B ⟨C,E,g,n,o⟩=>(kws_cons (Wz g b c boot_len (kws_nil ?_) (by decide) (by decide)))) m f;obtain⟨a,ys,rs,rfl,r,v,w,x,y,q⟩:=o;obtain⟨u,rfl,z⟩:=QX n;obtain rfl:=z;exact SC g r v w x y q
end
end L2.ST
namespace L2.DL
open PySem PySem.Spec PyProof.Rows L2.ST
def YS:YG->YH
 | [.lst ds]=>(Q3 Kv ds).bind λrs=>if rs.Pairwise (λa b=>j8 a b=true)/\rs.length<1000/\∀r∈rs,r.length<=1000 then some (.lst ((JQ zf rs).map jq)) else none
 |_=>none
section
variable {X:Cx}{E:XK}{fr:FA}{es:Ym}{e:Expr}
def SE (h:∀{g:TA},PA X es g->PE X e (vm Hw g))(m:QA X E es fr):QN X E e (jt YS fr):=PE.weak (h m) λZ H Q o=>by
 obtain⟨B,F,sd,r,n⟩:=o;refine⟨B,F,sd,r,(ja n).mono (λds p y i A b s=>?_) λ_ _ q=>q⟩;obtain⟨z,hz,q⟩:=jh p;unfold YS at hz
 split at hz
 .obtain⟨rs,t,hz⟩:=Jg.mp hz
  split at hz
  .rename_i c;obtain rfl:=Zqi hz;obtain⟨v,rfl,h⟩:=Q7 s;rw[Cz t,jm] at h;obtain⟨a,ys,rfl,u,j⟩:=h;exact⟨a,ys,rs,rfl,u.same b.fh,zY.mp (jd.same b.fh _ _ j),c.1,c.2.1,c.2.2,λl w f x=>((q.ext b) l i _ (.keep b.fh f _) f (Qj b.fh f) ⟨w,JL,zY.mpr (x i (zY.mp j))⟩)⟩
  .exact J5 hz
 simp_all
end
def SF (h:rs.Pairwise (λa b=>j8 a b=true))(c:rs.length<1000)(e:∀r∈rs,r.length<=1000):YS [.lst (rs.map jq)]=some (.lst ((JQ zf rs).map jq)):=by
 show(Q3 Kv (rs.map jq)).bind _=_
 simp_all [Cy]
end L2.DL
namespace L2
def xT.has {P:Program}{w:World}{H:Hp}{h:Heap}{a:Addr}{o:HO}(x:xT P w H h a o):∃u,h.get? a=some u:=by
 cases o with
 |lst c=>obtain⟨_,_,_,_,e⟩:=x;exact⟨_,e⟩
 |tup c=>obtain⟨_,_,_,o,e,_⟩:=x;exact⟨_,e⟩
 |dK b=>obtain⟨_,_,_,_,o,_,_,e,_⟩:=x;exact⟨_,e⟩
 |dT b=>obtain⟨_,_,_,_,o,_,_,e,_⟩:=x;exact⟨_,e⟩
 |set S n=>obtain⟨o,_,_,_,e,_⟩:=x;exact⟨_,e⟩
 |ins C g fs=>exact⟨_,x.2.2.2.1⟩
 |own y=>exact x
 |xd fs=>obtain⟨_,⟨_,_,_,e,_⟩,_⟩:=x;exact⟨_,e⟩
 |rng lo i=>obtain⟨_,_,_,e⟩:=x;exact⟨_,e⟩
 |frz j u=>exact⟨_,x.1⟩
 |tbl ps=>exact⟨_,x⟩
 |met f y=>exact⟨_,x⟩
 |ext φ => exact x.2.1
structure FlyAt (l:List Env)(h₀:Heap)(H:Hp)(x C:Addr)(B h:Heap):Prop where
 fly:∃t,Heap.FlyingW B l x (.ref C) (.ref t) h
 trk:∀b o,h.get? b=some o->(H b≠none\/((∃u,h₀.get? b=some u)/\b∉xb l))->B.get? b=some o
def x8 (P:Program)(w:World):zw:=λa H s E e s'=>∃b x C B,e=.ref x/\s'.os=s.os/\AllBare s'.gens/\Un (xb a) [] H b s.heap s'.heap/\qL P w b s'.heap/\FlyAt a s.heap b x C B s'.heap/\E (.ref C) none b
structure Thrown (X:Cx)(E:XK):Prop where
 on:∀(Y:Yb) (Z: St) (H:Hp) (s:Shared) (h₀:Heap) (x C:Addr) (B:Heap),Inv X Y Z H s->(∀b u,X.s₀.heap.get? b=some u->b∉X.ex->∃u',h₀.get? b=some u')->FlyAt X.stack h₀ H x C B s.heap->E (.ref C) none H->X.xe (.ref x) s
structure Raises (X:Cx)(E:XK):Prop where
 new:∀(Y:Yb) (Z: St) (H:Hp) (s:Shared) (h':Heap) (x C:Addr) (args:Yf),Inv X Y Z H s->Heap.MadeExcOf s.heap h' x (.ref C) args->E (.ref C) none H->X.xe (.ref x) { s with heap:=h' }
def Thrown.passes {X:Cx}{E:XK}(T:Thrown X E):Xc (x8 X.prog X.w) X E:=by
 intro Y Z H s e s' I ⟨c,x,C,B,f,os,bare,un,a,g,h⟩;subst f;exact T.on Y Z c s' s.heap x C B (I.call' os un a bare ()) (λb u e i=>I.base.there b u e i) g h
section
variable {P:Program}{w:World}{K:W.Frag}{mg:Ye}{base:Heap}{N:Yk}{qual:Str}{scope:Scope}{f:Addr}{cd:Value}{A:Around}{outer:List Env}{s:Shared}{H:Hp}{E:XK}
def Df {Y:Yb}{Z: St}{m:Hp}{s':Shared}{h₀ g B:Heap}{x C t:Addr}(I:Inv (jX (x8 P w) P w K mg base N qual scope f cd A outer s H E) Y Z m s')
 (U:∀b u,s.heap.get? b=some u->∃J,h₀.get? b=some J) (p:Heap.FlyingW B outer x (.ref C) (.ref t) g) (L:s'.heap.UpToSlots g)
 (trk:∀b o,s'.heap.get? b=some o->(m b≠none\/((∃u,h₀.get? b=some u)/\b∉xb (envOfC qual scope s.heap.objs.size f cd::outer)))->B.get? b=some o) (M:E (.ref C) none m):
 x8 P w outer H s E (.ref x) { s' with heap:=g }:=by
 have O:∀b u,s.heap.get? b=some u->b∉xb outer->b∉xb (envOfC qual scope s.heap.objs.size f cd::outer):=λb u e l z=>by
  have z:=z;rcases Uq.mp z with q|q
  .exact Zn (Zk e) (by rw[q];exact Zy _)
  .exact l q
 have a:∀b:Addr,b∉(jX (x8 P w) P w K mg base N qual scope f cd A outer s H E).ex:=λb z=>Zn (show b∈([]:Yl) from z) ();have keep:∀b o,s'.heap.get? b=some o->(m b≠none\/((∃u,s.heap.get? b=some u)/\b∉xb outer))->B.get? b=some o:=by grind
 have y:∀b o,s.heap.get? b=some o->b∈xb outer->∃F,g.get? b=some { o with slots:=F }:=λb o e l=>by
  obtain⟨F,Q⟩:=I.base.slot b o e (I.ok.frf b l) l (a b);obtain⟨_,i,j,R⟩:=I.ok.funs.mem l;have j:s.heap.get? b=some i:=j;rw[e] at j;obtain rfl:=Zqi j;obtain⟨r,S⟩:=L b _ Q R;exact⟨r,S⟩
 refine⟨m,x,C,B,rfl,I.os,I.bare,⟨λb o e n l _=>?_,(),λb o e n _=>I.base.free b o e n (a b),λb o e _=>?_,I.base.tups,I.base.frzs,I.base.tbls⟩,λb u e=>?_,⟨⟨t,p⟩,λb o e c=>?_⟩,M⟩
 .exact p.1 b o (keep b o (I.base.keep b o e n l (a b)) ())
 .by_cases l:b∈xb outer
  .grind
  .have ⟨i,G⟩:=I.base.there b o e (a b);exact⟨i,p.1 b i ()⟩
 .refine(I.hok b u e).stay (λc v X q=>p.1 c v (keep c v q (.inl ?_))) (λ_ q=>q) λ_ _ q=>q
  grind
 .have T:∃i,s'.heap.get? b=some i:=by
   rcases c with c|⟨⟨u,hu⟩,_⟩
   .cases q:m b with
    |none=>exact Zn q c
    |some u=>exact(I.hok b u q).has
   .exact I.base.there b u hu (a b)
  have ⟨i,G⟩:=T;have:=p.1 b i (keep b i G c)
  grind[Zqi]
def Kh:Thrown (jX (x8 P w) P w K mg base N qual scope f cd A outer s H E) E:=by
 refine⟨λY Z m s' h₀ x C B I i a j=>?_⟩;obtain⟨⟨t,c⟩,trk⟩:=a;have g:∀b:Addr,b∉(jX (x8 P w) P w K mg base N qual scope f cd A outer s H E).ex:=λb z=>Zn (show b∈([]:Yl) from z) ();exact wpAny_leaves_onW I.ok.frames rfl c λh' a l=>Df I (λb u e=>i b u e (g b)) a l trk j
def SG:Raises (jX (x8 P w) P w K mg base N qual scope f cd A outer s H E) E:=by
 refine⟨λY Z r s' h' x C args I h i=>?_⟩;have g:∀env∈(envOfC qual scope s.heap.objs.size f cd::outer),∀a,env.frame=some a->a∈xb (envOfC qual scope s.heap.objs.size f cd::outer):=λenv j a l=>Jr.mpr ⟨env,j,l⟩;refine wpAny_leaves_madeW I.ok.frames rfl (λb o e=>W.of_hideAll _ e) (W.funFrames_hide I.stack g) h λm t n p v q=>(Df (s':=s') I (λb u e=>I.base.there b u e (by show b∉([]:Yl);simp)) n ((Heap.UpToSlots.of_keeps h.keeps).trans q) (λb o e c=>(W.hideAll_get _ e λz=>?_)) i);rcases c with c|c
 .exact c (I.stkFree b z)
 simp_all
end
def xV (P:Program)(w:World)(K:W.Frag)(mg:Ye)(a:Heap)(name:Str)(k:Nat)(ps:Yk)(sp:Sp):Prop:=
 ∃f b,FnOk P w K mg a (x8 P w) k f b ps sp/\zz K b ps []/\W.keepIn K (.ref f)=true/\mg name=some (.ref f)
theorem xV.mono {P:Program}{w:World}{K:W.Frag}{mg:Ye}{a:Heap}{name:Str}{j k:Nat}{ps:Yk}{sp:Sp}(c:xV P w K mg a name j ps sp)(h:j<=k):xV P w K mg a name k ps sp:=by
 obtain⟨f,b,F,r⟩:=c;exact⟨f,b,F.mono h,r⟩
section
variable {X:Cx}{E:XK}{name:Str}{k:Nat}{ps:Yk}{sp:Sp}{p pos:Pos}{e:Expr}{es:Ym}{t:TA}
def YT (c:xV X.prog X.w X.K X.mg X.base name k ps sp)(T:Thrown X E)(h:Room k X.A)(i:Gl X name)(j:PA X (e::es) t)
 (a:(name == ("__debug__" : Str))=false:=by decide) (l:starEach (e::es) X.env=(false,eval e X.env)::starEach es X.env:=by rfl) (g:(backTo pos (starEach es X.env)).any (·.1)=false:=by rfl):
 PE X (.Call (.Name name p) (e::es) [] pos) (BI sp [] E t):=by
 obtain⟨f,o,F,b,m,n⟩:=c;exact Ed F h i n m b .nil T.passes j a l g
end
def Fun.okX {P:Program}{w:World}{K:W.Frag}{mg:Ye}{e:Heap}{x b:Str}{st:Stmt}{f:Addr}{l:FuncData}{N ps:Yk}{k:Nat}{sp:Sp}(F:Fun K x b st f l)(S:FnScope N ps (JU st))(len:∀g H Q E,sp g H Q E->g.length=ps.length)
 (h:∀c A a s H g Q E,Room k (A.deeper (envOfC b (JU st) s.heap.objs.size f c))->sp g H Q E ->
  ∃t,qK (jX (x8 P w) P w K mg e N b (JU st) f c A a s H E) (QQ st) t/\t { nx:=λ_ m=>Q .non m,rt:=Q } (start N g) H):FnOk P w K mg e (x8 P w) (k+1) f l ps sp:=by
 obtain⟨r,u,kV,n,v,y,c,ct,o,rfl,p,i⟩:=F.ex;exact Ej p i S len λA a s H g Q E q j=>h c A a s H g Q E q j
end L2
namespace L2.DL
def x5 (K:W.Frag)(a:YG->Res D):Sp:=λb H Q E=>∃F ds,jk F H/\jd K F ds b/\(a ds).need (y8 K F H Q) (XW K E F H)
def xQ (K:W.Frag)(a:YG->Res D):Sp:=λb H Q E=>∃F ds,jk F H/\jd K F ds b/\(a ds).need (xL K F H Q) (XW K E F H)
def Res.strict {α: Type}:Res α -> Res α
 | .ok a=>.ok a
 |_=>.no
@[simp]def wc {α: Type}(a:α):(Res.ok a).strict=.ok a:=rfl
def jO {α: Type}{r:Res α}{p:α -> Prop}{q b:Str->YG->Prop}(h:r.strict.need p q):r.need p b:=by
 cases r with
 |ok a=>exact h
 |ex c fs=>exact h.elim
 |no=>exact h
def QD (a:YG->Res D)(b:FA):FE:=λsd=>(b sd).bind λds=>(a ds).strict
@[simp]def gU (Fn)(fr)(sd):QD Fn fr sd=(fr sd).bind λds=>(Fn ds).strict:=rfl
section
variable {X:Cx}{E:XK}{name:Str}{k:Nat}{ps:Yk}{Fn:YG->Res D}{p pos:Pos}{e:Expr}{es:Ym}{fr:FA}
def YU (c:xV X.prog X.w X.K X.mg X.base name k ps (x5 X.K Fn))(T:Thrown X E)(g:Room k X.A)(h:Gl X name)(i:QA X E (e::es) fr)
 (a:(name == ("__debug__" : Str))=false:=by decide) (j:starEach (e::es) X.env=(false,eval e X.env)::starEach es X.env:=by rfl) (b:(backTo pos (starEach es X.env)).any (·.1)=false:=by rfl):
 QE X E (.Call (.Name name p) (e::es) [] pos) (J6 Fn fr):=PE.weak (YT c T g h i a j b) λZ H Q l=>by
 obtain⟨B,F,sd,r,n⟩:=l;refine⟨B,F,sd,r,(ja n).mono (λm o s t u f v=>?_) λ_ _ q=>q⟩;show x5 X.K Fn (s++[]) u Q E;rw[ZB];exact⟨t,m,f.fh,v,XX o f⟩
def Xy (c:xV X.prog X.w X.K X.mg X.base name k ps (xQ X.K Fn))(T:Thrown X E)(g:Room k X.A)(h:Gl X name)(i:QA X E (e::es) fr)
 (a:(name == ("__debug__" : Str))=false:=by decide) (j:starEach (e::es) X.env=(false,eval e X.env)::starEach es X.env:=by rfl) (b:(backTo pos (starEach es X.env)).any (·.1)=false:=by rfl):
 QN X E (.Call (.Name name p) (e::es) [] pos) (J6 Fn fr):=PE.weak (YT c T g h i a j b) λZ H Q l=>by
 obtain⟨B,F,sd,r,n⟩:=l;refine⟨B,F,sd,r,(ja n).mono (λm o s t u f v=>?_) λ_ _ q=>q⟩;show xQ X.K Fn (s++[]) u Q E;rw[ZB];exact⟨t,m,f.fh,v,Av o f⟩
def uK (c:z7 X.prog X.w X.K X.mg X.base name k ps (qH X.K Fn))(g:Room k X.A)(h:Gl X name)(i:QA X E (e::es) fr)
 (a:(name == ("__debug__" : Str))=false:=by decide) (j:starEach (e::es) X.env=(false,eval e X.env)::starEach es X.env:=by rfl) (b:(backTo pos (starEach es X.env)).any (·.1)=false:=by rfl):
 QE X E (.Call (.Name name p) (e::es) [] pos) (QD Fn fr):=PE.weak (XN c g h i a j b) λZ H Q l=>by
 obtain⟨B,F,sd,r,n⟩:=l;refine⟨B,F,sd,r,(ja n).mono (λm o s t u f v=>?_) λ_ _ q=>q⟩;show qH X.K Fn (s++[]) u Q E0;rw[ZB];exact⟨t,m,f.fh,v,jO (XX o f)⟩
def WP (c:z7 X.prog X.w X.K X.mg X.base name k ps (zb X.K Fn))(g:Room k X.A)(h:Gl X name)(i:QA X E (e::es) fr)
 (a:(name == ("__debug__" : Str))=false:=by decide) (j:starEach (e::es) X.env=(false,eval e X.env)::starEach es X.env:=by rfl) (b:(backTo pos (starEach es X.env)).any (·.1)=false:=by rfl):
 QN X E (.Call (.Name name p) (e::es) [] pos) (QD Fn fr):=PE.weak (XN c g h i a j b) λZ H Q l=>by
 obtain⟨B,F,sd,r,n⟩:=l;refine⟨B,F,sd,r,(ja n).mono (λm o s t u f v=>?_) λ_ _ q=>q⟩;show zb X.K Fn (s++[]) u Q E0;rw[ZB];exact⟨t,m,f.fh,v,jO (Av o f)⟩
end
section
variable {P:Program}{w:World}{K:W.Frag}{mg:Ye}{base:Heap}{x qual:Str}{f:Addr}{fd:FuncData}{N ps:Yk}{k:Nat}{st:Stmt}
def AM {g:FS}(F:Fun K x qual st f fd)(S:FnScope N ps (JU st))
 (e:∀b A a s H E,Room k (A.deeper (envOfC qual (JU st) s.heap.objs.size f b))->zq (jX (x8 P w) P w K mg base N qual (JU st) f b A a s H E) E false (QQ st) g):
 FnOk P w K mg base (x8 P w) (k+1) f fd ps (x5 K (jE N.length ps.length g)):=by
 refine F.okX S (λi H Q E ⟨F,ds,_,h,n⟩=>?_) λb A a s H i Q E j ⟨F,ds,hs,h,n⟩=>⟨_,e b A a s H E j,?_⟩
 .unfold jE at n
  split at n
  .rw[h.length];lia
  .exact n.elim
 .unfold jE at n
  split at n
  .refine⟨⟨F,H,λ_=>none⟩,F,_,RS.start hs h,(ja n).mono (λo c=>?_) λ_ _ q=>q⟩;cases o with
   |next sd=>exact λZ l m _ r=>c .non l m r.ext (jD.mpr rfl)
   |ret d=>exact c
   |brk sd=>exact c.elim
   |cont sd=>exact c.elim
  .exact n.elim
def AN {g:FS}(F:Fun K x qual st f fd)(S:FnScope N ps (JU st))
 (e:∀b A a s H E,Room k (A.deeper (envOfC qual (JU st) s.heap.objs.size f b))->zq (jX (x8 P w) P w K mg base N qual (JU st) f b A a s H E) E true (QQ st) g):
 FnOk P w K mg base (x8 P w) (k+1) f fd ps (xQ K (qc N.length ps.length g)):=by
 refine F.okX S (λi H Q E ⟨F,ds,_,h,n⟩=>?_) λb A a s H i Q E j ⟨F,ds,hs,h,n⟩=>⟨_,e b A a s H E j,?_⟩
 .unfold qc at n
  split at n
  .rw[h.length];lia
  .exact n.elim
 .unfold qc at n
  split at n
  .refine⟨⟨F,H,λ_=>none⟩,F,_,RS.start hs h,(ja n).mono (λo c=>?_) λ_ _ q=>q⟩;cases o with
   |next sd=>exact c.elim
   |ret d=>exact c
   |brk sd=>exact c.elim
   |cont sd=>exact c.elim
  .exact n.elim
end
end L2.DL
namespace L2
def SH (h:n<1000000):n.log2<20:=by
 by_cases z:n=0
 .simp_all
 .exact(Nat.log2_lt z).mpr (Zg h (by decide))
section
variable {X:Cx}{x:Str}{v e:Expr}{tv:TE}{t:TA}{p1 p2 np cpos pos:Pos}{k}
def mq (x:Str)(tv:TE):TE:=λZ H Q=>tv Z H λy b=>∃a:Int,y=.int a/\a.natAbs<1000000/\Q (.str (Str.empty++x++Str.ofString (toString a))) b
def SI (A:x.length<=1000)(g:PE X v tv):PE X (.JoinedStr [.Constant (.str x) k p1,.FormattedValue v (-1) none p2] pos) (mq x tv):=by
 intro Y s Z H Q I h;refine wpAny_JoinedStr ?_;have B:(Str.empty:Str).length=0:=rfl;refine jH (DP Y s Z H (λy b=>y=.str x/\b=H) I ⟨rfl,rfl⟩) λu i ⟨y,b,j,l,c,m⟩=>?_;subst c m;obtain⟨n,rfl⟩:=l;refine⟨x,n,rfl,by grind[strLen_append,sizeLine_eq],wpAny_FormattedValue_plain (jH (g Y i Z b _ j h) λu C ⟨y,o,p,r,a,c,w,q⟩=>?_)⟩;subst c;obtain⟨E,rfl⟩:=r;have z:=SH w;have F:=int_text_length_le (by decide) z;have f:(Str.empty++x++Str.ofString (toString a)).length<=sizeLine:=by grind[strLen_append,PySem.ofString_length,sizeLine_eq]
 exact wpAny_formatField_int () ⟨_,_,rfl,f,f,⟨.str (Str.empty++x++Str.ofString (toString a)),o,p.tok _,⟨_,rfl⟩,q⟩⟩
structure Exc (K:W.Frag)(mg:Ye)(c:Str)(C:Addr):Prop where
 ns:W.nsIn K mainGlobals c=some (some (.ref C))
 mgc:mg c=some (.ref C)
 exc:W.excIn K C [.type "ValueError",.type "Exception",.type "BaseException",.type "object"] "ValueError.__new__" = true
def ro (m:Yf)(l:List Yg)(g:Addr->List Value->Option Value->Option Value->Option Value->Option Value->String->Option Value->Bool):Prop:=
 ∃C a k0 k1 k2 k3 n k5,m=.ref C::a/\l=[k0,k1,k2,k3,some (.builtin n),k5]/\g C a k0 k1 k2 k3 n k5=true
def SJ
 (q:W.excIn.match_1 (λ_ _=>Bool) m l g (λ_ _=>false)=true):ro m l g:=by
 cases m with
 |nil=>exact JC q
 |cons v b =>
  cases v with
  |ref C =>
   cases l with
   |nil=>exact JC q
   |cons k0 l =>
    cases l with
    |nil=>exact JC q
    |cons k1 l =>
     cases l with
     |nil=>exact JC q
     |cons k2 l =>
      cases l with
      |nil=>exact JC q
      |cons k3 l =>
       cases l with
       |nil=>exact JC q
       |cons a l =>
        cases a with
        |none=>exact JC q
        |some u =>
         cases u with
         |builtin n =>
          cases l with
          |nil=>exact JC q
          |cons k5 l =>
           cases l with
           |nil=>exact⟨_,_,_,_,_,_,_,_,rfl,rfl,q⟩
           |cons _ _=>exact JC q
         |_=>exact JC q
  |_=>exact JC q
def Hx {K:W.Frag}{h:Heap}{C:Addr}{f:Yf}{a:String}{P:Prop}(i:K.In h)(q:W.excIn K C f a=true)
 (k:∀j N nm m bs hdct sn sub ab col dd k0 k1 k2 k3 k5 p,h.get? C=some (excClassObj nm m C N bs j hdct sn sub ab col dd k0 k1 k2 k3 k5 a)->h.Ns N p->p "__init__" = none->OwnTail h f j->P):P:=by
 unfold W.excIn at q
 split at q
 .rename_i dd w r y;obtain⟨H,j,k0,k1,k2,k3,n,k5,s,hs,q⟩:=SJ q;simp only[Ue,Ys,Bool.not_eq_true'] at q;obtain⟨⟨⟨⟨⟨z,A⟩,b⟩,B⟩,c⟩,g⟩:=q;subst z A;have u:=i _ _ y;obtain⟨nm,bs,E,ns,m,F,sn,sub,ab,col,G⟩:=w;dsimp only at s b c g u;subst s b;have o:r = #[k0,k1,k2,k3,some (.builtin n),k5]:=by
   obtain⟨l⟩:=r;exact Zt Array.mk hs
  subst o;exact k j ns nm m bs F sn sub ab col dd k0 k1 k2 k3 k5 _ u (.of_isNs (W.isNs_of_in i c)) (W.nsMap_none_of_in i c g) (W.tail_of_in i B)
 .exact JC q
def SK (C:Addr)(E:XK)(t:TA):TS:=λ_ Z H=>t Z H λa b=>a.length<=1000/\E (.ref C) none b
def SL {E:XK}{c:Str}{C:Addr}(R:Raises X E)(f:Exc X.K X.mg c C)(j:X.calm=true)(l:Gl X c)(m:PA X [e] t)(n:(c == ("__debug__" : Str))=false:=by decide)
 (g:starEach [e] X.env=(false,eval e X.env)::starEach [] X.env:=by rfl):PS X (.Raise (some (.Call (.Name c np) [e] [] cpos)) none pos) (SK C E t):=by
 intro Y s Z H D I h;refine Hx I.mod.kin f.exc λB N nm q bs hdct sn sub ab col dd k0 k1 k2 k3 k5 F o p b T=>(wpAny_Raise_call_subU (nm:=nm) (q:=q) (N:=N) (bs:=bs) (hdct:=hdct) (sn:=sn) (sub:=sub) (ab:=ab) (col:=col) (dd:=dd) (k0:=k0) (k1:=k1) (k2:=k2) (k3:=k3) (k5:=k5)
  PySem.F.excBase_ValueError (by rfl) PySem.F.excBase_ValueError (T.hasType PySem.F.excBase_ValueError.hasBase) (I.ok.hd j) (by rw[g];rfl) b (Xa I l f.mgc ⟨rfl,?_⟩ n))
 have i:=m cpos Y s Z H _ I h;rw[g] at i ⊢;refine Calls.evalArgs_plain (Zc i (λG r ⟨J,u,a,w,K,z⟩=>?_) λ_ _ y=>y);have L:=w.length;refine⟨rfl,QK (),a.bk _ _ o,p.keeps a.bk,T.keeps a.bk,λh' x A=>R.new Y Z u r h' x C _ a A z⟩
end
end L2
namespace L2.DL
def w6 (x:Str):D->YH
 | .int a=>if Nat.ble a.natAbs 999999=true then some (.str (Str.empty++x++Str.ofString (toString a))) else none
 |_=>none
def SN (b: -999999<=a)(c:a<=999999):∃z,w6 x (.int a)=some (.str z):=⟨_,Zd (Nat.ble_eq.mpr ())⟩
def AO (c:Str)(f:FE):FS:=λsd=>(f sd).bind λ_=>.ex c []
@[simp]def gQ (c)(f)(sd):AO c f sd=(f sd).bind λ_=>.ex c []:=rfl
section
variable {X:Cx}{E:XK}{m:Option Bool}{x:Str}{v e:Expr}{fv fe:FE}{p1 p2 np cpos pos:Pos}{k}
def uL (b:x.length<=1000)(c:QE X E v fv):QE X E (.JoinedStr [.Constant (.str x) k p1,.FormattedValue v (-1) none p2] pos) (qX (w6 x) fv):=
 PE.weak (SI b c) λZ H Q f=>by
  obtain⟨B,F,sd,r,n⟩:=f;refine⟨B,F,sd,r,(ja n).mono (λd g y h i j l=>?_) λ_ _ q=>q⟩;obtain⟨z,hz,q⟩:=jh g;unfold w6 at hz
  split at hz
  .rename_i a
   split at hz
   .rename_i o;obtain rfl:=Zqi hz;exact⟨a,je.mp l,by have:=Nat.ble_eq.mp o;lia,q _ h i j (jr.mpr rfl)⟩
   .exact J5 hz
  simp_all
def SO (R:Raises X E)(ex:Exc X.K X.mg c C)(f:X.calm=true)(g:Gl X c)(h:QE X E e fe)(i:(c == ("__debug__" : Str))=false:=by decide)
 (a:starEach [e] X.env=(false,eval e X.env)::starEach [] X.env:=by rfl):QS X E m (.Raise (some (.Call (.Name c np) [e] [] cpos)) none pos) (AO c fe):=
 PS.weak (SL R ex f g (J1 h J2 a) i a) λT Z H j=>by
  obtain⟨B,F,sd,r,n⟩:=j;have l:(J0 fe jc sd).need (λds=>ds.length=1/\XW X.K E B.F0 B.H0 c []) (XW X.K E F H):=by
   unfold AO at n;unfold J0 jc;cases b:fe sd with
   |ok d=>rw[b] at n;exact⟨rfl,n⟩
   |ex o fs=>rw[b] at n;exact XW.ext (n:XW X.K E B.F0 B.H0 o fs) r.ext
   |no=>rwa [b] at n
  refine⟨B,F,sd,r,l.mono (λds p y s t u w=>?_) λ_ _ q=>q⟩;have:=w.length;exact⟨(),p.2 (.ref C) none s t (r.ext.trans u) ⟨C,rfl,ex.ns,.inl rfl⟩⟩
end
end L2.DL
namespace L2
def YV (X:Cx)(Y:Yb)(Z: St)(E:XK)(e:Value)(s':Shared):Prop:=
 ∃a h₀ x C B,e=.ref x/\Inv X Y Z a s'/\(∀b u,X.s₀.heap.get? b=some u->b∉X.ex->∃c,h₀.get? b=some c)/\(∀p∈X.pn++Y,∃u,h₀.get? p.1=some u)/\FlyAt X.stack h₀ a x C B s'.heap/\E (.ref C) none a
section
variable {X:Cx}{Y:Yb}{Z: St}{H:Hp}{s:Shared}{E:XK}
def Hy (F:FnOk X.prog X.w X.K X.mg X.base (x8 X.prog X.w) k f fd ps sp)(j:Room k X.A)(l:zz X.K fd ps [])
 (I:Inv X Y Z H s) (r:jv vs us) (h:sp vs H Q E):YI X (call (.ref f) us) (EP X Y Z Q) (YV X Y Z E) s:=by
 have m:(us++[]).length=ps.length:=by rw[ZB,<- r.length];exact F.len _ _ _ _ h
 have a:=l s us I.kIn m;rw[ZB] at a;refine wpAny_call (codeAny_mono (F.run X.A X.stack s H ⟨us,[]⟩ us vs Q E j I.env0 a r h) λr s' c=>?_);cases r with
 |error e =>
  obtain⟨n,x,C,B,o,os,bare,un,g,i,q⟩:=c;subst o;exact⟨n,s.heap,x,C,B,rfl,I.call' os un g bare (λb z=>Zn z ()),λb u e t=>I.base.there b u e t,λp hp=>⟨_,(I.pin p hp).1⟩,i,q⟩
 |ok i =>
  cases i with
  |ret u=>exact I.after c
  |next=>exact False.elim c
  |brk=>exact False.elim c
  |cont=>exact False.elim c
def SQ (c:xV X.prog X.w X.K X.mg X.base name k ps sp)(m:Room k X.A)(n:Gl X name)(o:PA X.nox (e::es) t)
 (a:(name == ("__debug__" : Str))=false) (u:starEach (e::es) X.env=(false,eval e X.env)::starEach es X.env) (g:(backTo pos (starEach es X.env)).any (·.1)=false)
 (I:Inv X Y Z H s) (h:t Z H λi j=>sp i j Q E):YI X (eval (.Call (.Name name p) (e::es) [] pos) X.env) (EP X Y Z Q) (YV X Y Z E) s:=by
 obtain⟨f,x,F,b,v,w⟩:=c;exact wpAny_Call_Name_kw (Xa I n w (W.callWith_K I.ok.mod.kin v (Zc (o pos Y s Z H _ (I.wish _) h) (λy A ⟨i,j,l,r,q⟩=>⟨l.kIn,Hy F m b l.unwish r q⟩) λ_ _ z=>z.elim) u g) a)
def Inv.flown {h₀ h' B:Heap}{x C t:Addr}(I:Inv X Y Z H s)(O:∀b u,X.s₀.heap.get? b=some u->b∉X.ex->∃R,h₀.get? b=some R)(hp:∀p∈X.pn++Y,∃u,h₀.get? p.1=some u)
 (trk:∀b o,s.heap.get? b=some o->(H b≠none\/((∃u,h₀.get? b=some u)/\b∉xb X.stack))->B.get? b=some o) (G:Heap.FlyingW B X.stack x (.ref C) (.ref t) h') (L:s.heap.UpToSlots h'):Inv X Y Z H { s with heap:=h' }:=by
 have w:∀b u,X.s₀.heap.get? b=some u->b∉X.fs->b∉xb X.stack:=λb u e a z=>by
  rcases Uq.mp (I.stkSub b z) with q|q
  .exact Zn (Zk e) (by rw[q];exact Nat.not_lt.mpr I.ok.above)
  .exact a q
 have g:∀b o,X.s₀.heap.get? b=some o->b∈X.fs->b∉X.ex->∃J,h'.get? b=some { o with slots:=J }:=λb o e a f=>by
  obtain⟨J,S⟩:=I.base.slot b o e (I.ok.frf b a) a f;obtain⟨_,K,A,M⟩:=I.ok.funs.mem a;rw[e] at A;obtain rfl:=Zqi A;obtain⟨N,T⟩:=L b _ S M;exact⟨N,T⟩
 have j:∀c v,s.heap.IsCell c v->h'.IsCell c v:=λc v U=>by
  obtain⟨o,ho,M⟩:=U;obtain⟨J,e⟩:=L c o ho λvs q=>by simp_all
  exact⟨_,e,M⟩
 obtain⟨m,hn,hl⟩:=id I.loc;refine⟨I.ok,I.os,I.bare,⟨λb o e n a f=>?_,λb o e n a f=>g b o e a f,λb o e n f=>I.base.free b o e n f,λb o e f=>?_,I.base.tups,I.base.frzs,I.base.tbls⟩,⟨m,L.ns hn,λi y v h1 h2 h3=>?_⟩,λy c e=>?_,I.free,I.freeC,λp F=>?_,λb u e=>?_,I.len⟩
 .exact G.1 b o (trk b o (I.base.keep b o e n a f) (.inr ⟨O b o e f,w b o e a⟩))
 .by_cases a:b∈X.fs
  .obtain⟨J,q⟩:=g b o e a f;exact⟨_,q⟩
  .obtain⟨K,e'⟩:=I.base.there b o e f;exact⟨K,G.1 b K (trk b K e' (.inr ⟨O b o e f,w b o e a⟩))⟩
 .obtain⟨u,r,l⟩:=hl i y v h1 h2 h3;refine⟨u,r,?_⟩;rcases l with l|⟨k,c,e,z⟩
  .exact .inl l
  .exact .inr ⟨k,c,e,j c _ z⟩
 .obtain⟨v,q⟩:=I.cell y c e;exact⟨v,j c v q⟩
 .obtain⟨q1,q2,P,Q,q5⟩:=I.pin p F;refine⟨G.1 _ _ (trk _ _ q1 (.inr ⟨hp p F,λz=>?_⟩)),q2,P,Q,q5⟩;rcases Uq.mp (I.stkSub _ z) with q|q
  .exact P q
  .exact Q q
 .refine(I.hok b u e).stay (λc v hc q=>G.1 c v (trk c v q (.inl ?_))) (λ_ q=>q) λ_ _ q=>q
  grind
abbrev Cx.inSuite (X:Cx)(x:Addr):Cx:={ X with A:=X.A.mark (some (.ref x)),calm:=false,xe:=λ_ _=>False }
def Inv.suite (I:Inv X Y Z H s)(x:Addr):Inv (X.inSuite x) Y Z H s:=
 ⟨⟨I.ok.mod,I.ok.kind,I.ok.glob,I.ok.blt,I.ok.above,I.ok.inj,I.ok.has,I.ok.cab,(),I.ok.frames,I.ok.stk,I.ok.exf,I.ok.bs,I.ok.bsz,I.ok.noex,I.ok.exfs,I.ok.funs,I.ok.frf⟩,I.os,I.bare,I.base,I.loc,I.cell,I.free,I.freeC,I.pin,I.hok,I.len⟩
def Inv.unsuite (I:Inv (X.inSuite x) Y Z H s)(ok:X.Ok):Inv X Y Z H s:=⟨ok,I.os,I.bare,I.base,I.loc,I.cell,I.free,I.freeC,I.pin,I.hok,I.len⟩
theorem SP.unsuite (h:SP (X.inSuite x) Y D f s')(ok:X.Ok):SP X Y D f s':=by
 cases f with
 |next=>obtain⟨a,b,I,q⟩:=h;exact⟨a,b,I.unsuite ok,q⟩
 |brk=>obtain⟨a,b,I,q⟩:=h;exact⟨a,b,I.unsuite ok,q⟩
 |cont=>obtain⟨a,b,I,q⟩:=h;exact⟨a,b,I.unsuite ok,q⟩
 |ret u=>obtain⟨v,a,b,I,r,q⟩:=h;exact⟨v,a,b,I.unsuite ok,r,q⟩
def SR {r:Ya}{c:Str}{C:Addr}{b₀:Stmt}{suite:List Stmt}{K j:Pos}{ts:TS}{D:Ends}{e:Value}(a:X.stack=X.env::X.outer)(u:X.env.frame=some X.env.locals)(F:Exc X.K X.mg c C)(L:Gl X c)
 (hs:∀x,qK (X.inSuite x) (b₀::suite) ts) (g:YV X Y Z (λM _ O=>M=.ref C/\ts D Z O) e s) (P:(c == ("__debug__" : Str))=false):
 YI X (noteFrame e X.env) (λ_ s₂=>YI X (setFlight e none) (λ_ s₃=>YI X (handleBy e X.env [.ExceptHandler (some (.Name c K)) none (b₀::suite) j]) (SP X Y D) r s₃) r s₂) r s:=by
 obtain⟨Q,h₀,x,U,B,rfl,I,G,hp,⟨⟨t,v⟩,trk⟩,w,y⟩:=g;cases w;have i:=v;rw[a] at i;refine wpAny_looks_onW (I.ok.frames.trans (by rw[a])) u i λh₄ held₄ up₄=>(wpAny_landsW held₄ λh₅ fl₅ up₅=>?_);have n:=fl₅;rw[<- a] at n;have o:=up₄.trans up₅;have J:=I.flown G hp trk n o;refine wpAny_handleBy_cons (codeAny_handlers_test (Xa (J.suite x) L F.mgc (Hx J.kIn F.exc λtl N nm q bs hdct sn sub ab col dd k0 k1 k2 k3 k5 mN R hN S T=>?_) P)) (by intro q;cases q);obtain⟨ob,A,p⟩:=fl₅.there;refine wpAny_excMatches_sub_self R A p (T.hasType PySem.F.excBase_ValueError.hasBase) (codeAny_handlers_suite (lands_againW fl₅ λh₆ fl₆ up₆=>?_));rw[<- a] at fl₆;exact Zc (hs x Y _ Z Q D ((I.flown G hp trk fl₆ (o.trans up₆)).suite x) y) (λf s2 q=>q.unsuite I.ok) λ_ _ z=>z.elim
end
end L2
namespace L2.DL
section
variable {X:Cx}{E:XK}{m:Option Bool}
def xQ.d {K:W.Frag}{a:YG->Res D}{b:YE}{H:Hp}{Q:VK}{E:XK}(h:x5 K a b H Q E):xQ K a b H Q E:=by
 obtain⟨F,ds,c,e,n⟩:=h;exact⟨F,ds,c,e,n.mono (λ_ q=>q.new) λ_ _ q=>q⟩
theorem xV.d {P:Program}{w:World}{K:W.Frag}{mg:Ye}{a:Heap}{name:Str}{k:Nat}{ps:Yk}{b:YG->Res D}(c:xV P w K mg a name k ps (xQ K b)):xV P w K mg a name k ps (x5 K b):=by
 obtain⟨f,e,F,r⟩:=c;exact⟨f,e,F.imp λ_ _ _ _ h=>xQ.d h,r⟩
end
end L2.DL
namespace L2
def Dg {P:Program}{w:World}{K:W.Frag}{mg:Ye}{c:Heap}{N:Yk}{g:Str}{b:Scope}{f:Addr}{h:Value}{A:Around}{a:List Env}{s:Shared}{H:Hp}{E:XK} :
 PassesOwn (model (jX (x8 P w) P w K mg c N g b f h A a s H E).prog (jX (x8 P w) P w K mg c N g b f h A a s H E).w) (jX (x8 P w) P w K mg c N g b f h A a s H E).A (jX (x8 P w) P w K mg c N g b f h A a s H E).env (jX (x8 P w) P w K mg c N g b f h A a s H E).xe:=
 PassesOwn.leaving (Q₁:=λe i=>x8 P w a H s E e i)
end L2
namespace L2.DL
def qF (H:Hp)(l:Addr):Hp:=λa=>if a=l then none else H a
def Hz:jk (qF H l) H:=λa o e=>by
 simp_all [qF]
def SS (s:jk F H)(n:F l=none):jk F (qF H l):=λa o e=>by
 have z:a≠l:=λz=>by rw[z,n] at e;exact J5 e
 unfold qF;rw[Ze z];exact s _ _ e
def HA:qF H l l=none:=by simp_all [qF]
def HB (h:a≠l):qF H l a=H a:=by simp_all [qF]
def wG (K:W.Frag)(j:Nat)(b:YG->Res D):Sp:=λa H Q _=>∃F ds d l,jk F H/\a.length=ds.length/\ds[j]? = some d/\a[j]? = some (.ref l)/\F l=none/\yy K F H l d/\(∀i e,i≠j->ds[i]? = some e->∃v,a[i]? = some v/\jg K F e v)/\(b ds).need (xL K F (qF H l) Q) (XW K E0 F (qF H l))
def startO (n j:Nat)(ds:YG):SD:=match ds[j]? with
 |some d=>(Qf n ds).set j (some (.own false d))
 |none=>Qf n ds
def WQ (n ar j:Nat)(g:FS)(ds:YG):Res D:=if ds.length=ar then(g (startO n j ds)).bind λo=>match o with
 | .ret d=>.ok d
 |_=>.no else .no
def SU (n ar j:Nat)(g:FS)(ds:YG)(h:ds.length=ar):WQ n ar j g ds=(g (startO n j ds)).bind xO:=by
 unfold WQ;rw[Zd h];cases g (startO n j ds) with
 |ok o=>cases o<;>rfl
 |ex c fs=>rfl
 |no=>rfl
@[simp]def fZ (n:Nat)(g:FS)(a b c:D):WQ n 3 0 g [a,b,c]=(g (some (.own false a)::some (.val b)::some (.val c)::List.replicate (n-3) none)).bind xO:=SU n 3 0 g [a,b,c] rfl
theorem RS.startO {K:W.Frag}{F H:Hp}{N:Yk}{ds:YG}{c:YE}{j:Nat}{d:D}{l:Addr}(s:jk F H)(r:c.length=ds.length)(m:ds[j]? = some d)(t:c[j]? = some (.ref l))(u:F l=none)(w:yy K F H l d)(h:∀i e,i≠j->ds[i]? = some e->∃v,c[i]? = some v/\jg K F e v):
 RS K ⟨F,qF H l,λ_=>none⟩ F H (L2.DL.startO N.length j ds) (L2.start N c):=by
 have es:L2.DL.startO N.length j ds=(Qf N.length ds).set j (some (.own false d)):=by unfold L2.DL.startO;rw[m]
 rw[es];have E:j<ds.length:=(Jc.mp m).1;have a:∀{i:Nat} {x:SV},(Qf N.length ds)[i]? = some (some x)->∃d,ds[i]? = some d/\x=.val d:=λ{i x} q=>by
  unfold Qf at q;by_cases f:i<ds.length
  .rw[UO (by rw[Zql];exact f),Zv,Zqg f] at q;exact⟨ds[i],Zqg f,(Zqi (Zqi q)).symm⟩
  .rw[US (by rw[Zql];lia),Vt] at q
   split at q<;>(first|exact J5 q|cases q)
 have at_:∀{i:Nat} {v:V},c[i]? = some v->(L2.start N c)[i]? = some (some v):=λ{i v} q=>by
  unfold L2.start;rw[UO (by rw[Zql];exact(Jc.mp q).1),Zv,q];rfl
 refine⟨⟨.refl _,s,Hz,λ_ e _=>e⟩,by unfold Qf L2.start;simp[r],λ{i n} q=>?_,λ{i p n} q=>?_,λ{i k p G n e I} g q o=>?_⟩
 .by_cases z:i=j
  .subst z;have:=(QZ q).1;cases this
  .rw[Qn (Ne.symm z)] at q;obtain⟨J,y,b⟩:=a q;cases b;obtain⟨v,A,B⟩:=h i _ z y;exact⟨v,at_ A,B⟩
 .by_cases z:i=j
  .subst z;have:=(QZ q).1;cases this;exact⟨l,at_ t,HA,u,w,λz=>by cases z⟩
  .rw[Qn (Ne.symm z)] at q;obtain⟨_,_,b⟩:=a q;cases b
 .by_cases z:i=j
  .have C:k≠j:=λe=>g (z.trans e.symm);rw[Qn (Ne.symm C)] at o;obtain⟨_,_,b⟩:=a o;cases b
  .rw[Qn (Ne.symm z)] at q;obtain⟨_,_,b⟩:=a q;cases b
section
variable {P:Program}{w:World}{K:W.Frag}{mg:Ye}{base:Heap}{x qual:Str}{st:Stmt}{f:Addr}{fd:FuncData}{N ps:Yk}{k j:Nat}
def gp (F:Fun K x qual st f fd)(S:FnScope N ps (JU st))
 (i:∀(b:Value) (A:Around) (a:List Env) (s:Shared) (H:Hp) (E:XK),Room k (A.deeper (envOfC qual (JU st) s.heap.objs.size f b))->zq (jX yj P w K mg base N qual (JU st) f b A a s H E).nox E0 true (QQ st) g):
 FnOk P w K mg base yj (k+1) f fd ps (wG K j (WQ N.length ps.length j g)):=by
 refine F.ok S (λm H Q E ⟨F,ds,d,l,_,e,_,_,_,_,_,n⟩=>?_) λb A a s H m Q E p ⟨F,ds,d,l,hs,e,r,t,u,v,h,n⟩=>⟨_,i b A a s H E p,?_⟩
 .unfold WQ at n
  split at n
  .rw[e];assumption
  .exact n.elim
 .unfold WQ at n
  split at n
  .refine⟨⟨F,qF H l,λ_=>none⟩,F,_,RS.startO hs e r t u v h,(ja n).mono (λo c=>?_) λ_ _ q=>q⟩;cases o with
   |next sd=>exact c.elim
   |ret d=>exact c
   |brk sd=>exact c.elim
   |cont sd=>exact c.elim
  .exact n.elim
end
def HC (R:Res Out->Prop)(P:Nat->SD->Prop)(m:P 0 sd)(n:∀sd,P ds.length sd->R (.ok (.next sd)))
 (hs:∀(i:Nat) (x:D) (sd:SD),ds[i]? = some x->P i sd->(∃sd',(JO tg x sd).bind b=.ok (.next sd')/\P (i+1) sd')\/∃c es,(JO tg x sd).bind b=.ex c es/\R (.ex c es)):R (qE tg b ds sd):=by
 have h:∀(k i:Nat) (sd:SD),ds.length-i=k->i<=ds.length->P i sd->R (qE tg b (ds.drop i) sd):=by
  intro k
  induction k with
  |zero =>
   intro i sd e j p;have:i=ds.length:=()
   simp_all
  |succ k l =>
   intro i sd e j p;have a:i<ds.length:=()
   rw[Uu a];unfold qE yr;rcases hs i ds[i] sd () p with ⟨sd',f,g⟩|⟨c,es,f,g⟩
   .rw[f];exact l (i+1) sd' () a g
   .rwa [f]
 grind
section
variable {X:Cx}{pos:Pos}
def SW (c:z7 X.prog X.w X.K X.mg X.base name k ps (wG X.K 0 Fn))(I:Room k X.A)(J:Gl X name)(j:QN X E0 e fe)(K:QA X E0 es fr)
 (m:(name == ("__debug__" : Str))=false:=by decide) (x:starEach (e::es) X.env=(false,eval e X.env)::starEach es X.env:=by rfl) (s:(backTo pos (starEach es X.env)).any (·.1)=false:=by rfl):
 QN X E0 (.Call (.Name name p) (e::es) [] pos) (J6 Fn (J0 fe fr)):=PE.weak (XN c I J (KS j K x) m x s) λZ H Q L=>by
 obtain⟨B,F,sd,r,n⟩:=L;refine⟨B,F,sd,r,(ja (ja n)).mono (λd M l N H1 g O P y=>?_) λ_ _ q=>q⟩;refine⟨B,N,sd,r.step g,(ja M).mono (λA R S t w f C=>?_) λ_ _ q=>q.ext g⟩;show wG X.K 0 Fn ((.ref l::S)++[]) w Q E0;rw[ZB];have T:(Fn (d::A)).need (xL X.K F H Q) (XW X.K E0 F H):=R;obtain⟨o,E⟩:=y.has;have U:w l=some o:=f.hh _ _ E;have h:t l=none:=f.new l P (by rw[E];simp);have Y:Ext F H t (qF w l):=⟨g.ff.trans f.ff,SS f.fh h,λb u q=>by
  have z:b≠l:=λz=>by rw[z,O] at q;exact J5 q
  rw[HB z];exact f.hh _ _ (g.hh _ _ q),λa q1 G=>f.new a (g.new a q1 G) (by
   cases q:H a with
   |none=>exact Zn q G
   |some u=>rw[g.hh _ _ q];simp)⟩
 refine⟨t,d::A,d,l,f.fh,by simp[C.length],rfl,rfl,h,y.ext f.ff (λu q=>f.hh _ _ q),λi e' hi q=>?_,Av T Y⟩;cases i with
 |zero=>exact Zn rfl hi
 |succ i =>
  obtain⟨v,v1,v2⟩:=C.get (i:=i) (by simpa using q);exact⟨v,by simpa using v1,v2⟩
def Dh:D->D->YH
 | .lst a,.lst b=>if a.length+b.length<=sizeLine then some (.lst (a++b)) else none
 |_,_=>none
def SX:fI X (binaryOp .Add) Dh:=qY.weak FH λx y H Q h=>by
 obtain⟨F,d,e,z,c,id,i,hz,q⟩:=h;cases d with
 |lst a =>
  cases e with
  |lst b =>
   have hz:(if a.length+b.length<=sizeLine then some (D.lst (a++b)) else none)=some z:=hz
   split at hz
   .obtain rfl:=Zqi hz;obtain⟨l,j,rfl,m,f⟩:=id;obtain⟨n,ys,rfl,o,g⟩:=i;have r:=f.length;have s:=g.length;exact⟨l,n,j,ys,rfl,rfl,m.same c,o.same c,(),λp hp=>q p F _ (.keep c hp _) hp (Qj c hp) ⟨_,JL,f.append g⟩⟩
   simp_all
  |_=>exact J5 hz
 |_=>exact J5 hz
@[simp]def cV (a b:YG):Dh (.lst a) (.lst b)=if a.length+b.length<=sizeLine then some (.lst (a++b)) else none:=rfl
end
end L2.DL
namespace L2
abbrev TB:=Ends->XK->St->Hp->Prop
def PB (X:Cx)(a:List Stmt)(t:TB):Prop:=
 ∀(Y:Yb) (s:Shared) (Z: St) (H:Hp) (D:Ends) (E:XK),Inv X Y Z H s->t D E Z H->YI X (execs a X.env) (SP X Y D) (YV X Y Z E) s
section
variable {X:Cx}
def PB.weak (h:PB X b t)(w:∀D E Z H,t' D E Z H->t D E Z H):PB X b t':=λY s Z H D E I q=>h Y s Z H D E I (w _ _ _ _ q)
def SY (a:X.stack=X.env::X.outer)(g:X.env.frame=some X.env.locals)(j:PB X body tb)(l:Exc X.K X.mg c C)(i:Gl X c)(hs:∀x,qK (X.inSuite x) (b₀::suite) ts)
 (m:(c == ("__debug__" : Str))=false:=by decide):PS X (.Try body [.ExceptHandler (some (.Name c np)) none (b₀::suite) hpos] [] [] pos) (λD Z H=>tb D (λn _ o=>n=.ref C/\ts D Z o) Z H):=by
 intro Y s Z H D I h;rw[arm_exec_Try];refine Za (wpAny_standAt (wpAny_tryStmt_except (Zc (j Y s Z H D _ I h) (λf p q=>?_) λe p r=>SR a g l i hs r m)));cases f with
 |next=>exact wpAny_execs_nil q
 |ret v=>exact q
 |brk=>exact q
 |cont=>exact q
end
end L2
namespace L2.DL
def c7 (K:W.Frag)(m:Option Bool)(g:FS):TB:=λD E Z H=>∃B F sd,RS K B F H sd Z /\ (g sd).need (yX K m B F D) (XW K E F H)
abbrev QB (X:Cx)(m:Option Bool)(body:List Stmt)(g:FS):Prop:=PB X body (c7 X.K m g)
section
variable {X:Cx}{m:Option Bool}
def AQ (c:Str)(a:FS)(sd:SD):Res Out->Res Out
 | .ok o=>.ok o
 | .ex c' [] => @ite _ (c'=c) (Classical.propDecidable _) (a sd).strict .no
 |_=>.no
@[simp]def vS (c:Str)(a:FS)(sd:SD)(o:Out):AQ c a sd (.ok o)=.ok o:=rfl
@[simp]def SZ (c:Str)(a:FS)(sd:SD):AQ c a sd (.ex c [])=(a sd).strict:=@if_pos _ (Classical.propDecidable _) rfl _ _ _
def AR (c:Str)(g a:FS):FS:=λsd=>AQ c a sd (g sd)
@[simp]def bj (c:Str)(g a:FS)(sd:SD):AR c g a sd=AQ c a sd (g sd):=rfl
def Ta (e:X.stack=X.env::X.outer)(f:X.env.frame=some X.env.locals)(t:QB X m body g)(ex:Exc X.K X.mg c C)(h:Gl X c)(hs:∀x,zq (X.inSuite x) E0 m (b₀::suite) gs)
 (u:(c == ("__debug__" : Str))=false:=by decide):QS X E m (.Try body [.ExceptHandler (some (.Name c np)) none (b₀::suite) hpos] [] [] pos) (AR c g gs):=
 PS.weak (SY (ts:=uj X.K E0 m gs) e f t ex h hs u) λT Z H v=>by
  obtain⟨B,F,sd,r,n⟩:=v;refine⟨B,F,sd,r,?_⟩;unfold AR at n;cases i:g sd with
  |ok o=>rw[i] at n;exact n
  |no=>rw[i] at n;exact n.elim
  |ex j fs =>
   rw[i] at n;cases fs with
   |cons d r=>exact n.elim
   |nil =>
    by_cases l:j=c
    .subst l;rw[SZ] at n;intro z a w A p ⟨G,y,s,_⟩;rw[ex.ns] at s;cases s;refine⟨y,B,w,sd,r.step p,?_⟩;exact(jO n).mono (λo (q:yX X.K m B F T o)=>q.mono p.ff) λ_ _ q=>q
    .have n:(@ite _ (j=c) (Classical.propDecidable _) (gs sd).strict Res.no).need (yX X.K m B F T) (XW X.K E B.F0 B.H0):=n;rw[@if_neg _ (Classical.propDecidable _) l] at n;exact n.elim
end
end L2.DL
namespace L2
def wT (K:W.Frag)(x:Str)(st:Stmt):Prop:=∃f a,W.nsIn K mainGlobals x=some (some (.ref f))/\Fun K x x st f a
def wT.callee {P:Program}{w:World}{K:W.Frag}{h b:Heap}{mg:Ye}{x:Str}{st:Stmt}{k:Nat}{ps:Yk}{sp:Sp}(X:K.In h)(G:h.Ns mainGlobals mg)(d:wT K x st)
 (ok:∀{f:Addr} {c:FuncData},Fun K x x st f c->FnOk P w K mg b yj k f c ps sp)
 (j:∀(kV e l:Value) (m:Option Addr) (g ct:Value) (i:Yf),i.length=ps.length->bindArgs (W.fnOf x x (W3 st) (QQ st) (JU st) .none kV e l m g ct) ⟨i,[]⟩=pure (ps.zip i)):z7 P w K mg b x k ps sp:=by
 obtain⟨f,c,a,F⟩:=d;exact⟨f,c,ok F,F.binds j,F.kp,W.mg_of X G a⟩
def wT.calleeX {P:Program}{w:World}{K:W.Frag}{h b:Heap}{mg:Ye}{x:Str}{st:Stmt}{k:Nat}{ps:Yk}{sp:Sp}(X:K.In h)(G:h.Ns mainGlobals mg)(d:wT K x st)
 (ok:∀{f:Addr} {c:FuncData},Fun K x x st f c->FnOk P w K mg b (x8 P w) k f c ps sp)
 (j:∀(kV e l:Value) (m:Option Addr) (g ct:Value) (i:Yf),i.length=ps.length->bindArgs (W.fnOf x x (W3 st) (QQ st) (JU st) .none kV e l m g ct) ⟨i,[]⟩=pure (ps.zip i)):xV P w K mg b x k ps sp:=have ⟨f,c,a,F⟩:=d;⟨f,c,ok F,F.binds j,F.kp,W.mg_of X G a⟩
end L2
namespace L2.DL
def zi:YG->YH
 | [.int i]=>if Nat.ble i.natAbs.log2 1900 then some (.str (toString i)) else none
 |_=>none
section
variable {X:Cx}{E:XK}{tg e a b:Expr}{fe fa fb:FE}{lo hi:Option Expr}{p2 pos p:Pos}
def Di:jU X (.type "str") (zZ X.K zi):=jU.weak MA λl H Q c=>by
 obtain⟨F,ds,z,f,id,hz,q⟩:=c;unfold zi at hz
 split at hz
 .rename_i i
  split at hz
  .rename_i g;obtain rfl:=Zqi hz;obtain⟨m,n,h,j,id⟩:=jp.mp id;subst id h;exact⟨i,by rw[je.mp j],UL (Nat.ble_eq.mp g) (by decide),q _ F H (.refl f) (jr.mpr rfl)⟩
  .exact J5 hz
 simp_all
end
structure ClsD (K:W.Frag)(mg:Ye)(c:Str)(C:Addr)(fs:Yk):Prop where
 ns:W.nsIn K mainGlobals c=some (some (.ref C))
 mgc:mg c=some (.ref C)
 cls:Cls K C
 no:∀f∈fs,wV K C f
def zI (f:Str):Yk->YG->YH
 |g::gs,d::ds=>if g=f then some d else zI f gs ds
 |_,_=>none
theorem HD {K:W.Frag}{H:Hp}{f:Str}:∀{fs:Yk} {ds:YG} {a:YE} {d:D},jd K H ds a->fs.length=a.length->zI f fs ds=some d->∃x,(fs.zip a).lookup f=some x/\jg K H d x
 | [],ds,a,d,_,_,h=>J5 h
 |g::gs,[],a,d,i,l,h=>by
  simp_all [jd.nil_iff]
 |g::gs,e::ds,a,d,i,l,h=>by
  obtain⟨x,r,rfl,c,b⟩:=jp.mp i;unfold zI at h;rw[Vu];by_cases q:g=f
  .simp_all
  .rw[Ze q] at h;obtain⟨y,j,m⟩:=HD b (by simpa using l) h
   grind
def qW (c f:Str):D->YH
 | .ins c' fs ds=>if c'=c then zI f fs ds else none
 |_=>none
section
variable {X:Cx}{E:XK}{e:Expr}{fe:FE}{pos:Pos}
def YW {c f:Str}{C:Addr}{fs:Yk}(k:ClsD X.K X.mg c C fs)(l:f∈fs)(m:QE X E e fe)(o:attributeBase e f X.env (eval e X.env)=eval e X.env:=by rfl):QE X E (.Attribute e f pos) (qX (qW c f) fe):=PE.weak (ML m o) λZ H Q p=>by
 obtain⟨B,F,sd,r,n⟩:=p;refine⟨B,F,sd,r,(ja n).mono (λd s v t u b w=>?_) λ_ _ q=>q⟩;obtain⟨z,hz,q⟩:=jh s;cases d with
 |ins g y ds =>
  have h:(if g=c then zI f y ds else none)=some z:=hz;by_cases i:g=c
  .rw[Zd i] at h;subst i;obtain⟨a,M,A,N,rfl,j,G,I,J⟩:=jZ.mp w;rw[k.ns] at j;cases j;obtain⟨x,K,L⟩:=HD J I h;exact⟨a,C,A,_,x,rfl,b.fh _ _ G,k.cls,k.no f l,K,q _ t u b L⟩
  simp_all
 |_=>exact J5 hz
end
theorem HE (f)(v):∀fs:List (Str×V),f∉fs.map (·.1)->qM f v fs=fs++[(f,v)]
 | [],_=>rfl
 | (g,x)::r,h=>by
  rw[Zl,Uq,not_or] at h;show(if g=f then(g,v)::r else(g,x)::qM f v r)=_;rw[Ze (λz=>h.1 z.symm),HE f v r h.2];rfl
def tI (K:W.Frag)(c:Str)(names:Yk)(g:FA):TS:=λT Z H=>∃B F sd x C j fs e b,RS K B F H sd Z /\ (∀(i:Nat) (p:Bool) (d:D),sd[i]? ≠ some (some (SV.own p d))) /\ Z[0]? = some (some (.ref x))/\B.H0 x=none/\F x=none/\W.nsIn K mainGlobals c=some (some (.ref C))/\H x=some (.ins C j (fs.zip e))/\fs.length=e.length/\(fs++names).Nodup/\(fs++names).length<900/\jd K F b e /\
 (g sd).need (λds=>∀f h a,Ext B.F0 B.H0 f h->f x=none->h x=some (.ins C j ((fs++names).zip a))->(fs++names).length=a.length->jd K f (b++ds) a->T.nx Z h) (XW K E0 B.F0 B.H0)
section
variable {X:Cx}{o e:Expr}{fe:FE}{g:FA}{pos pos':Pos}{ss:List Stmt}{c f:Str}{C:Addr}{fs names:Yk}
def HF:qK X [] (tI X.K c [] jc):=qK.weak ZU λT Z H j=>by
 obtain⟨B,F,sd,x,C,l,fs,m,b,r,no,u,v,p,w,q,s,y,z,t,n⟩:=j;have n:∀h i a,Ext B.F0 B.H0 h i->h x=none->i x=some (.ins C l ((fs++[]).zip a))->(fs++[]).length=a.length->jd X.K h (b++[]) a->T.nx Z i:=n;simp at n;exact n F H m r.ext p q s t
def AS (k:ClsD X.K X.mg c C fs)(I:f∈fs)(J:PE X o (xM 0))(K:QE X E0 e fe)(L:qK X ss (tI X.K c names g))(hs:swapsWith e (some (.Attribute o f pos')) pos.line X.env=pure false:=by rfl):
 qK X (.Assign [.Attribute o f pos'] e pos::ss) (tI X.K c (f::names) (J0 fe g)):=qK.weak (XD (MM J K hs) L) λT Z H M=>by
 obtain⟨B,F,sd,x,m,w,b,i,p,r,no,y,z,N,s,A,E,O,P,Q,n⟩:=M;refine⟨B,F,sd,r,(ja n).mono (λd R v G H1 l S=>?_) λ_ _ q=>q.ext r.ext⟩;have c1:m=C:=by
  rw[k.ns] at s;cases s;rfl
 subst c1;have t:=l.hh _ _ A;have j:G x=none:=l.new x N (by rw[A];simp);have U:(b.zip i).map (·.1)=b:=by rw[List.map_fst_zip ()]
 have Y:f∉b:=by grind
 have ll:(b.zip i).length<1000:=by
  grind
 refine⟨.ref x,y,x,m,w,_,rfl,t,k.cls,k.no f I,ll,?_⟩;rw[HE f v _ (by rwa [U])];have ez:b.zip i++[(f,v)]=(b++[f]).zip (i++[v]):=by rw[List.zip_append E];rfl
 rw[ez];have h:=r.step l;refine⟨B,G,sd,x,m,w,b++[f],i++[v],p++[d],⟨⟨h.ext.ff,λa o e=>?_,λa o e=>?_,h.ext.new⟩,h.len,h.val,(),()⟩,no,y,z,j,s,JL,by simp[E],by simpa using O,by simpa using P,(jd.snoc (jd.same l.ff _ _ Q) S),(ja R).mono (λds n2 F2 H2 u e2 f2 q1 q2 q3=>?_) λ_ _ q=>q⟩
 .rw[JH (Ke e j)];exact h.ext.fh _ _ e
 .rw[JH (Ke e z)];exact h.ext.hh _ _ e
 .exact n2 F2 H2 u e2 f2 (by simpa using q1) (by simpa using q2) (by simpa using q3)
end
def su (K:W.Frag)(c:Str)(names:Yk)(h:YG->Res YG):Sp:=λi H Q _=>∃F ds x C f g,jk F H/\i=.ref x::g/\jd K F ds g/\F x=none/\W.nsIn K mainGlobals c=some (some (.ref C))/\H x=some (.ins C f []) /\
 (h ds).need (λes=>∀a b e,Ext F (qF H x) a b->a x=none->b x=some (.ins C f (names.zip e))->names.length=e.length->jd K a es e->Q .non b) (XW K E0 F (qF H x))
def zD (n ar:Nat)(g:FA)(ds:YG):Res YG:=if ds.length+1=ar then g (none::Qf (n-1) ds) else .no
def zp {K:W.Frag}{F H:Hp}{N:Yk}{ds:YG}{b:YE}{x:Addr}(s:jk F H)(h:jd K F ds b):
 RS K ⟨F,qF H x,λ_=>none⟩ F H (none::Qf N.length ds) (some (.ref x)::L2.start N b)/\∀(i:Nat) p d,(none::Qf N.length ds:SD)[i]? ≠ some (some (SV.own p d)):=by
 have a:=RS.start (N:=N) s h;have no:∀(i:Nat) p d,(none::Qf N.length ds:SD)[i]? ≠ some (some (SV.own p d)):=λi p d q=>by
  cases i with
  |zero=>cases q
  |succ i =>
   obtain⟨l,_,f,_,c,_⟩:=a.own q;obtain⟨o,g⟩:=c.has
   simp_all
 refine⟨⟨⟨.refl _,s,Hz,λ_ e _=>e⟩,by simp[a.len],λ{i d} q=>?_,λq=>Zn q (no _ _ _),λ_ q _ _=>Zn q (no _ _ _)⟩,no⟩;cases i with
 |zero=>cases q
 |succ i=>exact a.val q
section
variable {P:Program}{w:World}{K:W.Frag}{mg:Ye}{base:Heap}{x qual:Str}{st:Stmt}{f:Addr}{fd:FuncData}{N ps:Yk}{k:Nat}
def gq {c y:Str}{names:Yk}{g:FA}(F:Fun K x qual st f fd)(S:FnScope (y::N) ps (JU st))(m:names.Nodup)(o:names.length<900)
 (p:∀b A a s H E,Room k (A.deeper (envOfC qual (JU st) s.heap.objs.size f b))->qK (jX yj P w K mg base (y::N) qual (JU st) f b A a s H E).nox (QQ st) (tI K c names g)):
 FnOk P w K mg base yj (k+1) f fd ps (su K c names (zD (y::N).length ps.length g)):=by
 refine F.ok S (λq H Q E ⟨F,ds,x,C,l,j,_,e,i,_,_,_,n⟩=>?_) λb A a s H q Q E t ⟨F,ds,x,C,l,j,hs,e,i,u,v,z,n⟩=>⟨_,p b A a s H E t,?_⟩
 .unfold zD at n
  split at n
  .rename_i h;rw[e,<- h,Zu,i.length]
  .exact n.elim
 .subst e;unfold zD at n
  split at n
  .have es:L2.start (y::N) (.ref x::j)=some (.ref x)::L2.start N j:=by
    unfold L2.start;simp
   rw[es];obtain⟨r,no⟩:=zp hs i;exact⟨_,F,_,x,C,l,[],[],[],r,no,rfl,HA,u,v,z,rfl,m,o,.nil,n⟩
  .exact n.elim
end
def rj (P:Program)(w:World)(K:W.Frag)(mg:Ye)(a:Heap)(c:Str)(names:Yk)(k:Nat)(ps:Yk)(e:YG->Res YG):Prop:=
 ∃C f b,ClsD K mg c C names/\Mk K C f/\FnOk P w K mg a yj k f b ps (su K c names e)/\zz K b ps []
def YX (c:Str)(names:Yk)(a:YG->Res YG)(b:FA):FE:=λsd=>(b sd).bind λds=>(a ds).bind λes=>.ok (.ins c names es)
section
variable {X:Cx}{pos:Pos}
def HG (M:rj X.prog X.w X.K X.mg X.base c names k ps Fn)(A:Room (k+1) X.A)(E:Gl X c)(I:QA X E0 (e::es) fa)
 (m:(c == ("__debug__" : Str))=false:=by decide) (J:starEach (e::es) X.env=(false,eval e X.env)::starEach es X.env:=by rfl) (t:(backTo pos (starEach es X.env)).any (·.1)=false:=by rfl):
 QN X E0 (.Call (.Name c p) (e::es) [] pos) (YX c names Fn fa):=by
 obtain⟨C,f,fd,u,mk,F,b⟩:=M;refine PE.weak (MV mk F A E u.mgc b .nil Ex I m J t) λZ H Q ⟨B,F,sd,r,n⟩=>⟨B,F,sd,r,(ja n).mono (λds K L j l h N x g nx j5 ne=>?_) λ_ _ q=>q⟩;have v:j x=none:=by
  cases q:j x with
  |none=>rfl
  |some o=>rw[h.fh _ _ q] at nx;cases nx
 have w:H x=none:=by
  cases q:H x with
  |none=>rfl
  |some o=>rw[h.hh _ _ q] at nx;cases nx
 have y:∀{G:Hp},jk G l->jk G (qF (upd (upd l g (.own x)) x (.ins C g [])) x):=λ{G} s a o q=>by
  have i:=s _ _ q
  rwa [HB (Ke i nx),JH (Ke i nx),JH (Ke i j5)]
 have O:jk j (upd (upd l g (.own x)) x (.ins C g [])):=λa o q=>by
  have i:=h.fh _ _ q
  rwa [JH (Ke i nx),JH (Ke i j5)]
 have z:Ext F H j (qF (upd (upd l g (.own x)) x (.ins C g [])) x):=⟨h.ff,y h.fh,y h.hh,h.new⟩;rw[ZB];exact⟨j,ds,x,C,g,L,O,rfl,N,v,u.ns,JL,(ja K).mono (λes P R S T U Y h2 l2 i2=>⟨rfl,P x R S (z.trans U) w Y ⟨C,g,T,u.ns,h2,l2,i2⟩⟩) λ_ _ q=>q.ext z⟩
end
def HH (K:W.Frag)(c a:Str)(fs:Yk)(st:Stmt):Prop:=∃C e b,W.nsIn K mainGlobals c=some (some (.ref C))/\Cls K C/\(∀f∈fs,wV K C f)/\Mk K C e/\Fun K "__init__" a st e b
def Dj (F c:Hp):Prop:=∀a b,c a=some (.tup b)->F a=some (.tup b)
section
variable {K:W.Frag}{B:Bs}{F H F' H':Hp}{sd:SD}{Z: St}
def RS.frz1C (r:RS K B F H sd Z)(y:sd[i]? = some (some (.own p d))):∃F',jk F F'/\Dj F F'/\RS K B F' H (sd.set i (some (.val d))) Z:= by
 obtain⟨l,A,G,C,g,_⟩:=r.own y;obtain⟨o,e⟩:=g.has;have I:i<sd.length:=(Jc.mp y).1;have w:jk F (upd F l o):=Kt C o;have J:Dj F (upd F l o):=λa U q=>by
  by_cases z:a=l
  .subst z;rw[JL] at q;obtain rfl:=Zqi q;cases d with
   |lst ds=>obtain⟨_,h,_⟩:=g;rw[e] at h;cases h
   |dct ks ds=>obtain⟨_,h,_⟩:=g;rw[e] at h;cases h
   |ins c fs ds=>obtain⟨_,_,_,_,h,_⟩:=g;rw[e] at h;cases h
   |_=>exact g.elim
  .rw[JH z] at q;exact q
 refine⟨upd F l o,w,J,⟨r.ext.ff.trans w,λb u q=>?_,r.ext.hh,λa t s=>?_⟩,by rw[UG,r.len],λ{j x} q=>?_,λ{j p x} q=>?_,λ{j k X Y d1 d2 m} n t s L=>?_⟩
 .by_cases z:b=l
  .subst z;rw[JL] at q;cases q;exact e
  .rw[JH z] at q;exact r.ext.fh _ _ q
 .have z:a≠l:=λz=>s (by rw[z];exact G);rw[JH z];exact r.ext.new a t s
 .by_cases z:i=j
  .subst z;obtain⟨f,_⟩:=QZ q;cases f;exact⟨_,A,g.frz e C⟩
  .rw[Qn z] at q;obtain⟨v,M,N⟩:=r.val q;exact⟨v,M,jg.same w _ _ N⟩
 .by_cases z:i=j
  .subst z;obtain⟨f,_⟩:=QZ q;cases f
  .rw[Qn z] at q;obtain⟨m,E,m2,O,P,Q⟩:=r.own q;have ne:m≠l:=λe=>r.apart z y q A (by rw[<- e];exact E);exact⟨m,E,m2,by rw[JH ne];exact O,P.ext w λu R=>R,Q⟩
 .have S:i≠j:=λz=>by subst z;obtain⟨f,_⟩:=QZ t;cases f
  have T:i≠k:=λz=>by subst z;obtain⟨f,_⟩:=QZ s;cases f
  rw[Qn S] at t;rw[Qn T] at s;exact r.apart n t s L
theorem RS.frzC:∀(is:Yj) {F:Hp} {sd:SD},RS K B F H sd Z -> ∃F',jk F F'/\Dj F F'/\RS K B F' H (jW is sd) Z
 | [],F,sd,r=>⟨F,.refl _,λ_ _ q=>q,r⟩
 |i::is,F,sd,r=>by
  unfold jW
  split
  .rename_i p d h;obtain⟨n,c,e,f⟩:=r.frz1C h;obtain⟨g,j,l,m⟩:=RS.frzC is f;exact⟨g,c.trans j,λa b q=>e a b (l a b q),m⟩
  .exact RS.frzC is r
def gu:D->Bool
 | .tup ds=>ds.all K7
 |d=>K7 d
def Xz (F H b:Hp):Hp:=λa=>match H a,b a with
 |none,some (.tup xs)=>some (.tup xs)
 |_,_=>F a
def Tb (s:jk F H)(g:jk F F1)(e:Ext F1 H F2 H2):Ext F H (Xz F H F2) H2:=by
 refine⟨λa o q=>?_,λa o q=>?_,e.hh,λa b c=>?_⟩
 .unfold Xz;rw[s _ _ q];exact q
 .unfold Xz at q
  split at q
  .rename_i i f;obtain rfl:=Zqi q;exact e.fh _ _ f
  .exact e.hh _ _ (s _ _ q)
 .unfold Xz;cases h:H a with
  |none=>exact Zn h c
  |some o=>exact b
def HJ:D->Bool
 | .lst ds=>ds.all gu
 |_=>false
def fm (is:Yj)(f:FE):FE:=λsd=>(f (jW is sd)).bare.bind λd=>if HJ d then .ok d else .no
end
end L2.DL
namespace L2
open PySem
def JM (a:h.kind=.function:=by rfl)(b:h.isCoroutine=false:=by rfl)(c:h.isGenerator=false:=by rfl)(d:N.Nodup:=by decide +kernel)(e:N.take P.length=P:=by rfl)
 (f:∀x∈P,h.names.lookup x=some .local\/h.names.lookup x=some .cell:=by decide +kernel) (g:∀y∈h.names,y.2 ≠ .free:=by decide +kernel):FnScope N P h:=⟨a,b,c,d,e,f,g⟩
def xA (i:Nat)(a:X.N.Nodup)(b:X.N[i]? = some x:=by rfl)(c:yM X.env.scope x:=by trivial)(e:X.fn x=true\/X.env.scope.names.lookup x=some .local:=by trivial):PG X (.Name x pos) (KG i):=JX a b c e
section
variable {p:Yf->Prop}
def r8 (h:∀a,p [a]):∀b:Yf,b.length=1->p b:=λb e=>by
 obtain⟨a,rfl⟩:=List.length_eq_one_iff.mp e;exact h a
def bX (h:∀a b,p [a,b]):∀c:Yf,c.length=2->p c:=λc e=>by
 cases c with
 |nil=>simp_all
 |cons a c=>exact r8 (p:=λc=>p (a::c)) (λb=>h a b) c (UN e)
def r0 (h:∀a b c,p [a,b,c]):∀f:Yf,f.length=3->p f:=λf e=>by
 cases f with
 |nil=>simp_all
 |cons a f=>exact bX (p:=λf=>p (a::f)) (λb c=>h a b c) f (UN e)
def bW (h:∀a b c d,p [a,b,c,d]):∀f:Yf,f.length=4->p f:=λf e=>by
 cases f with
 |nil=>simp_all
 |cons a f=>exact r0 (p:=λf=>p (a::f)) () f (UN e)
def cy (h:∀a b c d e,p [a,b,c,d,e]):∀f:Yf,f.length=5->p f:=λf e=>by
 cases f with
 |nil=>simp_all
 |cons a f=>exact bW (p:=λf=>p (a::f)) () f (UN e)
end
section
variable {M:Model}{A:Around}{E:Ya}{s:Shared}{base:Heap}{e:Addr}{cls a0 fl:Value}
def Tc (w:base.StaysIn s.heap)(x:s.heap.FunFrames base l)(y:s.heap.TracedAtW base e cls a0 fl)
 (h:∀h' T,base.get? T=none->(∀b,b≠T->h'.get? b=s.heap.get? b)->(∃o j,s.heap.get? T=some o/\o.data=.fields j)->base.StaysIn h'->h'.FunFrames base l->(∃m,h'.TracedAtW base e cls a0 m)->Q Yt { s with heap:=h' }):wpAny M A (setFlight (.ref e) f) Q E s:=by
 obtain⟨B,j,T,C,ts,r,F,t,u,p,v,g,c,G⟩:=y;have H:=(Jv.mp G).1;have i:∀b,b≠T->(s.heap.update T (Obj.mapFields (·.setIfInBounds 3 (f.elim Value.none λa=>rawInt a)))).get? b=s.heap.get? b:=λb n=>Heap.get?_update_other _ _ n.symm;have I:∀b o,s.heap.get? b=some o->(∀J,o.data ≠ .fields J)->b≠T:=λb o q n z=>by
  subst z;rw[g] at q;cases q;exact n _ c
 unfold setFlight;refine Za (wpAny_field r t u ?_);rw[Zd ()];refine wpAny_setField g c H (h _ T p i ⟨C,ts,g,c⟩ (λb o q=>(i b λz=>by rw[z,p] at q;cases q).trans (w b o q)) (x.of_keeps λb o q n=>⟨o,(i b (I b o q n)).trans q,rfl⟩) ⟨f.elim Value.none λa=>rawInt a,B,j,T,_,_,(i e v.symm).trans r,F,t,u,p,v,Heap.get?_update_self _ g (Obj.isFreed_of_fields (Obj.data_mapFields c _)),Obj.data_mapFields c _,?_⟩)
 simp_all
def Td (a:A.frames=some (env::outer))(f:env.frame=some L)(i:base.StaysIn s.heap)(g:base.get? e=none)(j:s.heap.FunFrames base (env::outer))(h:s.heap.TracedAtW base e cls a0 fl)
 (l:∀h',Heap.FlyingW base outer e cls a0 h'->s.heap.UpToSlots h'->Q Yt { s with heap:=h' }):wpAny M A (leaving env (.ref e)) Q E s:=by
 by_cases c:fl=rawInt L
 .subst c;exact Za (wpAny_noteFrame_againW f h (wpAny_setFlight_noneW i j h λh' k1 k2 k3 v=>l h' ⟨k1,g,k2.2.2,k3⟩ λb o q n=>⟨o.slots,v b o q n⟩))
 .obtain⟨N,O,T,P,ts,w,⟨x,y⟩,m,B,R,S,p,r,t⟩:=h;subst x;have C:=(Jv.mp t).1;have u:∀b,b≠T->(s.heap.update T (Obj.mapFields (·.setIfInBounds 3 Value.none))).get? b=s.heap.get? b:=λb n=>Heap.get?_update_other _ _ n.symm;have F:∀b o,s.heap.get? b=some o->(∀G,o.data ≠ .fields G)->b≠T:=by grind
  unfold leaving noteFrame;simp only[f];refine Za (Za (wpAny_field w m B (Za (wpAny_field p r t ?_))));rw[Ze (λz=>c (Ys.mp z))];exact Za (wpAny_setField p r C (wpAny_newEntryW a (j.of_keeps ()) f () (λb o q=>(u b λz=>()).trans (i b o q)) g m () y λh' ⟨H,I,J,K⟩=>(l h' ⟨H,g,I.2.2,J⟩ λb o q n=>K b o ((u b (F b o q n)).trans q) n)))
end
structure FlyAny (l:List Env)(h₀:Heap)(H:Hp)(x C:Addr)(B h:Heap):Prop where
 st:B.StaysIn h
 no:B.get? x=none
 fr:h.FunFrames B l
 tr:∃t fl,h.TracedAtW B x (.ref C) (.ref t) fl
 trk:∀b o,h.get? b=some o->(H b≠none\/((∃u,h₀.get? b=some u)/\b∉xb l))->B.get? b=some o
structure ThrownA (X:Cx)(E:XK):Prop where
 on:∀(Y:Yb) (Z: St) (H:Hp) (s:Shared) (x C:Addr) (B:Heap),Inv X Y Z H s->FlyAny X.stack X.s₀.heap H x C B s.heap->E (.ref C) none H->X.xe (.ref x) s
def Te {P:Program}{w:World}{K:W.Frag}{mg:Ye}{g:Heap}{N:Yk}{h:Str}{a:Scope}{f:Addr}{l:Value}{A:Around}{c:List Env}{s:Shared}{H:Hp}{E:XK}:ThrownA (jX (x8 P w) P w K mg g N h a f l A c s H E) E:=by
 refine⟨λY Z q s' x C B I i n=>?_⟩;obtain⟨t,m,o⟩:=i.tr;exact Td I.ok.frames rfl i.st i.no i.fr o λh' j p=>Df I (λb u e=>⟨u,e⟩) j p i.trk n
theorem HK {h h' B a:Heap}(k0:∀b,B.get? b=none->a.get? b=none):∀{l:List Env},(∀b∈xb l,h'.get? b=h.get? b)->h.FunFrames B l->h'.FunFrames a l
 | [],_,_=>trivial
 |env::rest,k,⟨g1,⟨L,o,g2,g3,g4,g5⟩,r⟩=>by
  have c:L∈xb (env::rest):=by
   unfold xb;rw[UV,g2];exact Zqs
  refine⟨g1,⟨L,o,g2,k0 L g3,(k L c).trans g4,g5⟩,HK k0 (λb e=>k b ?_) r⟩
  simp_all [xb]
def Th {X:Cx}{E:XK}{f:Scope}{N:Yk}{cl:List (Str×Addr)}{C:Addr}{s:Shared}{H:Hp}{L:Yl}(A:X.stack=X.env::X.outer)(hfr:X.env.frame=some X.env.locals)(M:X.ex=[])(T:ThrownA X E)(at_:W4 X C s H L):Thrown (JJ X f N cl C s H L) E:=by
 obtain⟨F,Z0,I0,O,hC⟩:=at_;refine⟨λY Z H' s' h₀ x D B I h0 fl hE=>?_⟩;obtain⟨⟨t,fly⟩,trk⟩:=fl;have P:Heap.FlyingW B (X.env::X.outer) x (.ref D) (.ref t) s'.heap:=by rw[<- A];exact fly
 have Q:noteFrame (.ref x) (compEnvC f cl C X.env)=noteFrame (.ref x) X.env:=rfl;show YI X (noteFrame (.ref x) (compEnvC f cl C X.env)) (λ_ s''=>XI X C (.ref x) s'') (XI X C) s';rw[Q];refine wpAny_looks_onW (I0.ok.frames.trans (by rw[A])) hfr P λh1 R up1=>?_;obtain⟨m,hm,_⟩:=id I.loc;have S:h1.Ns C m:=up1.ns hm;refine⟨m,S,λG i cenv _=>?_⟩;obtain⟨hc1,hc2,hc3,hc4⟩:=R;obtain⟨oC,es,ep,hoC,hdC,_⟩:=id S;have nC:∀b o ws,h1.get? b=some o->o.data=.fields ws->b≠C:=by grind
 have g:∀b o,s.heap.get? b=some o->b≠C:=λb o q=>Zi (Zg (Zk q) hC);have U:∀b∈xb X.stack,b≠C:=λb a=>by
  obtain⟨_,J,j,_⟩:=I.ok.funs.mem a;exact g b J j
 obtain⟨p,hB'⟩:∃p,W.hideAll B [C]=p:=⟨_,rfl⟩;have inB:∀b o,p.get? b=some o->B.get? b=some o:=λb o q=>by rw[<- hB'] at q;exact W.of_hideAll _ q
 have toB:∀b o,B.get? b=some o->b≠C->p.get? b=some o:=λb o q n=>by grind[W.hideAll_get]
 have K:∀b,B.get? b=none->p.get? b=none:=λb q=>by
  cases z:p.get? b with
  |none=>rfl
  |some o=>rw[inB b o z] at q;cases q
 have nBC:∀b o,p.get? b=some o->b≠C:=λb o q z=>by
  grind[W.hideAll_none]
 have st2:p.StaysIn G:=λb o q=>(i.2 b (nBC b o q)).trans (hc1 b o (inB b o q));have fr2:G.FunFrames p X.stack:=HK K (λb a=>i.2 b (U b a)) (by rw[A];exact hc3);obtain⟨oe,vs,T0,oT,ts,g1,g2,g3,g4,g5,g6,g7,g8,g9⟩:=hc4;have tr2:G.TracedAtW p x (.ref D) (.ref t) (rawInt X.env.locals):=⟨oe,vs,T0,oT,ts,(i.2 x (nC _ _ _ g1 g3)).trans g1,g2,g3,g4,K T0 g5,g6,(i.2 T0 (nC _ _ _ g7 g8)).trans g7,g8,g9⟩;unfold PySem.passOn;refine Za (wpAny_field (s:={ s' with heap:=G }) ((i.2 x (nC _ _ _ g1 g3)).trans g1) g3 g4 ?_);rw[Ze ()];refine Za (Tc (s:={ s' with heap:=G }) st2 fr2 tr2 λh3 T' t1 t2 t3 st3 fr3 tr3=>wpAny_throw ?_);have K1:∀b o,B.get? b=some o->b≠C->h3.get? b=some o:=λb o q n=>st3 b o (toB b o q n);have nex:∀b u,X.s₀.heap.get? b=some u->b∉L:=λb u q a=>by
  rcases(O b a).2.2.2.1 with z|z
  .rw[M] at z;cases z
  .exact Zn (Zk q) (Nat.not_lt.mpr z)
 have w:∀b o,s.heap.get? b=some o->b∈xb X.stack->b∉L->∃sl,h3.get? b=some { o with slots:=sl }:=λb o q a l=>by
  obtain⟨_,J,j,hd⟩:=I.ok.funs.mem a;have j:s.heap.get? b=some J:=j;rw[q] at j;obtain rfl:=Zqi j;obtain⟨sl,e1⟩:=I.base.slot b o q (I.ok.frf b a) a l;obtain⟨sl',e2⟩:=up1 b _ e1 hd;have e3:G.get? b=some { o with slots:=sl' }:=(i.2 b (U b a)).trans e2;refine⟨sl',(t2 b λz=>?_).trans e3⟩;obtain⟨oz,wz,z1,z2⟩:=t3;rw[<- z] at z1;have z1:G.get? b=some oz:=z1;rw[e3] at z1;cases z1;exact hd _ z2
 refine T.on F Z0 H' _ x D p (I0.call' (s':={ s' with heap:=h3 }) (ch:=L) I.os ⟨λb o e n a l=>?_,λb o e n a l=>w b o e a l,λb o e n l=>I.base.free b o e n l,λb o e l=>?_,I.base.tups,I.base.frzs,I.base.tbls⟩ (λb u e=>?_) I.bare λb a=>⟨(O b a).2.2.2.1,(O b a).2.1,(O b a).2.2.2.2.1,(O b a).2.2.2.2.2⟩) ⟨st3,K x hc2,fr3,?_,λb o e c=>?_⟩ hE
 .exact K1 b o (trk b o (I.base.keep b o e n a l) (.inr ⟨h0 b o e l,a⟩)) (g b o e)
 .by_cases a:b∈xb X.stack
  .obtain⟨sl,q⟩:=w b o e a l;exact⟨_,q⟩
  .obtain⟨J,e'⟩:=I.base.there b o e l;exact⟨J,K1 b J (trk b J e' (.inr ⟨h0 b o e l,a⟩)) (g b o e)⟩
 .refine(I.hok b u e).stay (λc v hc q=>K1 c v (trk c v q (.inl ?_)) ?_) (λ_ q=>q) λ_ _ q=>q
  .rcases hc with z|z
   .rw[z,e];simp
   .rw[z];simp
  .intro z;have fC:H' C=none:=I.free;rcases hc with y|y
   .rw[<- y,z,fC] at e;exact J5 e
   .rw[z,fC] at y;exact J5 y
 .obtain⟨fl',q⟩:=tr3;exact⟨t,fl',q⟩
 .have key:∃r,B.get? b=some r/\b≠C:=by
   rcases c with c|⟨⟨u,hu⟩,a⟩
   .cases q:H' b with
    |none=>exact Zn q c
    |some u =>
     obtain⟨r,h2'⟩:=(I.hok b u q).has;exact⟨r,trk b r h2' (.inl c),λz=>by rw[z] at q;rw[show H' C=none from I.free] at q;exact J5 q⟩
   .obtain⟨o1,e1⟩:=I0.base.there b u hu (by rw[M];simp);obtain⟨r,e2⟩:=I.base.there b o1 e1 (nex b u hu);exact⟨r,trk b r e2 (.inr ⟨h0 b o1 e1 (nex b u hu),a⟩),g b o1 e1⟩
  obtain⟨r,k1,k2⟩:=key;have:=K1 b r k1 k2;have e:=e;rw[e] at this;cases this;exact toB b o k1 k2
end L2
namespace L2.DL
def Ti (N)(cap)(e:X.calm=true)(b:QJ scope X.env N X.N cap=true)(g:QI X E tg iter fi)
 (i:∀c C s H a,QG (JJ X scope N c C s H a) tg t) (j:∀c C s H a,W4 X C s H a->QE (JJ X scope N c C s H a) E elt f) (hs:∀x,foldedSetIterable iter X.env x=pure x:=by intro _;rfl):
 QN X E (.ListComp elt [⟨tg,iter,[],0⟩] scope pos) (Qr cap fi t f):=PE.weak (E4 N cap e b g i j hs) λ_ _ _ h=>A0 h
abbrev HP:=List (Addr×D)
def j7:HP->Addr->YH
 | [],_=>none
 |p::r,a=>if a=p.1 then some p.2 else j7 r a
def X0:HP->Addr->D->HP
 | [],_,_=>[]
 |p::r,a,d=>if a=p.1 then(p.1,d)::r else p::X0 r a d
def Tj (a):j7 [] a=none:=rfl
def WR (p)(r:HP)(a):j7 (p::r) a=if a=p.1 then some p.2 else j7 r a:=rfl
theorem Dk:∀{hp:HP} {a:Addr} {d:D} b,j7 hp a≠none->j7 (X0 hp a d) b=if b=a then some d else j7 hp b
 | [],a,d,b,h=>Zn rfl h
 |p::r,a,d,b,h=>by
  unfold X0;by_cases z:a=p.1
  .simp_all [WR]
  .rw[Ze z,WR,WR];rw[WR,Ze z] at h;rw[Dk b h]
   grind
structure RT (K:W.Frag)(B B':Bs)(F H:Hp)(sd:SD)(hp:HP)(Z: St):Prop where
 rs:RS K B' F H sd Z
 f0:B'.F0=B.F0
 pa:B'.pa=B.pa
 out:∀a,j7 hp a=none->B'.H0 a=B.H0 a
 obj:∀a d,j7 hp a=some d->B.F0 a=none/\B.H0 a=none/\yy K F B'.H0 a d
section
variable {K:W.Frag}{B B':Bs}{F F' H H':Hp}{sd sd':SD}{hp:HP}{Z Z':St}{a:Addr}{d:D}
def RT.sub (t:RT K B B' F H sd hp Z):jk B.H0 B'.H0:=λa o e=>by
 cases q:j7 hp a with
 |none=>rwa [t.out a q]
 |some d=>rw[(t.obj a d q).2.1] at e;exact J5 e
def RT.ext0 (t:RT K B B' F H sd hp Z)(e:Ext B'.F0 B'.H0 F2 H2):Ext B.F0 B.H0 F2 H2:=
 ⟨by rw[<- t.f0];exact e.ff,e.fh,t.sub.trans e.hh,λa c b=>e.new a (by rwa [t.f0]) λz=>b (Qj t.sub z)⟩
def RT.go (t:RT K B B' F H sd hp Z)(s:jk F F')(r:RS K B' F' H' sd' Z'):RT K B B' F' H' sd' hp Z':=
 ⟨r,t.f0,t.pa,t.out,λa d h=>let ⟨h1,h2,h3⟩:=t.obj a d h;⟨h1,h2,h3.ext s λ_ q=>q⟩⟩
def RT.free (t:RT K B B' F H sd hp Z)(h:j7 hp a=some d):F a=none:=have ⟨c,e,b⟩:=t.obj a d h;have ⟨o,f⟩:=b.has;t.rs.ext.new a (by rwa [t.f0]) ()
def RT.lies (t:RT K B B' F H sd hp Z)(h:j7 hp a=some d):yy K F H a d:=(t.obj a d h).2.2.ext (.refl _) λo q=>t.rs.ext.hh _ _ q
def RT.no_own (t:RT K B B' F H sd hp Z)(h:j7 hp a=some d)(b:B'.H0 l=none):l≠a:=λz=>by
 have ⟨o,c⟩:=(t.obj a d h).2.2.has
 simp_all
def RT.ret (t:RT K B B' F H sd hp Z)(h:Ay K m B Q d):Ay K m B' Q d:=by
 have g:y8 K B.F0 B.H0 Q d->y8 K B'.F0 B'.H0 Q d:=λh v c f e i=>h v c f (t.ext0 e) i;have j:xL K B.F0 B.H0 Q d->xL K B'.F0 B'.H0 Q d:=λh l c f e n p o=>h l c f (t.ext0 e) (Qj t.sub n) p o;cases m with
 |none =>
  have h:bL K B.F0 B.H0 Q d:=h;show bL K B'.F0 B'.H0 Q d
  grind[bL]
 |some b =>
  cases b with
  |true=>exact j h
  |false=>exact g h
def RT.xw (t:RT K B B' F H sd hp Z)(h:XW K E B.F0 B.H0 c fs):XW K E B'.F0 B'.H0 c fs:=λb a f g e q=>h b a f g (t.ext0 e) q
def RT.chg (t:RT K B B' F H sd hp Z)(f:j7 hp a=some d)(h:yy K F (upd H a o) a d'):RT K B ⟨B'.F0,upd B'.H0 a o,B'.pa⟩ F (upd H a o) sd (X0 hp a d') Z:= by
 have m:=t.free f;have ⟨n,r,I⟩:=t.obj a d f;have g:j7 hp a≠none:=by simp_all
 refine⟨⟨⟨t.rs.ext.ff,BX o t.rs.ext.fh m,λb u e=>?_,λb s v=>?_⟩,t.rs.len,t.rs.val,λ{i p e} q=>?_,t.rs.apart⟩,t.f0,t.pa,λb c=>?_,λb e c=>?_⟩
 .have e:upd B'.H0 a o b=some u:=e;by_cases z:b=a
  .simp_all [JL]
  .rw[JH z] at e ⊢;exact t.rs.ext.hh _ _ e
 .by_cases z:b=a
  .rwa [z]
  .exact t.rs.ext.new b s λy=>v (by show upd B'.H0 a o b=none;rwa [JH z])
 .obtain⟨l,w,j,x,A,C⟩:=t.rs.own q;have ne:=t.no_own f j;exact⟨l,w,(JH ne).trans j,x,A.ext (.refl _) (λu E=>by rwa [JH ne]),λz=>(C z).mono λu E=>by rwa [JH ne]⟩
 .rw[Dk b g] at c;by_cases z:b=a
  .simp_all
  .rw[Ze z] at c;show upd B'.H0 a o b=B.H0 b;rw[JH z];exact t.out b c
 .rw[Dk b g] at c;by_cases z:b=a
  .rw[Zd z] at c;obtain rfl:=Zqi c;subst z;exact⟨n,r,h.ext (.refl _) λu q=>by simp_all [JL]⟩
  .rw[Ze z] at c;have ⟨c1,c2,G⟩:=t.obj b e c;exact⟨c1,c2,G.ext (.refl _) λu q=>by show upd B'.H0 a o b=some u;rwa [JH z]⟩
def zm (F b:Hp)(hp:HP):Hp:=λa=>match j7 hp a with
 |some _=>b a
 |none=>F a
theorem RT.frz (t:RT K B B' F H sd hp Z):∃h,jk F h/\RS K B h H sd Z /\ ∀a d,j7 hp a=some d->jg K h d (.ref a):=by
 have s:∀b d,j7 hp b=some d->zm F B'.H0 hp b=B'.H0 b:=λb d e=>by grind[zm]
 have g:∀b,j7 hp b=none->zm F B'.H0 hp b=F b:=λb e=>by grind[zm]
 have f:jk F (zm F B'.H0 hp):=λb u e=>by
  cases q:j7 hp b with
  |none=>rwa [g b q]
  |some d=>rw[t.free q] at e;exact J5 e
 refine⟨zm F B'.H0 hp,f,⟨⟨?_,λb u e=>?_,t.sub.trans t.rs.ext.hh,λb E j=>?_⟩,t.rs.len,λq=>let ⟨v,j,h2⟩:=t.rs.val q;⟨v,j,jg.same f _ _ h2⟩,λ{i p e} q=>?_,t.rs.apart⟩,λb e m=>?_⟩
 .rw[<- t.f0];exact t.rs.ext.ff.trans f
 .cases q:j7 hp b with
  |none=>rw[g b q] at e;exact t.rs.ext.fh _ _ e
  |some d=>rw[s b d q] at e;exact t.rs.ext.hh _ _ e
 .cases q:j7 hp b with
  |none=>rw[g b q];exact t.rs.ext.new b (by rwa [t.f0]) (by rwa [t.out b q])
  |some d=>exact Zn (t.obj b d q).2.1 j
 .have ⟨l,w,n,G,x,y⟩:=t.rs.own q;have A:j7 hp l=none:=by
   cases z:j7 hp l with
   |none=>rfl
   |some I=>exact Zn rfl (t.no_own z n)
  exact⟨l,w,Qj t.sub n,by rwa [g l A],x.ext f λ_ q=>q,λz=>by rw[<- t.pa];exact y z⟩
 .have ⟨c1,c2,r⟩:=t.obj b e m;have ⟨o,C⟩:=r.has;refine jg.same (λc u q=>?_) _ _ (r.frz C (t.free m));by_cases z:c=b
  .simp_all [JL]
  .rw[JH z] at q;exact f _ _ q
end
mutual
def der (hp:HP):D->D
 | .adr a=>match j7 hp a with
  |some d=>d
  |none=>.adr a
 | .lst ds=>.lst (zJ hp ds)
 | .non=>.non
 | .bl b=>.bl b
 | .int i=>.int i
 | .str x=>.str x
 | .ty n=>.ty n
 | .scr ns=>.scr ns
 | .tup ds=>.tup ds
 | .dct ks ds=>.dct ks ds
 | .ins c fs ds=>.ins c fs ds
 | .exc c=>.exc c
 | .ucl c=>.ucl c
 | .dcf ks ds=>.dcf ks ds
 | .pin a d=>.pin a d
def zJ (hp:HP):YG->YG
 | []=>[]
 |d::ds=>der hp d::zJ hp ds
end
theorem Tk (hp)(a):der hp (.adr a)=match j7 hp a with
 |some d=>d
 |none=>.adr a:=by rw[der]
def Tl (hp):zJ hp []=[]:=by rw[zJ]
section
variable {K:W.Frag}{B:Bs}{F H:Hp}{sd:SD}{hp:HP}{Z: St}
mutual
theorem jg.der (f:∀a d,j7 hp a=some d->jg K F d (.ref a)):∀d v,jg K F d v->jg K F (der hp d) v
 | .adr a,v,h=>by
  obtain rfl:=qb.mp h
  grind[Tk]
 | .lst ds,v,h=>have ⟨a,e,g,i,j⟩:=jm.mp h;jm.mpr ⟨a,e,g,i,jd.der f ds e j⟩
 | .non,v,h=>by rwa [L2.DL.der]
 | .bl b,v,h=>by rwa [L2.DL.der]
 | .int b,v,h=>h
 | .str b,v,h=>by rwa [L2.DL.der]
 | .ty b,v,h=>h
 | .scr b,v,h=>by rwa [L2.DL.der]
 | .tup b,v,h=>by rwa [L2.DL.der]
 | .dct b c,v,h=>h
 | .ins b c d,v,h=>by rwa [L2.DL.der]
 | .exc b,v,h=>by rwa [L2.DL.der]
 | .ucl b,v,h=>by rwa [L2.DL.der]
 | .dcf b c,v,h=>by rwa [L2.DL.der]
 | .pin b c,v,h=>by rwa [L2.DL.der]
theorem jd.der (c:∀a d,j7 hp a=some d->jg K F d (.ref a)):∀ds b,jd K F ds b->jd K F (zJ hp ds) b
 | [],b,h=>by rwa [Tl]
 |d::ds,b,h=>have ⟨x,r,e,f,g⟩:=jp.mp h;jp.mpr ⟨x,r,e,jg.der c d x f,jd.der c ds r g⟩
end
def derI (hp:HP):Yj->SD->SD
 | [],sd=>sd
 |i::is,sd=>derI hp is (match sd[i]? with
  |some (some (.val d))=>sd.set i (some (.val (der hp d)))
  |_=>sd)
def HM {α: Type}{l:List α}{a:α}(h:l[i]? = some a):l.set i a=l:=by
 apply VO;intro j;by_cases z:i=j
 .subst z;rw[UW (Jc.mp h).1,h]
 .rw[Zx z]
def RS.reval (r:RS K B F H sd Z)(a:sd[i]? = some (some (.val d)))(h:∀v,jg K F d v->jg K F d' v):RS K B F H (sd.set i (some (.val d'))) Z:= by
 have ⟨v,b,c⟩:=r.val a;have:=r.setVal (i:=i) (h v c)
 rwa [HM b] at this
theorem RS.derI (b:∀a d,j7 hp a=some d->jg K F d (.ref a)):∀is {sd:SD},RS K B F H sd Z -> RS K B F H (derI hp is sd) Z
 | [],sd,r=>r
 |i::is,sd,r=>by
  unfold L2.DL.derI
  split
  .rename_i d h;exact RS.derI b is (r.reval h λv q=>jg.der b d v q)
  .exact RS.derI b is r
end
inductive Out2 where
 |next (sd:SD) (hp:HP)|ret (d:D)|brk (sd:SD) (hp:HP)|cont (sd:SD) (hp:HP)
def wU (K:W.Frag)(m:Option Bool)(B:Bs)(F:Hp)(T:Ends):Out2->Prop
 | .next sd hp=>∀Z c a b,jk F a->RT K B c a b sd hp Z -> T.nx Z b
 | .brk sd hp=>∀Z c a b,jk F a->RT K B c a b sd hp Z -> T.bk Z b
 | .cont sd hp=>∀Z c a b,jk F a->RT K B c a b sd hp Z -> T.ct Z b
 | .ret d=>Ay K m B T.rt d
abbrev qQ:=SD->HP->Res Out2
def vj (K:W.Frag)(E:XK)(m:Option Bool)(g:qQ):TS:=λT Z H=>∃B a F sd hp,RT K B a F H sd hp Z /\ (g sd hp).need (wU K m B F T) (XW K E B.F0 B.H0)
abbrev ve (X:Cx)(E:XK)(m:Option Bool)(st:Stmt)(g:qQ):Prop:=PS X st (vj X.K E m g)
abbrev yW (X:Cx)(E:XK)(m:Option Bool)(st:List Stmt)(g:qQ):Prop:=qK X st (vj X.K E m g)
def fS (hp:HP):Out->Out2
 | .next sd=>.next sd hp
 | .ret d=>.ret d
 | .brk sd=>.brk sd hp
 | .cont sd=>.cont sd hp
section
variable {K:W.Frag}{E:XK}{m:Option Bool}{B B':Bs}{F F' H:Hp}{T:Ends}{sd:SD}{hp:HP}{Z: St}
def wU.mono (h:wU K m B F T o)(e:jk F F'):wU K m B F' T o:=by
 cases o with
 |next sd hp=>exact λZ a b c s r=>h Z a b c (e.trans s) r
 |brk sd hp=>exact λZ a b c s r=>h Z a b c (e.trans s) r
 |cont sd hp=>exact λZ a b c s r=>h Z a b c (e.trans s) r
 |ret d=>exact h
def RT.lift (t:RT K B B' F H sd hp Z)(h:wU K m B F T (fS hp o)):yX K m B' F T o:=by
 cases o with
 |next sd'=>exact λa F' b s r=>h a B' F' b s (t.go s r)
 |brk sd'=>exact λa F' b s r=>h a B' F' b s (t.go s r)
 |cont sd'=>exact λa F' b s r=>h a B' F' b s (t.go s r)
 |ret d=>exact t.ret h
end
section
variable {X:Cx}{E:XK}{m:Option Bool}{st:Stmt}{sts:List Stmt}{g:FS}{g1 g2:qQ}{pos pos':Pos}{o i e:Expr}{fo fi fv:FE}
def vo (g:FS):qQ:=λsd hp=>(g sd).bind λo=>.ok (fS hp o)
def Dl (h:QS X E m st g):ve X E m st (vo g):=PS.weak h λT Z H ⟨B,a,F,sd,hp,t,n⟩=>⟨a,F,sd,t.rs,(ja n).mono (λo b=>t.lift b) λ_ _ q=>t.xw q⟩
def Dm:qQ:=λsd hp=>.ok (.next sd hp)
def AT (g1 g2:qQ):qQ:=λsd hp=>(g1 sd hp).bind λo=>match o with
 | .next sd' hp'=>g2 sd' hp'
 |o=>.ok o
def Tn:yW X E m [] Dm:=qK.weak ZU λT Z H ⟨B,a,F,sd,hp,t,n⟩=>n Z a F H (.refl _) t
def HN (h:ve X E m st g1):yW X E m [st] g1:=BB h
def Tp (b:ve X E m st g1)(c:yW X E m sts g2):yW X E m (st::sts) (AT g1 g2):=qK.weak (XD b c) λT Z H f=>by
 obtain⟨B,h,F,sd,hp,t,n⟩:=f;refine⟨B,h,F,sd,hp,t,(ja n).mono (λo a=>?_) λ_ _ q=>q⟩;cases o with
 |next sd' hp'=>exact λr j l u s p=>⟨B,j,l,sd',hp',p,a.mono (λo q=>q.mono s) λ_ _ q=>q⟩
 |ret d=>exact a
 |brk sd' hp'=>exact a
 |cont sd' hp'=>exact a
abbrev v9:=SD->HP->Res Bool
def ms (K:W.Frag)(E:XK)(f:v9):TT:=λZ H Q=>∃B a F sd hp,RT K B a F H sd hp Z /\ (f sd hp).need (v0 F H Q) (XW K E F H)
abbrev sv (X:Cx)(E:XK)(e:Expr)(f:v9):Prop:=PT X e (ms X.K E f)
def zC (c:v9)(g1 g2:qQ):qQ:=λsd hp=>(c sd hp).bind λb=>if b then g1 sd hp else g2 sd hp
def uM (p:sv X E c fc)(r:yW X E m a g1)(s:yW X E m b g2):ve X E m (.If c a b pos) (zC fc g1 g2):=PS.weak (BD p r s) λT Z H u=>by
 obtain⟨B,h,F,sd,hp,t,n⟩:=u;refine⟨B,h,F,sd,hp,t,(ja n).mono (λb j l v f=>?_) λ_ _ q=>q.ext (t.ext0 t.rs.ext)⟩;cases b with
 |true=>exact⟨B,h,l,sd,hp,t.go f.ff (t.rs.step f),j.mono (λ_ q=>q.mono f.ff) λ_ _ q=>q⟩
 |false=>exact⟨B,h,l,sd,hp,t.go f.ff (t.rs.step f),j.mono (λ_ q=>q.mono f.ff) λ_ _ q=>q⟩
def xg (b:D->qQ):YG->qQ
 | [],sd,hp=>.ok (.next sd hp)
 |x::xs,sd,hp=>(b x sd hp).bind λo=>match o with
  | .next sd' hp'=>xg b xs sd' hp'
  | .cont sd' hp'=>xg b xs sd' hp'
  | .brk sd' hp'=>.ok (.next sd' hp')
  | .ret d=>.ok (.ret d)
def KP (tg:Tg)(b:qQ)(x:D):qQ:=λsd hp=>(JO tg x sd).bind λs=>b s hp
def AU (it:FA)(tg:Tg)(b:qQ):qQ:=λsd hp=>(it sd).bind λds=>xg (KP tg b) ds sd hp
def Tq (wk:zN X.K F1 J ds)(r:RT X.K B B1 F1 H1 sd hp Z)(Y:(xg (KP t g1) ds sd hp).need (wU X.K m B F1 T) (XW X.K E B.F0 B.H0)):
 ∃W:Nat->Nat->St->Hp->Prop,(∃m,W 0 m Z H1)/\∀i S Z H,W i S Z H->(J.stop i H/\T.nx Z H)\/(J.go i H/\∃N:St->Hp->Prop,(∀s h,N s h->∃m2,m2<S/\W (i+1) m2 s h)/\∀x h,J.yld i H x h->gT t X.K x Z h λK C=>vj X.K E m g1 { T with nx:=N,ct:=N,bk:=T.nx } K C):=by
 refine⟨λi k Z H=>k=ds.length-i/\i<=ds.length/\∃F u sd hp,jk F1 u/\RT X.K B F u H sd hp Z /\ (xg (KP t g1) (ds.drop i) sd hp).need (wU X.K m B u T) (XW X.K E B.F0 B.H0),
  ⟨ds.length,rfl,Ua _,B1,F1,sd,hp,.refl _,r,Y⟩,?_⟩
 rintro i k K C ⟨rfl,hi,F,u,sd2,L,M,G,v⟩;obtain⟨w1,w2⟩:=wk i u C M G.rs.ext.fh;by_cases j:i<ds.length
 .have ⟨go,yl⟩:=w1 j;refine .inr ⟨go,λs h=>∃O l a b,jk F1 l/\RT X.K B O l h a b s/\(xg (KP t g1) (ds.drop (i+1)) a b).need (wU X.K m B l T) (XW X.K E B.F0 B.H0),
   λs h ⟨O,l,a,b,q1,q2,q3⟩=>⟨ds.length-(i+1),(),rfl,j,O,l,a,b,q1,q2,q3⟩,λx H3 y=>?_⟩
  obtain⟨d,l,hd,n,i3⟩:=yl x H3 y;rw[Uu j] at v;have P:ds[i]=d:=by simp_all
  rw[P] at v;have U:=G.go n.ff (G.rs.step n);refine Y2 U.rs i3 (ja (ja v)) λsd' s n4 _ r4=>⟨B,F,l,sd',L,U.go (.refl _) r4,n4.mono (λo I=>?_) λ_ _ q=>q⟩;cases o with
  |next c f=>exact λQ w z R p A=>⟨w,z,c,f,(M.trans n.ff).trans p,A,I.mono (λ_ q=>q.mono (n.ff.trans p)) λ_ _ q=>q⟩
  |cont c f=>exact λQ w z R p A=>⟨w,z,c,f,(M.trans n.ff).trans p,A,I.mono (λ_ q=>q.mono (n.ff.trans p)) λ_ _ q=>q⟩
  |brk c f=>exact λQ w z R p A=>I Q w z R (n.ff.trans p) A
  |ret d=>exact I
 .have he:i=ds.length:=()
  refine .inl ⟨w2 (),?_⟩;subst he;rw[Vb] at v;exact v K F u C (.refl _) G
def Tr (hp:PassesOwn (model X.prog X.w) X.A X.env X.xe)(c:X.calm=true)(f:QI X E tg iter it)(h:QG X tg t)(j:yW X E m body g1)
 (a:∀x,foldedSetIterable iter X.env x=pure x:=by intro _;rfl):ve X E m (.For tg iter body [] pos) (AU it t g1):=PS.weak (DU hp c f h j a) λT Z H ⟨B,l,F,sd,hp,r,n⟩=>⟨l,F,sd,r.rs,(ja n).mono (λds p J s u b wk=>(Tq wk (r.go b.ff (r.rs.step b)) (p.mono (λ_ q=>q.mono b.ff) λ_ _ q=>q))) λ_ _ q=>q.ext (r.ext0 r.rs.ext)⟩
end
@[simp]def vR (hp:HP)(sd:SD):fS hp (.next sd)=.next sd hp:=rfl
@[simp]def nJ (g:FS)(sd:SD)(hp:HP):vo g sd hp=(g sd).bind λo=>.ok (fS hp o):=rfl
def uy (g:qQ):Out2->Res Out2
 | .next sd hp=>g sd hp
 |o=>.ok o
@[simp]def pf (g:qQ)(sd:SD)(hp:HP):uy g (.next sd hp)=g sd hp:=rfl
@[simp]def gP (a b:qQ)(sd:SD)(hp:HP):AT a b sd hp=(a sd hp).bind (uy b):=by
 rfl
@[simp]def cY (sd:SD)(hp:HP):Dm sd hp=.ok (.next sd hp):=rfl
@[simp]def HQ (c:v9)(a e:qQ)(sd:SD)(hp:HP):zC c a e sd hp=(c sd hp).bind λb=>if b then a sd hp else e sd hp:=rfl
@[simp]def Ts (it:FA)(tg:Tg)(b:qQ)(sd:SD)(hp:HP):AU it tg b sd hp=(it sd).bind λds=>xg (KP tg b) ds sd hp:=rfl
@[simp]def gY (hp:HP)(sd:SD):derI hp [] sd=sd:=rfl
def fg (hp:HP)(i:Nat)(sd:SD):Option (Option SV)->SD
 |some (some (.val d))=>sd.set i (some (.val (der hp d)))
 |_=>sd
@[simp]def gZ (hp:HP)(i:Nat)(sd:SD)(d:D):fg hp i sd (some (some (.val d)))=sd.set i (some (.val (der hp d))):=rfl
@[simp]def p4 (hp:HP)(i:Nat)(is:Yj)(sd:SD):derI hp (i::is) sd=derI hp is (fg hp i sd sd[i]?):=by
 rfl
@[simp]def gV (tg:Tg)(b:qQ)(x:D)(sd:SD)(hp:HP):KP tg b x sd hp=(JO tg x sd).bind λs=>b s hp:=rfl
def wL (K:W.Frag)(F H:Hp)(hp:HP):Prop:=∀a d,j7 hp a=some d->F a=none/\yy K F H a d
def RT.lent {K:W.Frag}{B a:Bs}{F H:Hp}{sd:SD}{hp:HP}{Z: St}(t:RT K B a F H sd hp Z):wL K F H hp:=λ_ _ h=>⟨t.free h,t.lies h⟩
abbrev qz:=SD->HP->Res (D×HP)
abbrev xS:=SD->HP->Res (YG×HP)
abbrev zu:=SD->HP->Res (Bool×HP)
def wn (K:W.Frag)(E:XK)(f:qz):TE:=λZ H Q=>∃B c F sd hp,RT K B c F H sd hp Z /\ (f sd hp).need (λp=>∀v e a b,jk F a->RT K B e a b sd p.2 Z -> jg K a p.1 v->Q v b) (XW K E B.F0 B.H0)
abbrev zP (X:Cx)(E:XK)(e:Expr)(f:qz):Prop:=PE X e (wn X.K E f)
def ug (K:W.Frag)(E:XK)(f:xS):TA:=λZ H Q=>∃B e F sd hp,RT K B e F H sd hp Z /\ (f sd hp).need (λp=>∀b g a c,jk F a->RT K B g a c sd p.2 Z -> jd K a p.1 b->Q b c) (XW K E B.F0 B.H0)
abbrev wK (X:Cx)(E:XK)(es:Ym)(f:xS):Prop:=PA X es (ug X.K E f)
def uf (K:W.Frag)(E:XK)(f:zu):TT:=λZ H Q=>∃B c F sd hp,RT K B c F H sd hp Z /\ (f sd hp).need (λp=>∀e a b,jk F a->RT K B e a b sd p.2 Z -> Q p.1 b) (XW K E B.F0 B.H0)
abbrev fF (X:Cx)(E:XK)(e:Expr)(f:zu):Prop:=PT X e (uf X.K E f)
section
variable {X:Cx}{E:XK}{m:Option Bool}{a b e o i:Expr}{es:Ym}{fa fb fe fo fi:FE}{f2 g2:qz}{fr:xS}{pos pos':Pos}
def zx (fe:FE):qz:=λsd hp=>(fe sd).bind λd=>.ok (d,hp)
def X1 (h:QE X E e fe):zP X E e (zx fe):=PE.weak h λZ H Q ⟨B,f,F,sd,hp,t,n⟩=>⟨f,F,sd,t.rs,(ja n).mono (λd g v j l c p=>g v f j l c.ff (t.go c.ff (t.rs.step c)) p) λ_ _ q=>q.ext (t.ext0 t.rs.ext)⟩
def z8 (g:D->D->YH)(fa fb:qz):qz:=λsd hp=>(fa sd hp).bind λp=>(fb sd p.2).bind λq=>(Res.ofO (g p.1 q.1)).bind λz=>.ok (z,q.2)
def Tt {K:W.Frag}{g:D->D->YH}{Z: St}{H:Hp}{Q:VK}(h:wn K E (z8 g f2 g2) Z H Q):wW (wY K g) (wn K E f2) (wn K E g2) Z H Q:=by
 obtain⟨B,l,F,sd,hp,t,n⟩:=h;refine⟨B,l,F,sd,hp,t,(ja n).mono (λp r v s x P y A C=>⟨B,s,x,sd,p.2,A,(ja r).mono (λq G w I J R j c L=>?_) λ_ _ q=>q⟩) λ_ _ q=>q⟩;obtain⟨z,hz,k⟩:=jh (ja G);exact⟨J,p.1,q.1,z,c.rs.ext.fh,jg.same j _ _ C,L,hz,λu M N f O=>k u I M N ((y.trans j).trans f.ff) (c.go f.ff (c.rs.step f)) O⟩
def Tu (c:yN X (wY X.K g))(f:zP X E a f2)(j:zP X E b g2)(hs:ZZ b):zP X E (.Subscript a b pos) (z8 g f2 g2):=PE.weak (BL c f j hs) λ_ _ _ h=>Tt h
def Tv (fa:qz):zu:=λsd hp=>(fa sd hp).bind λp=>match p.1 with
 | .bl b=>.ok (b,p.2)
 |_=>.no
def AV:xS:=λ_ hp=>.ok ([],hp)
def Ws (f:qz)(g:xS):xS:=λsd hp=>(f sd hp).bind λp=>(g sd p.2).bind λq=>.ok (p.1::q.1,q.2)
def Tw:wK X E [] AV:=PA.weak W0 λZ H Q ⟨B,c,F,sd,hp,t,n⟩=>n [] c F H (.refl _) t .nil
def Dn (f:zP X E e f2)(g:wK X E es fr)(hs:starEach (e::es) X.env=(false,eval e X.env)::starEach es X.env:=by rfl):wK X E (e::es) (Ws f2 fr):=PA.weak (KS f g hs) λZ H Q ⟨B,h,F,sd,hp,t,n⟩=>⟨B,h,F,sd,hp,t,(ja n).mono (λp j v l r J s u w=>⟨B,l,r,sd,p.2,u,(ja j).mono (λq x y z A C c G I=>(x (v::y) z A C (s.trans c) G (.mk (jg.same c _ _ w) I))) λ_ _ q=>q⟩) λ_ _ q=>q⟩
def vJ (fr:xS):qz:=λsd hp=>(fr sd hp).bind λp=>if p.1.length<=1000 then .ok (.tup p.1,p.2) else .no
def Tx (i:Nat)(f:qz):qQ:=λsd hp=>(f sd hp).bind λp=>.ok (.next (sd.set i (some (.val p.1))) p.2)
def V6 (i:Nat)(f:qz):qQ:=λsd hp=>match sd[i]? with
 |some (some (.own false (.lst ds)))=>(f sd hp).bind λp=>if ds.length<sizeLine then .ok (.next (sd.set i (some (.own false (.lst (ds++[p.1]))))) p.2) else .no
 |_=>.no
def Tz {i:Nat}{c f:Pos}(y:PE X o (xM i))(z:zP X E e f2)
 (hp:∀{u:TE} {t:TA},PE X o u->PA X [e] t->PE X (.Call (.Attribute o "append" c) [e] [] f) (fV X.K "list" BM u t))
 (hs:swapsWith (.Call (.Attribute o "append" c) [e] [] f) none pos.line X.env=pure false:=by rfl)
 (g:starEach [e] X.env=(false,eval e X.env)::starEach [] X.env:=by rfl):ve X E m (.Expr (.Call (.Attribute o "append" c) [e] [] f) pos) (V6 i f2):=
 PS.weak (BC (hp y (KS z W0 g)) hs) λT Z H A=>by
  obtain⟨B,C,F,sd,hp,t,n⟩:=A;unfold V6 at n
  split at n
  .rename_i ds h;obtain⟨l,j,O,P,⟨G,I,Q⟩,_⟩:=t.rs.own h;refine⟨.ref l,j,.inl ⟨rfl,G,qs.of I⟩,B,C,F,sd,hp,t,(ja n).mono (λp r v J K R L s M=>?_) λ_ _ q=>q⟩
   split at r
   .obtain⟨S,w,g2,U,⟨ys,N,x⟩,_⟩:=s.rs.own h;rw[j] at w;cases w;have Y:=x.length;exact⟨l,ys,v,rfl,rfl,N,(),r Z J K _ L (s.go (.refl _) (s.rs.chg h j ⟨ys++[v],JL,x.snoc M⟩))⟩
   .exact r.elim
  .exact n.elim
end
def HR (K:W.Frag)(E:XK)(g:qz):TS:=λT Z H=>∃B c F sd hp,RT K B c F H sd hp Z /\ (g sd hp).need (λp=>∀v e sd' f a b,jk F a->RT K B f a b sd' p.2 e->jg K a p.1 v->T.rt v b) (XW K E B.F0 B.H0)
abbrev yG (X:Cx)(E:XK)(sts:List Stmt)(g:qz):Prop:=qK X sts (HR X.K E g)
section
variable {X:Cx}{E:XK}{m:Option Bool}{e:Expr}{f2 g2 ga:qz}{g1:qQ}{fc:zu}{pos:Pos}{st:Stmt}{sts a:List Stmt}{c:Expr}
def AW (h:zP X E e f2):yG X E [.Return (some e) pos] f2:=qK.weak (BB (ZV h)) λT Z H ⟨B,b,F,sd,hp,t,n⟩=>⟨B,b,F,sd,hp,t,n.mono () λ_ _ q=>q⟩
def yE (g1:qQ)(g2:qz):qz:=λsd hp=>(g1 sd hp).bind λo=>match o with
 | .next sd' hp'=>g2 sd' hp'
 |_=>.no
def AX (g:ve X E m st g1)(h:yG X E sts g2):yG X E (st::sts) (yE g1 g2):=qK.weak (XD g h) λT Z H i=>by
 obtain⟨B,j,F,sd,hp,t,n⟩:=i;refine⟨B,j,F,sd,hp,t,(ja n).mono (λo b=>?_) λ_ _ q=>q⟩;cases o with
 |next sd' hp'=>exact λI l r J s u=>⟨B,l,r,sd',hp',u,b.mono (λp q v w f x y z A C G=>q v w f x y z (s.trans A) C G) λ_ _ q=>q⟩
 |ret d=>exact b.elim
 |brk sd' hp'=>exact b.elim
 |cont sd' hp'=>exact b.elim
def bF (fc:zu)(ga g2:qz):qz:=λsd hp=>(fc sd hp).bind λp=>if p.1 then ga sd p.2 else g2 sd p.2
def HS (z:fF X E c fc)(A:yG X E a ga)(C:yG X E sts g2):yG X E (.If c a [] pos::sts) (bF fc ga g2):=qK.weak (XD (BD z A ZU) C) λT Z H G=>by
 obtain⟨B,I,F,sd,hp,t,n⟩:=G;refine⟨B,I,F,sd,hp,t,(ja n).mono (λp s u w J x y=>?_) λ_ _ q=>q⟩;obtain⟨k,f⟩:=p;cases k with
 |true=>exact⟨B,u,w,sd,f,y,s.mono (λp q v g b h i j l o r=>q v g b h i j (x.trans l) o r) λ_ _ q=>q⟩
 |false=>exact⟨B,u,w,sd,f,y,s.mono (λp q v g b h i j l o r=>q v g b h i j (x.trans l) o r) λ_ _ q=>q⟩
end
structure ExtW (K:W.Frag)(F H:Hp)(hp:HP)(F' H':Hp)(hp':HP):Prop where
 ff:jk F F'
 fh:jk F' H'
 hh:∀a o,j7 hp a=none->H a=some o->H' a=some o
 new:∀a,F a=none->H a≠none->F' a=none
 len:wL K F' H' hp'
 dom:∀a,j7 hp' a=none↔j7 hp a=none
theorem Dp:∀{hp:HP} {a:Addr},j7 hp a=none↔a∉hp.map (·.1)
 | [],a=>by simp[Tj]
 |p::r,a=>by
  rw[WR,Zl,Uq,not_or];by_cases z:a=p.1
  .simp_all
  .rw[Ze z,Dp]
   simp_all
def yV (H:Hp)(hp:HP):Hp:=λa=>match j7 hp a with
 |none=>H a
 |some _=>none
def WS (h:j7 hp a=none):yV H hp a=H a:=by grind[yV]
def T1 (h:j7 hp a=some d):yV H hp a=none:=by unfold yV;rw[h]
def Kx (n ar:Nat)(g:qz)(ds:YG)(hp:HP):Res (D×HP):=if ds.length=ar then(g (Qf n ds) hp).bind λp=>if p.2.map (·.1)=hp.map (·.1) then .ok p else .no else .no
section
variable {K:W.Frag}{B B':Bs}{F F' H H':Hp}{sd:SD}{hp hp':HP}{Z: St}
def RT.call (t:RT K B B' F H sd hp Z)(w:ExtW K F H hp F' H' hp'):∃j,RT K B j F' H' sd hp' Z:= by
 have m:=λa o h e=>w.hh a o h (t.rs.ext.hh _ _ e);refine⟨⟨B'.F0,λa=>match j7 hp a with
  |none=>B'.H0 a
  |some _=>H' a,B'.pa⟩,⟨⟨t.rs.ext.ff.trans w.ff,w.fh,λa o e=>?_,λa n c=>?_⟩,t.rs.len,λq=>let ⟨v,c,h2⟩:=t.rs.val q;⟨v,c,jg.same w.ff _ _ h2⟩,λ{i p d} q=>?_,t.rs.apart⟩,t.f0,t.pa,λa b=>?_,λa d b=>?_⟩
 .grind
 .cases z:j7 hp a with
  |none =>
   have c:(match j7 hp a with
    |none=>B'.H0 a
    |some _=>H' a)≠none:=c
   rw[z] at c;exact w.new a (t.rs.ext.new a n c) λy=>(c (Qj t.rs.ext.hh y))
  |some d =>
   obtain⟨o,r⟩:=(t.lies z).has;exact w.new a (t.free z) ()
 .obtain⟨l,s,x,A,f,C⟩:=t.rs.own q;have g:j7 hp l=none:=by
   cases z:j7 hp l with
   |none=>rfl
   |some E=>exact Zn rfl (t.no_own z x)
  obtain⟨o,r⟩:=f.has;refine⟨l,s,?_,w.new l A (),f.ext w.ff λu q=>w.hh _ _ g q,λz=>(C z).mono λu q=>w.hh _ _ g q⟩
  simp_all
 .have b:=(w.dom a).mp b;show(match j7 hp a with
   |none=>B'.H0 a
   |some _=>H' a)=B.H0 a
  rw[b];exact t.out a b
 .cases z:j7 hp a with
  |none=>rw[(w.dom a).mpr z] at b;cases b
  |some d0 =>
   obtain⟨c1,c2,_⟩:=t.obj a d0 z;refine⟨c1,c2,(w.len a d b).2.ext (.refl _) λo q=>?_⟩
   simp_all
def RT.hidden (t:RT K B B' F H sd hp Z):Ext B.F0 B.H0 F (yV H hp):=by
 have e:=t.ext0 t.rs.ext;refine⟨e.ff,λa o q=>?_,λa o q=>?_,e.new⟩
 .cases z:j7 hp a with
  |none=>rw[WS z];exact e.fh _ _ q
  |some d=>rw[t.free z] at q;exact J5 q
 .cases z:j7 hp a with
  |none=>rw[WS z];exact e.hh _ _ q
  |some d=>rw[(t.obj a d z).2.1] at q;exact J5 q
end
section
variable {X:Cx}{pos:Pos}
def V7 (a:YG->HP->Res (D×HP))(b:FA):qz:=λsd hp=>(b sd).bind λds=>a ds hp
end
abbrev FX:=SD->Res (D×SD)
section
variable {X:Cx}{E:XK}{m:Option Bool}{e o:Expr}{f:FX}{pos pos':Pos}
def u0 (i:Nat)(f:FX):FS:=λsd=>(f sd).bind λp=>.ok (.next (p.2.set i (some (.val p.1))))
@[simp]def bp (i)(f)(sd):u0 i f sd=(f sd).bind λp=>.ok (.next (p.2.set i (some (.val p.1)))):=rfl
end
def rJ:FS:=λ_=>.no
def uF {X:Cx}{E:XK}{m:Option Bool}{st:Stmt}:QS X E m st rJ:=λY s Z H T I ⟨B,F,sd,r,n⟩=>n.elim
section
variable {X:Cx}{E:XK}{e:Expr}{g:qz}{fe:FE}{sts:List Stmt}
def wC (i:Nat)(g:qz):qz:=λsd hp=>g (jW [i] sd) hp
def T2 (h:yG X E sts g):yG X E sts (wC i g):=qK.weak h λT Z H ⟨B,b,F,sd,hp,t,n⟩=>have ⟨c,s,r⟩:=t.rs.frz [i];⟨B,b,c,_,hp,t.go s r,(n).mono (λp q v f a j l m o u w=>q v f a j l m (s.trans o) u w) λ_ _ q=>q⟩
def wy:D->D->YH:=λd e=>match d with
 | .dct _ _=>none
 | .dcf _ _=>none
 |d=>j6 d e
def kE:yN X (wY X.K wy):=FP
def bV (is:Yj)(f:FE):qz:=λsd hp=>(f (derI hp is sd)).strict.bind λd=>if K7 d then .ok (d,hp) else .no
end
section
variable {X:Cx}{E:XK}{m:Option Bool}{e o i:Expr}{es:Ym}{f2 g2:qz}{f3:FX3}{f:FX}{fr2:xS}{pos pos':Pos}
def rR (z:D)(q:D×HP):Res (D×HP):=match z with
 | .adr a=>match j7 q.2 a with
  |some (.lst es)=>(Res.ofO (j6 (.lst es) q.1)).bind λz=>.ok (z,q.2)
  |_=>.no
 |_=>.no
def vK (a b:qz):qz:=λsd hp=>(a sd hp).bind λp=>(b sd p.2).bind (rR p.1)
def T3 (a:YG->HP->Res (D×HP))(b:xS):qz:=λsd hp=>(b sd hp).bind λp=>a p.1 p.2
end
open Classical in
def yf (n:Nat)(g:Yl->Res Out):Res Out:=if h:∃o,∀a,a.length=n->g a=.ok o then .ok (Classical.choose h) else .no
def HU (h:∀a,a.length=n->g a=.ok o):yf n g=.ok o:=by
 have b:∃o,∀a,a.length=n->g a=.ok o:=⟨o,h⟩;unfold yf;have c:(List.replicate n (0:Addr)).length=n:=List.length_replicate
 grind
def capO (cap:List (Option Nat))(k:Nat)(sd:SD):SD:=match (cap[k]?).join with
 |some j=>match sd[j]? with
  |some (some (.own false d))=>(jY cap sd).set k (some (.own false d))
  |_=>jY cap sd
 |none=>jY cap sd
def T4 {cap:List (Option Nat)}{sd:SD}{i:Nat}{x:SV}(q:(jY cap sd)[i]? = some (some x)):∃d,x=.val d:=by
 unfold jY at q;rw[Zv] at q;cases a:cap[i]? with
 |none=>simp_all
 |some o =>
  rw[a] at q;cases o with
  |none=>cases q
  |some j =>
   grind
theorem RS.capO {K:W.Frag}{B:Bs}{F H:Hp}{sd:SD}{Z: St}(cap)(k)(r:RS K B F H sd Z):RS K B F H (capO cap k sd) (KH cap Z):=by
 unfold L2.DL.capO
 split
 .rename_i j a
  split
  .rename_i d f;obtain⟨l,g,h,m,n,_⟩:=r.own f;have s:(KH cap Z)[k]? = some (some (.ref l)):=by
    unfold KH;rw[Zv];cases b:cap[k]? with
    |none=>rw[b] at a;exact J5 a
    |some o =>
     rw[b] at a;have a:o=some j:=a;subst a;show some (Option.bind (some j) λj=>(Z[j]?).join)=_;rw[Option.bind_some,g];rfl
   have c:=(r.cap cap).setOwn (i:=k) (d:=d) (l:=l) h m n λi p e q=>by
    obtain⟨t,z⟩:=T4 q;cases z
   rw[HM s] at c;exact c
  .exact r.cap cap
 .exact r.cap cap
def YY (cap:List (Option Nat))(k:Nat)(it:FA)(tg:Tg)(f:FE):FE:=λsd=>(it sd).bind λds=>if Ux (capO cap k sd) tg=true/\ds.length<sizeLine then(ya (λx=>(JO tg x (capO cap k sd)).bind f) ds).bind λys=>.ok (.lst ys) else .no
def T5 {K:W.Frag}{E:XK}{t:Tg}{z:FA}{f:FE}{cap:List (Option Nat)}{c:Nat}{Z: St}{H:Hp}{Q:VK}(l:vk K E (YY cap c z t f) Z H Q):Xe cap (fU K E z) (gT t K) (tD K E f) Z H Q:=by
 obtain⟨B,F,sd,r,n⟩:=l;refine⟨B,F,sd,r,(ja n).mono (λds m J A G j wk=>?_) λ_ _ q=>q⟩
 split at m
 .rename_i l;obtain⟨I,hz⟩:=l;refine⟨λi k ys Z b=>k=ds.length-i/\i<=ds.length/\∃a es,Ext A G a b/\RS K B a b (capO cap c sd) Z /\ jd K a es ys/\es.length=i /\
   (ya (λx=>(JO t x (capO cap c sd)).bind f) (ds.drop i)).need (λrs=>xL K a b Q (.lst (es++rs))) (XW K E a b),⟨ds.length,rfl,Ua _,A,[],.refl j.fh,(r.step j).capO cap c,.nil,rfl,?_⟩,?_⟩
  .exact(ja m).mono (λrs q=>(q).ext j) λ_ _ q=>q.ext j
  rintro i k ys Z2 b ⟨rfl,hi,a,es,o,p,s,hl,u⟩;have ly:=s.length;refine⟨(),?_⟩;obtain⟨L,M⟩:=wk i a b o.ff o.fh;by_cases g:i<ds.length
  .obtain⟨go,N⟩:=L g;refine .inr ⟨go,λx O y=>?_⟩;obtain⟨d,P,R,e,S⟩:=N x O y;have T:=FC R u;refine Y2 (p.step e) S (ja T) λsd' Z' U X C=>?_;obtain⟨Y,b2⟩:=Cw I X;refine⟨B,P,sd',C,U.mono (λy n5 v F4 H4 h i4=>⟨ds.length-(i+1),(),rfl,g,F4,es++[y],(o.trans e).trans h,(C.step h).forget Y b2,(jd.same (e.ff.trans h.ff) _ _ s).snoc i4,(),n5.mono (λrs q=>?_) λ_ _ q=>q.ext (e.trans h)⟩) λ_ _ q=>q.ext e⟩;rw[Uh];exact q.ext (e.trans h)
  .have he:i=ds.length:=()
   subst he;refine .inl ⟨M (Zf _),λD w=>?_⟩;rw[Vb] at u;have q:xL K a b Q (.lst (es++[])):=u;rw[ZB] at q;exact q D a _ (.keep p.ext.fh w _) w (Qj p.ext.fh w) ⟨ys,JL,s⟩
 .exact m.elim
section
variable {X:Cx}{E:XK}{m:Option Bool}{tg iter elt c:Expr}{scope:Scope}{pos spos py:Pos}{y:Str}{iy:Nat}{t:Tg}{fi:FA}{f:FE}
def T6 (N)(cap)(c)(a:X.N.Nodup)(b:X.N[iy]? = some y)(e:yM X.env.scope y)(o:X.calm=true)(g:QJ scope X.env N X.N cap=true)(p:QI X E tg iter fi)
 (r:∀i C s H j,QG (JJ X scope N i C s H j) tg t) (u:∀i C s H j,QE (JJ X scope N i C s H j) E elt f) (l:swapsWith (.ListComp elt [⟨tg,iter,[],0⟩] scope pos) (some (.Name y py)) spos.line X.env=pure true:=by rfl)
 (n:X.fn y=true\/X.env.scope.names.lookup y=some .local:=by trivial) (hs:∀x,foldedSetIterable iter X.env x=pure x:=by intro _;rfl):
 QS X E m (.Assign [.Name y py] (.ListComp elt [⟨tg,iter,[],0⟩] scope pos) spos) (jy iy (YY cap c fi t f)):=
 PS.weak (CF l a b e n N cap o g p r u hs) λT Z H h=>CG (λ_ _ _ q=>T5 q) h
end
@[simp]def gS (cap)(k)(it)(tg)(f)(sd):YY cap k it tg f sd=(it sd).bind λds=>if Ux (capO cap k sd) tg=true/\ds.length<sizeLine then(jQ tg f (capO cap k sd) ds).bind λys=>.ok (.lst ys) else .no:=rfl
def Kp (K:W.Frag)(c:YG->HP->Res (D×HP)):Sp:=λe H Q E=>∃F ds hp,jk F H/\jd K F ds e/\wL K F H hp/\(c ds hp).need (λp=>∀v a b,ExtW K F H hp a b p.2->jg K a p.1 v->Q v b) (XW K E F (yV H hp))
section
variable {P:Program}{w:World}{K:W.Frag}{mg:Ye}{base:Heap}{x qual:Str}{st:Stmt}{f:Addr}{fd:FuncData}{N ps:Yk}{k:Nat}
def HV (F:Fun K x qual st f fd)(S:FnScope N ps (JU st))
 (B:∀c A b s H E,Room k (A.deeper (envOfC qual (JU st) s.heap.objs.size f c))->qK (jX (x8 P w) P w K mg base N qual (JU st) f c A b s H E) (QQ st) (HR K E g)):
 FnOk P w K mg base (x8 P w) (k+1) f fd ps (Kp K (Kx N.length ps.length g)):=by
 refine F.okX S (λr H Q E ⟨F,ds,hp,_,i,_,n⟩=>?_) λc A b s H r Q E C ⟨F,ds,hp,hs,i,u,n⟩=>⟨_,B c A b s H E C,?_⟩
 .unfold Kx at n
  split at n
  .rw[i.length];lia
  .exact n.elim
 .unfold Kx at n
  split at n
  .have t:RT K ⟨F,yV H hp,λ_=>none⟩ ⟨F,H,λ_=>none⟩ F H (Qf N.length ds) hp (L2.start N r):=⟨RS.start hs i,rfl,rfl,λa h=>(WS h).symm,λa d h=>⟨(u a d h).1,T1 h,(u a d h).2⟩⟩;refine⟨_,_,F,_,hp,t,(ja n).mono (λp l v T sd' U G I J j L=>?_) λ_ _ q=>q⟩
   split at l
   .rename_i M;have m:∀a,j7 p.2 a=none↔j7 hp a=none:=λa=>by rw[Dp,Dp,M]
    have e:=j.ext0 j.rs.ext;refine l v G I ⟨J,j.rs.ext.fh,λa o h q=>e.hh a o ((WS h).trans q),λa O R=>?_,j.lent,m⟩ L;cases z:j7 hp a with
    |none=>exact e.new a O λy=>R ((WS z).symm.trans y)
    |some d =>
     cases y:j7 p.2 a with
     |none=>simp_all
     |some X=>exact j.free y
   .exact l.elim
  .exact n.elim
end
section
variable {X:Cx}{E:XK}{m:Option Bool}{e o i c:Expr}{es:Ym}{fe fo fi:FE}{fr:FA}{f2 g2:qz}{fr2:xS}{ft:FT}{pos pos' p:Pos}{name:Str}{k:Nat}{ps:Yk}
def HW (c:xV X.prog X.w X.K X.mg X.base name k ps (Kp X.K Fn))(T:Thrown X E)(h:Room k X.A)(j:Gl X name)(l:QA X E (e::es) fr)
 (b:(name == ("__debug__" : Str))=false:=by decide) (r:starEach (e::es) X.env=(false,eval e X.env)::starEach es X.env:=by rfl) (f:(backTo pos (starEach es X.env)).any (·.1)=false:=by rfl):
 zP X E (.Call (.Name name p) (e::es) [] pos) (V7 Fn fr):=PE.weak (YT c T h j l b r f) λZ H Q s=>by
 obtain⟨B,u,F,sd,hp,t,n⟩:=s;refine⟨u,F,sd,t.rs,(ja n).mono (λds x y z A a C=>?_) λ_ _ q=>q.ext (t.ext0 t.rs.ext)⟩;have g:=t.go a.ff (t.rs.step a);show Kp X.K Fn (y++[]) A Q E;rw[ZB];refine⟨z,ds,hp,a.fh,C,g.lent,x.mono (λp G v I J w i=>?_) λ_ _ q=>q.ext g.hidden⟩;obtain⟨K,L⟩:=g.call w;exact G v K I J (a.ff.trans w.ff) L i
def AY (a:YG->Res D)(fr:xS):qz:=λsd hp=>(fr sd hp).bind λp=>(a p.1).bind λd=>.ok (d,p.2)
def T7 (c:xV X.prog X.w X.K X.mg X.base name k ps (x5 X.K Fn))(T:Thrown X E)(h:Room k X.A)(j:Gl X name)(l:wK X E (e::es) fr2)
 (b:(name == ("__debug__" : Str))=false:=by decide) (r:starEach (e::es) X.env=(false,eval e X.env)::starEach es X.env:=by rfl) (f:(backTo pos (starEach es X.env)).any (·.1)=false:=by rfl):
 zP X E (.Call (.Name name p) (e::es) [] pos) (AY Fn fr2):=PE.weak (YT c T h j l b r f) λZ H Q s=>by
 obtain⟨B,u,F,sd,hp,t,n⟩:=s;refine⟨B,u,F,sd,hp,t,(ja n).mono (λp w x y z A C a G=>?_) λ_ _ q=>q⟩;show x5 X.K Fn (x++[]) A Q E;rw[ZB];exact⟨z,p.1,a.rs.ext.fh,G,(ja w).mono (λd I v J K g L=>I v y J K (C.trans g.ff) (a.go g.ff (a.rs.step g)) L) λ_ _ q=>q.ext (a.ext0 a.rs.ext)⟩
def z9 (f:FT):zu:=λsd hp=>(f sd).bind λb=>.ok (b,hp)
def HX (h:QT X E e ft):fF X E e (z9 ft):=PT.weak h λZ H Q ⟨B,f,F,sd,hp,t,n⟩=>⟨f,F,sd,t.rs,(ja n).mono (λb g j l a=>g f j l a.ff (t.go a.ff (t.rs.step a))) λ_ _ q=>q.ext (t.ext0 t.rs.ext)⟩
def wp (is:Yj)(f:FT):v9:=λsd hp=>(f (derI hp is sd)).strict
def T8 (is)(h:QT X E e ft):sv X E e (wp is ft):=PT.weak h λZ H Q ⟨B,r,F,sd,hp,t,n⟩=>have ⟨a,s,b,f⟩:=t.frz;⟨B,a,_,b.derI f is,(jO (n)).mono (λd g u j l=>(g F j (.grow t.rs.ext.fh l.hh))) λc fs q=>q⟩
def zA (fo fi:FE):qz:=λsd hp=>(fo sd).bind λo=>match o with
 | .adr a=>match j7 hp a with
  |some (.dct ks ds)=>(fi sd).bind λk=>(Res.ofO ((QC k).bind λq=>jG ks ds q)).bind λz=>.ok (z,hp)
  |_=>.no
 |_=>.no
def T9 (r:X.A.units+1<cLine)(s:QE X E o fo)(u:QE X E i fi)(hs:zQ i):zP X E (.Subscript o i pos) (zA fo fi):=PE.weak (BR r s u hs) λZ H Q A=>by
 obtain⟨B,g,F,sd,hp,t,n⟩:=A;refine⟨g,F,sd,t.rs,(ja n).mono (λd b v C T h G=>?_) λ_ _ q=>q.ext (t.ext0 t.rs.ext)⟩
 split at b
 .rename_i a;obtain rfl:=qb.mp G
  split at b
  .rename_i ks ds I;have f:=t.go h.ff (t.rs.step h);refine⟨g,C,sd,f.rs,(ja b).mono (λy J w K L j M=>?_) λ_ _ q=>q.ext (t.ext0 f.rs.ext)⟩;have l:=f.go j.ff (f.rs.step j);have ⟨U,N,O,P⟩:=l.lies I;have ⟨z,hz,q⟩:=jh (ja J);have ⟨k,R,hz⟩:=Jg.mp hz;have ⟨x,S,ix⟩:=(Xq k O P).1 z hz;refine⟨a,x,rfl,?_,q x g K L (h.ff.trans j.ff) l ix⟩;rw[WL R M,<- S];exact C7 (.inl N)
  .exact b.elim
 .exact b.elim
def HY (fo b:FE)(sd:SD)(p:D×HP):Res Out2:=(fo sd).bind λo=>match o with
 | .adr a=>match j7 p.2 a with
  |some (.dct ks ds)=>(b sd).bind λk=>match QC k with
   |some q=>if ks.length<sizeLine then .ok (.next sd (X0 p.2 a (.dct (V0 ks q) (Wl ks ds q p.1)))) else .no
   |none=>.no
  |_=>.no
 |_=>.no
def AZ (fo a:FE)(b:qz):qQ:=λsd hp=>(b sd hp).bind (HY fo a sd)
def TC (x:X.A.units+1<cLine)(y:QE X E o fo)(z:QE X E i fi)(A:zP X E e f2)(hs:swapsWith e (some (.Subscript o i pos')) pos.line X.env=pure false:=by rfl):
 ve X E m (.Assign [.Subscript o i pos'] e pos) (AZ fo fi f2):=PS.weak (Eu x y z A hs) λT Z H C=>by
 obtain⟨B,G,F,sd,hp,t,n⟩:=C;refine⟨B,G,F,sd,hp,t,(ja n).mono (λp I v r J H1 K b L=>⟨r,J,sd,b.rs,(ja I).mono (λd f v2 M H2 h N=>?_) λ_ _ q=>q.ext (b.ext0 b.rs.ext)⟩) λ_ _ q=>q⟩
 split at f
 .rename_i a;obtain rfl:=qb.mp N;have j:=b.go h.ff (b.rs.step h)
  split at f
  .rename_i ks ds s;refine⟨r,M,sd,j.rs,(ja f).mono (λk g w O H3 l P=>?_) λ_ _ q=>q.ext (b.ext0 j.rs.ext)⟩;have u:=j.go l.ff (j.rs.step l)
   split at g
   .rename_i q Q
    split at g
    .have ⟨xs,R,S,U⟩:=u.lies s;obtain⟨ys,Y,y2,y3⟩:=FM S U (jg.same (h.ff.trans l.ff) _ _ L);exact⟨a,_,rfl,(by rw[WL Q P];exact zv.k R ()),g Z _ O _ ((K.trans h.ff).trans l.ff) (u.chg s ⟨ys,by rw[JL,Y],y2,y3⟩)⟩
    .exact g.elim
   .exact g.elim
  .exact f.elim
 .exact f.elim
end
def wo (K:W.Frag)(E:XK)(e:FA)(d0:D):TA:=λZ H Q=>∃B F sd,RS K B F H sd Z /\ (e sd).need (λds=>∀c l a b,Ext F H a b->jd K a ds c->H l=none->a l=none->yy K a b l d0->Q (c++[.ref l]) b) (XW K E F H)
open Classical in
def zM (g:Addr->Res D):Res D:=if h:∃r,∀a,g a=r then Classical.choose h else .no
def TD (h:∀a,g a=r):zM g=r:=by
 have b:∃r,∀a,g a=r:=⟨r,h⟩;unfold zM;rw[dif_pos b];exact(Classical.choose_spec b 0).symm.trans (h 0)
def TF (h:(zM g).need p q)(a):(g a).need p q:=by
 unfold zM at h
 split at h
 .grind
 .exact h.elim
def Dq (a:YG->HP->Res (D×HP))(d0:D)(b:FA):FE:=λsd=>(b sd).bind λds=>zM λl=>(a (ds++[.adr l]) [(l,d0)]).bind λp=>.ok p.1
section
variable {X:Cx}{E:XK}{e:Expr}{es:Ym}{fe:FE}{fr:FA}{d0:D}{pos p:Pos}{name:Str}{k:Nat}{ps:Yk}
def TH (h:QN X E e (dC d0))(hs:starEach [e] X.env=(false,eval e X.env)::starEach [] X.env:=by rfl):PA X [e] (wo X.K E jc d0):=PA.weak (KS h W0 hs) λZ H Q ⟨B,F,sd,r,n⟩=>⟨B,F,sd,r,λl a b e c f g=>(n) [] l a b e rfl c f g⟩
def Dr (c:QE X E e fe)(f:PA X es (wo X.K E fr d0))(hs:starEach (e::es) X.env=(false,eval e X.env)::starEach es X.env:=by rfl):PA X (e::es) (wo X.K E (J0 fe fr) d0):=PA.weak (KS c f hs) λZ H Q ⟨B,F,sd,r,n⟩=>⟨B,F,sd,r,(ja n).mono (λx g v h z a i=>⟨B,h,sd,r.step a,(ja g).mono (λA j m l o s b t u w y=>(j (v::m) l o s (a.trans b) (.mk (jg.same b.ff _ _ i) t) (Qj a.hh u) w y)) λ_ _ q=>q.ext a⟩) λ_ _ q=>q⟩
def uJ (c:xV X.prog X.w X.K X.mg X.base name k ps (Kp X.K Fn))(T:Thrown X E)(s:Room k X.A)(t:Gl X name)(u:PA X (e::es) (wo X.K E fr d0))
 (f:(name == ("__debug__" : Str))=false:=by decide) (x:starEach (e::es) X.env=(false,eval e X.env)::starEach es X.env:=by rfl) (g:(backTo pos (starEach es X.env)).any (·.1)=false:=by rfl):
 QE X E (.Call (.Name name p) (e::es) [] pos) (Dq Fn d0 fr):=PE.weak (YT c T s t u f x g) λZ H Q A=>by
 obtain⟨B,F,sd,r,n⟩:=A;refine⟨B,F,sd,r,(ja n).mono (λds C G l h j b I O P R=>?_) λ_ _ q=>q⟩;show Kp X.K Fn ((G++[.ref l])++[]) j Q E;rw[ZB];have at_:∀{a:Addr},a≠l->j7 [(l,d0)] a=none:=λz=>by rw[WR,Ze z];rfl
 have ne:∀a o,H a=some o->a≠l:=by grind
 have J:wL X.K h j [(l,d0)]:=λa d q=>by
  simp_all [WR]
 refine⟨h,ds++[.adr l],[(l,d0)],b.fh,I.snoc (qb.mpr rfl),J,(ja (TF C l)).mono (λp K v L M w i=>?_) λc fs q=>?_⟩
 .refine K v L M ⟨b.ff.trans w.ff,w.fh,λa o q=>w.hh a o (at_ (ne a o q)) (b.hh a o q),λa N m=>(w.new a (b.new a N m) λz=>?_)⟩ i;cases y:H a with
  |none=>exact m y
  |some o=>rw[b.hh a o y] at z;cases z
 .refine q.ext ⟨b.ff,λa o y=>?_,λa o y=>?_,b.new⟩
  .have na:a≠l:=by grind
   rw[WS (at_ na)];exact b.fh a o y
  .rw[WS (at_ (ne a o y))];exact b.hh a o y
end
def TJ {P:Program}{w:World}{K:W.Frag}{mg:Ye}{a:Heap}{f:Addr}{b:FuncData}{ps:Yk}{k:Nat}:FnOk P w K mg a (x8 P w) k f b ps (Kp K λ_ _=>.no):=⟨λ_ _ _ _ ⟨_,_,_,_,_,_,n⟩=>n.elim,λ_ _ _ _ _ _ _ _ _ _ _ _ _ ⟨_,_,_,_,_,_,n⟩=>n.elim⟩
structure Ev where
 P:Program
 w:World
 K:W.Frag
 mg:Ye
 base:Heap
 C:Nat->Addr
 t:Nat->Tok
abbrev Ca (e:Ev):=z7 e.P e.w e.K e.mg e.base
abbrev yO (e:Ev):=xV e.P e.w e.K e.mg e.base
def vG (K:W.Frag)(T:Nat->Stmt):List (Str×Nat)->Prop
 | []=>True
 |p::r=>wT K p.1 (T p.2)/\vG K T r
def Nn (K:W.Frag):Yk->Prop
 | []=>True
 |x::r=>W.nsIn K mainGlobals x=some none/\Nn K r
def dfs_cons {K:W.Frag}{T:Nat->Stmt}{x:Str}{i:Nat}{r:List (Str×Nat)}(h:wT K x (T i))(q:vG K T r):vG K T ((x,i)::r):=⟨h,q⟩
def nn_cons {K:W.Frag}{x:Str}{r:Yk}(h:W.nsIn K mainGlobals x=some none)(q:Nn K r):Nn K (x::r):=⟨h,q⟩
theorem Ds {K:W.Frag}{T:Nat->Stmt}:∀{l:List (Str×Nat)} {j:Nat} {p:Str×Nat},vG K T l->l[j]? = some p->wT K p.1 (T p.2)
 | [],j,p,_,h=>by simp at h
 |q::r,0,p,d,h=>by
  obtain rfl:=by simpa using h
  exact d.1
 |q::r,j+1,p,d,h=>Ds d.2 (by simpa using h)
theorem HZ {K:W.Frag}{h:Heap}{mg:Ye}(X:K.In h)(G:h.Ns mainGlobals mg):∀{l:Yk},Nn K l->∀x∈l,mg x=none
 | [],_,x,q=>by simp at q
 |y::r,d,x,q=>by
  rcases Uq.mp q with z|z
  .rw[z];exact W.mg_none_of X G d.1
  .exact HZ X G d.2 x z
abbrev s0 (mg:Ye)(bl:Yk):Prop:=∀x∈bl,mg x=none
def JA {mg:Ye}{bl:Yk}{x:Str}(m:s0 mg bl)(h:x∈bl:=by decide):mg x=none:=m x h
structure Al (e:Ev)(T:Nat->Stmt)(tbl:List (Str×Nat))(bl:Yk):Prop where
 h:∃h,e.K.In h/\h.Ns mainGlobals e.mg
 d:vG e.K T tbl
 m:s0 e.mg bl
section
variable {e:Ev}{T:Nat->Stmt}{tbl:List (Str×Nat)}{bl:Yk}{x:Str}{k:Nat}{ps:Yk}{sp:Sp}
abbrev Ia (x:Str)(st:Stmt)(ps:Yk):Prop:=∀(kV doc pm:Value) (an:Option Addr) (cdv ct:Value) (us:Yf),us.length=ps.length->bindArgs (W.fnOf x x (W3 st) (QQ st) (JU st) .none kV doc pm an cdv ct) ⟨us,[]⟩=pure (ps.zip us)
def qU (a:Al e T tbl bl)(j i:Nat)(ok:∀{f:Addr} {b:FuncData},Fun e.K x x (T i) f b->FnOk e.P e.w e.K e.mg e.base yj k f b ps sp)(h:tbl[j]? = some (x,i):=by rfl)
 (c:Ia x (T i) ps:=by intro _ _ _ _ _ _;first|exact bX λ_ _=>rfl|exact r0 λ_ _ _=>rfl|exact r8 λ_=>rfl|exact bW λ_ _ _ _=>rfl|exact cy λ_ _ _ _ _=>rfl|exact g λ_ _ _ _ _ _=>rfl):Ca e x k ps sp:=by
 obtain⟨_,X,G⟩:=a.h;exact(Ds a.d h).callee X G ok c
def xP (a:Al e T tbl bl)(j i:Nat)(ok:∀{f:Addr} {b:FuncData},Fun e.K x x (T i) f b->FnOk e.P e.w e.K e.mg e.base (x8 e.P e.w) k f b ps sp)(h:tbl[j]? = some (x,i):=by rfl)
 (c:autoParam (Ia x (T i) ps) qU._auto_2):yO e x k ps sp:=by
 obtain⟨_,X,G⟩:=a.h;exact(Ds a.d h).calleeX X G ok c
end
def j5 {X:Cx}(h:X.N.Nodup:=by dsimp only[JJ,jX,Cx.nox];decide +kernel):X.N.Nodup:=h
def qv {X:Cx}{E:XK}(i:Nat){x:Str}{a:Pos}(c:X.N[i]? = some x:=by rfl)(e:autoParam (bJ X.env.scope x) pv._auto_2)(f:(x == ("__debug__" : Str))=false:=by decide)(b:(x == ("__classdict__" : Str))=false:=by decide):QE X E (.Name x a) (jb i):=uG (pv i c e f b)
section
variable {K:W.Frag}{B B':Bs}{F H F' H':Hp}{sd:SD}{hp hp':HP}{Z: St}
def Wt:Nat->D->Bool
 |n+1,.tup ds=>ds.all (Wt n)
 |_,d=>K7 d
theorem xC {g:D->Bool}(h:∀d v,g d=true->jg K F d v->jg K F' d v):∀{ds:YG} {a:YE},ds.all g=true->jd K F ds a->jd K F' ds a
 | [],_,_,i=>i
 |d::ds,a,s,i=>by
  obtain⟨x,r,b,c,e⟩:=jp.mp i;rw[UH,Ue] at s;exact jp.mpr ⟨x,r,b,h d x s.1 c,xC h s.2 e⟩
theorem yI (c:∀a b,F a=some (.tup b)->F' a=some (.tup b)):∀(n:Nat) (d:D) (v:V),Wt n d=true->jg K F d v->jg K F' d v
 | 0,d,v,s,h=>h.scal (by cases d<;>exact s)
 |n+1,d,v,s,h=>by
  cases d with
  |tup ds =>
   obtain⟨a,b,e,f,g⟩:=j0.mp h;exact j0.mpr ⟨a,b,e,.of (c a b f),xC (yI c n) s g⟩
  |_=>exact h.scal s
end
@[simp]def Ib (n:Nat)(i:Str):Wt n (.str i)=true:=by cases n<;>rfl
def Ba (is:Yj)(f:FE):FE:=λsd=>(f (jW is sd)).bare.bind λd=>if Wt 8 d then .ok d else .no
@[simp]def bo (is:Yj)(f:FE)(sd:SD):Ba is f sd=(f (jW is sd)).bare.bind λd=>if Wt 8 d then .ok d else .no:=rfl
section
variable {X:Cx}
def TK {e:Expr}{i:FE}(is:Yj)(h:QE X E0 e i):QE X E0 e (Ba is i):=PE.weak h λZ H Q l=>by
 obtain⟨B,F,sd,r,n⟩:=l;obtain⟨j,m,p,s⟩:=r.frzC is;refine⟨B,j,_,s,(qV r.ext.fh (ja n)).mono (λd f v t w g x=>?_) λc fs q=>q⟩
 split at f
 .rename_i hs;refine f v (Xz F H t) w (Tb r.ext.fh m g) (yI (λa y b=>?_) 8 d v hs x);unfold Xz;cases h:H a with
  |none=>rw[b]
  |some o =>
   show F a=some (.tup y);cases q:j a with
   |none=>rw[g.new a q (by rw[h];simp)] at b;exact J5 b
   |some u =>
    have:=g.ff _ _ q;rw[b] at this;obtain rfl:=Zqi this;exact p _ _ q
 .exact f.elim
end
end L2.DL
namespace L2
section
variable {X:Cx}
def TL {i k1 k2:Nat}{y f g:Str}{G J:Yk}{o r:Sp}{tg tr:TA}{e:Expr}{es rest:Ym}{p l py c a j m:Pos}
 (hN:X.N.Nodup) (hi:X.N[i]? = some y) (hx:yM X.env.scope y) (cf:xV X.prog X.w X.K X.mg X.base f k1 G o) (cg:xV X.prog X.w X.K X.mg X.base g k2 J r) (K:Room k1 X.A) (L:Room k2 X.A) (M:Gl X f) (N:Gl X g) (O:PA X.nox (e::es) tg) (P:PA X.nox rest tr)
 (Q:(f == ("__debug__" : Str))=false:=by decide) (R:(g == ("__debug__" : Str))=false:=by decide) (he:starEach (e::es) X.env=(false,eval e X.env)::starEach es X.env:=by rfl) (S:(backTo a (starEach es X.env)).any (·.1)=false:=by rfl)
 (t:starEach (.List [.Call (.Name g l) (e::es) [] a] j::rest) X.env=(false,eval (.List [.Call (.Name g l) (e::es) [] a] j) X.env)::starEach rest X.env:=by rfl)
 (T:starEach [.Call (.Name g l) (e::es) [] a] X.env=[(false,eval (.Call (.Name g l) (e::es) [] a) X.env)]:=by rfl) (w:(backTo c (starEach rest X.env)).any (·.1)=false:=by rfl)
 (U:swapsWith (.Call (.Name f p) (.List [.Call (.Name g l) (e::es) [] a] j::rest) [] c) (some (.Name y py)) m.line X.env=pure false:=by rfl) (hf:X.fn y=true\/X.env.scope.names.lookup y=some .local:=by trivial):
 PB X [.Assign [.Name y py] (.Call (.Name f p) (.List [.Call (.Name g l) (e::es) [] a] j::rest) [] c) m]
  (λD E Z H=>tg Z H λvs H1=>r vs H1 (λv A=>∀q,A q=none->tr Z (upd A q (.lst [v])) λws H3=>o (.ref q::ws) H3 (λz B=>D.nx (Z.set i (some z)) B) E) E):=by
 intro Y s Z H D E I h;have ev:YI X (eval (.Call (.Name f p) (.List [.Call (.Name g l) (e::es) [] a] j::rest) [] c) X.env) (EP X Y Z λz B=>D.nx (Z.set i (some z)) B) (YV X Y Z E) s:=by
  obtain⟨fa,fd,F,b,hk,hm⟩:=cf;refine wpAny_Call_Name_kw (Xa I M hm ?_ Q);refine W.callWith_K (h₀:=X.base) I.ok.mod.kin hk ?_ t w;rw[t];show wpAny _ _ (spliced ((false,eval (.List [.Call (.Name g l) (e::es) [] a] j) X.env)::backTo c (starEach rest X.env))) _ _ s;refine Calls.spliced_cons (wpAny_List_spliced ?_);rw[T];show wpAny _ _ (spliced [(false,eval (.Call (.Name g l) (e::es) [] a) X.env)]) _ _ s;refine Calls.spliced_cons (jH (SQ cg L N O R he S I h) λu n ⟨x,A,C,r2,q2⟩=>Calls.spliced_nil ⟨QK (by show 1<=1000;lia),?_⟩);have hfr:A n.heap.objs.size=none:=C.hok.fresh (Zf _);have I3:Inv X Y Z (upd A n.heap.objs.size (.lst [x])) { n with heap:=n.heap.push { cls:=.type "list",data:=.seq [u].toArray } }:=C.laid (t':=n.toks) (λb u e=>Zq _ e) (Zf _) ⟨QK (by show 1<=1000;lia),[u],0,.cons r2 .nil,Zr _ rfl⟩;refine Zc (P c Y _ Z _ _ (I3.wish _) (q2 _ hfr)) (λus s4 ⟨ws,B,I4,r4,q4⟩=>⟨I4.kIn,?_⟩) λ_ _ z=>z.elim;exact Hy F K b I4.unwish (.cons (show js (.ref n.heap.objs.size) (Value.ref n.heap.objs.size) from rfl) r4) q4
 refine wpAny_execs_cons (wpAny_Assign_Name (Zc ev (λv s1 q=>?_) λe s1 fl=>fl) U);obtain⟨z,H1,I1,r1,q1⟩:=q;exact ZT I1 hN hi hx r1 (λn C=>wpAny_execs_nil ⟨_,H1,C,q1⟩) hf
end
end L2
namespace L2.DL
def Bb (a b:YG->Res D)(c e:FA):FE:=λsd=>(c sd).strict.bind λds=>(b ds).bind λd=>(e sd).strict.bind λrs=>a (.lst [d]::rs)
@[simp]def bw (a b:YG->Res D)(c e:FA)(sd:SD):Bb a b c e sd=(c sd).strict.bind λds=>(b ds).bind λd=>(e sd).strict.bind λrs=>a (.lst [d]::rs):=rfl
section
variable {X:Cx}{m:Option Bool}
def TM {i k1 k2:Nat}{y f g:Str}{G I:Yk}{j x:YG->Res D}{J o:FA}{e:Expr}{es rest:Ym}{p l py c a b h:Pos}
 (hN:X.N.Nodup) (hi:X.N[i]? = some y) (hx:yM X.env.scope y) (cf:xV X.prog X.w X.K X.mg X.base f k1 G (x5 X.K j)) (cg:xV X.prog X.w X.K X.mg X.base g k2 I (x5 X.K x)) (K:Room k1 X.A) (L:Room k2 X.A) (M:Gl X f) (N:Gl X g) (O:QA X.nox E0 (e::es) J) (P:QA X.nox E0 rest o)
 (Q:(f == ("__debug__" : Str))=false:=by decide) (R:(g == ("__debug__" : Str))=false:=by decide) (he:starEach (e::es) X.env=(false,eval e X.env)::starEach es X.env:=by rfl) (S:(backTo a (starEach es X.env)).any (·.1)=false:=by rfl)
 (U:starEach (.List [.Call (.Name g l) (e::es) [] a] b::rest) X.env=(false,eval (.List [.Call (.Name g l) (e::es) [] a] b) X.env)::starEach rest X.env:=by rfl)
 (Y:starEach [.Call (.Name g l) (e::es) [] a] X.env=[(false,eval (.Call (.Name g l) (e::es) [] a) X.env)]:=by rfl) (s:(backTo c (starEach rest X.env)).any (·.1)=false:=by rfl)
 (hsw:swapsWith (.Call (.Name f p) (.List [.Call (.Name g l) (e::es) [] a] b::rest) [] c) (some (.Name y py)) h.line X.env=pure false:=by rfl) (t:X.fn y=true\/X.env.scope.names.lookup y=some .local:=by trivial):
 QB X m [.Assign [.Name y py] (.Call (.Name f p) (.List [.Call (.Name g l) (e::es) [] a] b::rest) [] c) h] (jy i (Bb j x J o)):=
 PB.weak (TL hN hi hx cf cg K L M N O P Q R he S U Y s hsw t) λT E Z H zh=>by
  obtain⟨B,F,sd,r,n⟩:=zh;refine⟨B,F,sd,r,?_⟩;unfold jy Bb at n;cases t:J sd with
  |ex u fs=>rw[t] at n;exact n.elim
  |no=>rw[t] at n;exact n.elim
  |ok ds =>
   rw[t] at n;have n:(((x ds).bind λd=>(o sd).strict.bind λrs=>j (.lst [d]::rs)).bind λd=>Res.ok (Out.next (sd.set i (some (.val d))))).need (yX X.K m B F T) (XW X.K E F H):=n;show rg X.K F H _ ds;intro vs G1 H1 A i1;refine⟨G1,ds,A.fh,i1,?_⟩;cases hq:x ds with
   |no=>rw[hq] at n;exact n.elim
   |ex u fs =>
    rw[hq] at n;have n:XW X.K E F H u fs:=n;exact n.ext A
   |ok d =>
    rw[hq] at n;have n:(((o sd).strict.bind λrs=>j (.lst [d]::rs)).bind λd=>Res.ok (Out.next (sd.set i (some (.val d))))).need (yX X.K m B F T) (XW X.K E F H):=n;intro v G2 H2 e2 i2 q hq0;have ea:=qj e2.fh hq0 (.lst [v]);have r2:=((r.step A).step e2).step ea;refine⟨B,_,sd,r2,?_⟩;cases hz:o sd with
    |ex u fs=>rw[hz] at n;exact n.elim
    |no=>rw[hz] at n;exact n.elim
    |ok rs =>
     rw[hz] at n;have n:((j (.lst [d]::rs)).bind λd=>Res.ok (Out.next (sd.set i (some (.val d))))).need (yX X.K m B F T) (XW X.K E F H):=n;show rg X.K _ _ _ rs;intro ws G3 H3 C i3;refine⟨G3,.lst [d]::rs,C.fh,.mk (jg.same C.ff _ _ (jm.mpr ⟨q,[v],rfl,.of JL,.mk (jg.same ea.ff _ _ i2) .nil⟩)) i3,?_⟩;have et:=((A.trans e2).trans ea).trans C;cases hw:j (.lst [d]::rs) with
     |ok z =>
      rw[hw] at n;exact λw G4 H4 e4 i4=>n _ G4 H4 (et.ff.trans e4.ff) (((r2.step C).step e4).setVal i4)
     |no=>rw[hw] at n;exact n.elim
     |ex u fs =>
      rw[hw] at n;have n:XW X.K E F H u fs:=n;exact n.ext et
end
end L2.DL
set_option maxHeartbeats 4000000
namespace My
open PySem L2 L2.DL
@[simp high] def lA {α: Type}(b a:α)(l):(b::a::l)[1]? = some a:=rfl
@[simp high] def lu {α: Type}(a b v:α)(l):(a::b::l).set 1 v=a::v::l:=rfl
@[simp high] def l9 {α: Type}(b c a:α)(l):(b::c::a::l)[2]? = some a:=rfl
@[simp high] def ls {α: Type}(a b c v:α)(l):(a::b::c::l).set 2 v=a::b::v::l:=rfl
@[simp high] def l8 {α: Type}(b c e a:α)(l):(b::c::e::a::l)[3]? = some a:=rfl
@[simp high] def lq {α: Type}(a b c e v:α)(l):(a::b::c::e::l).set 3 v=a::b::c::v::l:=rfl
@[simp high] def l7 {α: Type}(b c e f a:α)(l):(b::c::e::f::a::l)[4]? = some a:=rfl
@[simp high] def ln {α: Type}(a b c e f v:α)(l):(a::b::c::e::f::l).set 4 v=a::b::c::e::v::l:=rfl
@[simp high] def l6 {α: Type}(b c e f g a:α)(l):(b::c::e::f::g::a::l)[5]? = some a:=rfl
@[simp high] def lm {α: Type}(a b c e f g v:α)(l):(a::b::c::e::f::g::l).set 5 v=a::b::c::e::f::v::l:=rfl
@[simp high] def l5 {α: Type}(b c e f g h a:α)(l):(b::c::e::f::g::h::a::l)[6]? = some a:=rfl
@[simp high] def lj {α: Type}(a b c e f g h v:α)(l):(a::b::c::e::f::g::h::l).set 6 v=a::b::c::e::f::g::v::l:=rfl
@[simp high] def l0 {α: Type}(b c e f g h i a:α)(l):(b::c::e::f::g::h::i::a::l)[7]? = some a:=rfl
@[simp high] def li {α: Type}(a b c e f g h i v:α)(l):(a::b::c::e::f::g::h::i::l).set 7 v=a::b::c::e::f::g::h::v::l:=rfl
@[simp high] def lz {α: Type}(b c e f g h i j a:α)(l):(b::c::e::f::g::h::i::j::a::l)[8]? = some a:=rfl
@[simp high] def lh {α: Type}(a b c e f g h i j v:α)(l):(a::b::c::e::f::g::h::i::j::l).set 8 v=a::b::c::e::f::g::h::i::v::l:=rfl
@[simp high] def lw {α: Type}(b c e f g h i j m a:α)(l):(b::c::e::f::g::h::i::j::m::a::l)[9]? = some a:=rfl
@[simp high] def lg {α: Type}(a b c e f g h i j m v:α)(l):(a::b::c::e::f::g::h::i::j::m::l).set 9 v=a::b::c::e::f::g::h::i::j::v::l:=rfl
@[simp high] def cK {α: Type}(b c e f g h i j m n a:α)(l):(b::c::e::f::g::h::i::j::m::n::a::l)[10]? = some a:=rfl
@[simp high] def cB {α: Type}(b c e f g h i j m n a v:α)(l):(b::c::e::f::g::h::i::j::m::n::a::l).set 10 v=b::c::e::f::g::h::i::j::m::n::v::l:=rfl
@[simp high] def cJ {α: Type}(c e f g h i j m n o b a:α)(l):(c::e::f::g::h::i::j::m::n::o::b::a::l)[11]? = some a:=rfl
@[simp high] def cA {α: Type}(c e f g h i j m n o a b v:α)(l):(c::e::f::g::h::i::j::m::n::o::a::b::l).set 11 v=c::e::f::g::h::i::j::m::n::o::a::v::l:=rfl
def j9 (hs:Yh)(t:Int):Int:=hs.getD t.toNat 0
def Ql (r:Jy)(hs:Yh):Int:=qC (r.map λp=>j9 hs p.1+p.2)
theorem Wu {α: Type}{l:List α}{k:Nat}(h:k<l.length):qh l (k:Int)=l[k]?:= by
 simp_all [qh,xJ]
def Dt {hs:Yh}{t:Int}(a:0<=t)(b:t<(hs.length:Int)):qh (hs.map D.int) t=some (.int (j9 hs t)):=by
 simp_all [xJ,qh,j9]
def QF {α: Type}{f:α -> D}{l:List α}{i:Nat}{x:D}(h:(l.map f)[i]? = some x):∃p,l[i]? = some p/\x=f p:=()
structure RowOk (n:Int)(r:Jy):Prop where
 ne:r ≠ []
 once:jB r
 mem:∀p∈r,0<=p.1/\p.1<n
 len:r.length<=12
def Ic {a:Jz}(h:∀r∈a,r ≠ [])(b:a.length<1000):Wp [.lst (a.map jq)]=some (.lst ((JQ j8 a).map jq)):=by
 show(Q3 Kv (a.map jq)).bind _=_
 simp_all [Cy]
def ji (f:Jz):D:=.lst (f.map jq)
def qk (all:Jz)(row:Jy):Bool:=(all.filter λone => !decide (one=row)&&JF one row).isEmpty
def X2 (all a:Jz)(row:Jy):Jz:=if qk all row=true/\row∉a then a++[row] else a
def Ie (all rs:Jz):Jz:=rs.foldl (X2 all) []
def JZ (rs:Jz):Jz:=JQ j8 (Ie rs rs)
theorem Bc (all:Jz):∀(rs a:Jz),(rs.foldl (X2 all) a).length<=a.length+rs.length/\(∀r,r∈rs.foldl (X2 all) a↔r∈a\/(r∈rs/\qk all r=true))/\(a.Nodup->(rs.foldl (X2 all) a).Nodup)
 | [],a=>by simp
 |row::rs,a=>by
  have ⟨b,c,e⟩:=Bc all rs (X2 all a row);unfold X2 at b c e ⊢
  grind
theorem xE {rs:Jz}{r:Jy}:r∈JZ rs↔r∈rs/\qk rs r=true:=by
 grind[JZ,Ie,Qz,Bc]
def J7 (f:Jz)(hs:Yh):Int:=xc (f.map λr=>Ql r hs)
@[simp]def kY (f):Qu [ji f]=some (ji f):=rfl
@[simp]def vP (f):Kf (ji f)=some (f.map jq):=rfl
@[simp]def vN (r):Kf (jq r)=some (r.map qd):=rfl
@[simp]def hU (f):jP [ji f]=some (.int f.length):=by show some (D.int (f.map jq).length)=_;rw[Zql]
@[simp]def pJ (f):jS [ji f,.ty "list"]=some (.bl true):=rfl
@[simp]def pY (f):jS [jq f,.ty "tuple"]=some (.bl true):=rfl
@[simp]def pX (p):jS [qd p,.ty "tuple"]=some (.bl true):=rfl
@[simp]def hQ (p):jP [qd p]=some (.int 2):=rfl
@[simp]def hY (p):j6 (qd p) (.int 0)=some (.int p.1):=rfl
@[simp]def hX (p):j6 (qd p) (.int 1)=some (.int p.2):=rfl
structure FormOk (n:Int)(f:Jz):Prop where
 ne:f ≠ []
 rows:∀r∈f,RowOk n r
 len:f.length<=100
def TN {l:Yh}(h:l ≠ [])(w:Int):xc (l.map (· + w))=xc l+w:=by
 obtain⟨a,b⟩:=Ac h;refine(BW () λy c=>?_).symm
 grind
def TQ {l:Yh}(h:l ≠ [])(w:Int):qC (l.map (· + w))=qC l+w:=by
 obtain⟨a,b⟩:=W5 h;refine(E8 () λy c=>?_).symm
 grind
def qI (r:Jy):Prop:=(r.map (·.1)).Pairwise (· < ·)
def Ig {r:Jy}(h:qI r):r.Pairwise λx y=>jV x y=true:=by
 unfold qI at h;rw[U0] at h;refine h.imp λ{a b} z=>?_
 simp_all [jV]
def yQ {r o:Jy}:JF r o=true↔∀p∈r,∃w,JB o p.1=some w/\p.2<=w:=by
 grind[JF,xX,List.all_eq_true]
theorem Kq {a b c:Jy}(e:JF a b=true)(f:JF b c=true):JF a c=true:=by
 rw[yQ] at *;intro p hp;obtain⟨w,g,h⟩:=e p hp;obtain⟨v,i,j⟩:=f _ (Qi g);exact⟨v,i,Int.le_trans h j⟩
def Ih {a b:Jy}(c:jB a)(e:JF a b=true)(f:JF b a=true):∀p∈a,p∈b:=by
 rw[yQ] at *;intro p hp;obtain⟨w,g,j⟩:=e p hp;have h:=Qi g;obtain⟨v,i,l⟩:=f _ h;rw[c.look hp] at i
 grind
theorem Ii {a b:Jy}(f:jB a)(g:jB b)(h:qI a)(i:qI b)(c:JF a b=true)(e:JF b a=true):a=b:=
 W9 we (Ig h) (Ig i) λp=>⟨Ih f c e p,Ih g e c p⟩
theorem Du:∀{rs:Jz},rs ≠ []->(∀r∈rs,jB r/\qI r)->∃m∈rs,∀o∈rs,JF o m=true->o=m
 | [],h,_=>Zn rfl h
 |x::rs,_,ok=>by
  by_cases q:rs=[]
  .simp_all
  .have ⟨m,a,b⟩:=Du q ()
   grind[Zqm,Zqs,Kq,Ii]
def wg {rs:Jz}{m:Jy}:qk rs m=true↔∀o∈rs,JF o m=true->o=m:=by
 grind[qk,List.isEmpty_iff,List.filter_eq_nil_iff]
structure Good (n:Int)(f:Jz):Prop where
 ne:f ≠ []
 rows:∀r∈f,RowOk n r
 rise:∀r∈f,qI r
 len:f.length<=40
 anti:∀r∈f,∀s∈f,JF r s=true->r=s
 srt:f.Pairwise λa b=>j8 a b=true
def TR (j n:Nat):min (j:Int) (n:Int)=((min j n:Nat):Int):=by
 lia
def Ij {α: Type}(l:List α){k:Int}(a:0<=k):Qv l (some k) none none=l.drop k.toNat:=by
 have e:sliceBounds (some k) none none l.length=(((min k.toNat l.length:Nat):Int),(l.length:Int),1):=by
  obtain⟨j,rfl⟩:=Int.eq_ofNat_of_zero_le a;unfold sliceBounds;simp only;rw[Ze (Int.not_lt.mpr a),TR];exact rfl
 unfold Qv;rw[e,sliceRange_one];have ep:(λx:Nat=>l[x]?)=λx:Nat=>l.toArray[x]?:= by simp
 rw[ep,(pick_run l.toArray (min k.toNat l.length) (l.length-min k.toNat l.length))];by_cases c:k.toNat<=l.length
 .rw[Vj c,UX ()]
 .rw[Nat.min_eq_right (),Vh (Zf _),Vh ()];exact List.take_nil
def Ik {α: Type}{f:α -> Bool}{l:List α}{i:Nat}{p:α}(h:∀q∈l.take i,f q=false)(hp:l[i]? = some p)(a:f p=true):l.find? f=some p:=by
 grind[List.take_append_drop,List.drop_eq_getElem_cons]
structure ThingsOk (ts:Yh):Prop where
 ne:ts ≠ []
 len:ts.length<=4
 rng:∀t∈ts,0<=t/\t<12
 up:ts.Pairwise (· < ·)
def jN (r:Jy):Jy:=r.map λp=>(p.1,-p.2)
def Bd {r:Jy}(h:qI r):jB r:=by
 grind[qI,jB,List.Nodup]
def TU {α: Type}[Inhabited α]{P:Nat -> α -> Prop}{n:Nat}(h:∀i,i<n->∃a,P i a):∃g:Nat -> α,∀i,i<n->P i (g i):=by
 classical
 exact⟨λi=>if q:i<n then(h i q).choose else default,()⟩
def Dv {r:Jy}(h:jB r){p q:Int×Int}(hp:p∈r)(b:q∈r)(e:p.1=q.1):p=q:=by
 induction r with
 |nil=>cases hp
 |cons a r c =>
  grind[jB,List.map_cons,List.nodup_cons]
def Il {r:Jy}{hs:Yh}{p:Int×Int}(hp:p∈r):j9 hs p.1+p.2<=Ql r hs:=
 (W5 (λz=>())).2 _ ()
def TV {r:Jy}{hs:Yh}(a:r ≠ []):∃p∈r,Ql r hs=j9 hs p.1+p.2:=have ⟨p,hp,e⟩:=Ja.mp (W5 (λz=>a (Jf.mp z))).1;⟨p,hp,e.symm⟩
def X3 {r:Jy}{hs:Yh}{x:Int}(a:r ≠ []):Ql r hs<=x↔∀p∈r,j9 hs p.1+p.2<=x:=by
 constructor
 .intro h p hp;exact Int.le_trans (Il hp) h
 .intro h;obtain⟨p,hp,e⟩:=TV a;rw[e];exact h p hp
def KD {f:Jz}{hs:Yh}{r:Jy}(a:r∈f):J7 f hs<=Ql r hs:=
 (Ac (λz=>())).2 _ ()
def KQ {f:Jz}{hs:Yh}(a:f ≠ []):∃r∈f,J7 f hs=Ql r hs:=have ⟨p,hp,e⟩:=Ja.mp (Ac (λz=>a (Jf.mp z))).1;⟨p,hp,e.symm⟩
structure Over (f:Jz)(hs:Yh):Prop where
 ne:f ≠ []
 rne:∀r∈f,r ≠ []
 once:∀r∈f,jB r
 bnd:∀r∈f,∀p∈r,0<=p.1/\p.1<(hs.length:Int)
structure RoundOk (n:Int)(fs:List Jz):Prop where
 len:(fs.length:Int)=n
 low:1<=n
 most:n<=12
 forms:∀f∈fs,FormOk n f
def wH {n:Int}{fs:List Jz}(R:RoundOk n fs){hs:Yh}(h:hs.length=fs.length):∀f∈fs,Over f hs:=λf b=>⟨(R.forms f b).ne,λr a=>((R.forms f b).rows r a).ne,λr a=>((R.forms f b).rows r a).once,λr a p hp=>by
 have:=((R.forms f b).rows r a).mem p hp;have:=R.len;lia⟩
def cC (fs:List Jz):D:=.lst (fs.map ji)
@[simp]def vO (fs):Kf (cC fs)=some (fs.map ji):=rfl
open L2.ST
theorem Dw:∀{ys a:Yh},a.Pairwise (· < ·)->ys.Pairwise (· < ·)->(∀x∈a,x∈ys)->a.length<=ys.length/\(a.length=ys.length->a=ys)
 | [],a,_,_,h=>by
  cases a with
  |nil=>simp
  |cons x a=>cases h x Zqs
 |y::ys,[],_,_,_=>by simp
 |y::ys,x::a,hx,hy,h=>by
  rw[List.pairwise_cons] at hx hy;rcases Uq.mp (h x Zqs) with q|q
  .have ⟨b,c⟩:=Dw hx.2 hy.2 λz hz=>by
    grind
   simp_all
  .obtain⟨b,_⟩:=Dw (Ji.mpr hx) hy.2 λz hz=>by
    grind
   grind
theorem Im:∀{a b:Jy},a.map (·.1)=b.map (·.1)->(∀(i:Nat) p q,a[i]? = some p->b[i]? = some q->p.2<=q.2)->a≠b->j8 a b=true
 | [],[],_,_,h=>Zn rfl h
 | [],_::_,e,_,_=>by simp at e
 |_::_,[],e,_,_=>by simp at e
 |p::a,q::b,e,hw,hn=>by
  have f:=hw 0 p q rfl rfl;rw[KZ];by_cases z:p=q
  .rw[Zd z];refine Im ((List.cons.inj e).2) (λi p q hp c=>hw (i+1) p q hp c) ()
  grind[W6]
def TW {a b:Jy}(j:qI a)(e:qI b)(h:JF a b=true)(l:a≠b):zf a b=true:=by
 have u:=yQ.mp h;obtain⟨f,g⟩:=Dw j e λx m=>by
  obtain⟨p,hp,rfl⟩:=Ja.mp m;obtain⟨w,c,_⟩:=u p hp;exact Ja.mpr ⟨(p.1,w),Qi c,rfl⟩
 rw[Zql,Zql] at f g;rw[Xx];rcases Nat.lt_or_eq_of_le f with q|q
 .exact .inl q
 .refine .inr ⟨q,Im (g q) (λi p r hp n=>?_) l⟩;obtain⟨w,c,o⟩:=u p ();have s:p.1=r.1:=by
   have t:(a.map (·.1))[i]? = some p.1:=by grind
   simp_all
  have:=Dv (Bd e) (Uf n) (Qi c) s.symm
  rwa [this]
def YZ {α: Type}{ltb:α -> α -> Bool}(T:Tot ltb){l:List α}(e:l.Nodup):(JQ ltb l).Pairwise λa b=>ltb a b=true:=by
 have c:(JQ ltb l).Nodup:=(Qz l).nodup_iff.mpr e;refine List.Pairwise.imp ?_ ((W7 T l).and c);rintro a b ⟨f,g⟩;cases q:ltb a b with
 |true=>rfl
 |false=>exact Zn (T.tot _ _ q f) g
def qS (rs:Jz):Jz:=JQ zf (JQ j8 (qO rs))
theorem fR {rs:Jz}{r:Jy}:r∈qS rs↔r∈rs:=by
 grind[qS,bS,Qz]
def Io (rs:Jz):(qS rs).Pairwise λa b=>zf a b=true:=YZ vA ((Qz _).nodup_iff.mpr (Hr rs))
def Ip (rs:Jz):(qS rs).length<=rs.length:=by
 unfold qS;rw[(Qz _).length_eq,(Qz _).length_eq];exact Hs rs
def ze (kept:Jz)(r:Jy):Jz:=if kept.any (λo=>JF o r)=true then kept else kept++[r]
def xH (rs:Jz):Jz:=(qS rs).filter (qk rs)
theorem Iq {rs:Jz}(n:∀r∈rs,qI r):∀i,i<=(qS rs).length->((qS rs).take i).foldl ze []=((qS rs).take i).filter (qk rs)
 | 0,_=>by simp
 |i+1,hi=>by
  have E:=Iq n i ();have st:=Io rs;have p:∀r,r∈qS rs↔r∈rs:=λr=>fR;generalize qS rs=L at hi E st p;have a:i<L.length:=()
  rw[We (Zqg a),Vp,List.filter_append,E];have s:∀o∈L.take i,zf o L[i]=true:=λo c=>by
   obtain⟨j,t,rfl⟩:=UB c;rw[Uy] at t;rw[List.getElem_take];exact Jj.mp st j i () a ()
  have u:=(p L[i]).mp (Uv a);show ze ((L.take i).filter (qk rs)) L[i]=_;unfold ze;cases q:qk rs L[i] with
  |true =>
   have low:=wg.mp q;rw[Ze,List.filter_cons_of_pos q,List.filter_nil];intro z;have ⟨o,c,v⟩:=VB.mp z;have c:=(Je.mp c).1;have b:=s o c;rw[(low o ((p o).mp (List.mem_of_mem_take c)) v)] at b;have:=vA.asy _ _ b
   simp_all
  |false =>
   have H:¬ ∀o∈rs,JF o L[i]=true->o=L[i]:=λz=>by rw[wg.mpr z] at q;cases q
   obtain⟨o,c,v,hne⟩:∃o∈rs,JF o L[i]=true/\o≠L[i]:=by
    exact by grind
   obtain⟨f,y,A⟩:=Du (λz=>by
    have:o∈rs.filter λo=>JF o L[i]:=Je.mpr ⟨c,v⟩;rw[z] at this;cases this) λr h=>⟨Bd (n r (Je.mp h).1),()⟩
   obtain⟨F,B⟩:=Je.mp y;have g:=wg.mpr λx G l=>A x (Je.mpr ⟨G,Kq l B⟩) l;have m:f≠L[i]:=by grind
   have e:f∈L.take i:=by
    obtain⟨j,t,C⟩:=UB ((p f).mpr F);rcases Ve j i with w|w|w
    .rw[<- C,List.mem_take_iff_getElem];exact by grind
    .subst w;exact Zn C.symm m
    .have b:=Jj.mp st i j a t w;rw[C] at b;have:=vA.asy _ _ b;rw[(TW (n f F) (n _ u) B m)] at this;cases this
   rw[Zd (VB.mpr ⟨f,Je.mpr ⟨e,g⟩,B⟩),List.filter_cons_of_neg (by rw[q];simp),List.filter_nil,ZB]
def Ir (rs:Jz):JQ j8 (xH rs)=JZ rs:=by
 have c:(xH rs).Nodup:=by
  have:(qS rs).Nodup:=by
   refine(Io rs).imp λ{a b} h e=>?_;have:=vA.asy _ _ h
   simp_all
  exact List.Pairwise.sublist (List.filter_sublist) this
 refine W9 xU (YZ xU c) (YZ xU ((Bc rs rs []).2.2 VC)) λr=>?_
 grind[xH,xE,fR,Qz]
structure PairsOk (ts:Yh)(r:Jy):Prop where
 ne:r ≠ []
 len:r.length<=4
 mem:∀p∈r,p.1∈ts
 up:r.Pairwise λp q=>p.1<q.1
def TX {r:Jy}(h:r.Pairwise λp q=>p.1<q.1):jB r:=by
 grind[jB,List.Nodup,List.pairwise_map]
def PairsOk.row {ts:Yh}{r:Jy}(T:ThingsOk ts)(P:PairsOk ts r):RowOk 12 r:=⟨P.ne,TX P.up,λp hp=>T.rng _ (P.mem p hp),Zh P.len ()⟩
def TY {s r:Jy}{hs:Yh}(a:s ≠ [])(e:jB r)(h:JF s r=true):Ql s hs<=Ql r hs:=by
 rw[X3 a];intro p hp;obtain⟨w,b,c⟩:=yQ.mp h p hp;have:=Il (hs:=hs) (Qi b)
 grind
def X4 {rs:Jz}(ok:∀r∈rs,jB r/\qI r){r:Jy}(e:r∈rs):∃s∈JZ rs,JF s r=true:=by
 have i:=yQ.mpr λp hp=>⟨p.2,(ok r e).1.look hp,U4 _⟩;have ne:rs.filter (λo=>JF o r) ≠ []:=λz=>by
  simp_all
 obtain⟨m,f,h⟩:=Du ne ();obtain⟨b,a⟩:=Je.mp f;exact⟨m,xE.mpr ⟨b,wg.mpr λo g c=>h o (Je.mpr ⟨g,Kq c a⟩) c⟩,a⟩
def TZ {rs:Jz}{hs:Yh}(j:rs ≠ [])(ok:∀r∈rs,r ≠ []/\jB r/\qI r):J7 (JZ rs) hs=J7 rs hs:=by
 obtain⟨r,i,e⟩:=KQ (hs:=hs) j;obtain⟨s,f,l⟩:=X4 (λr h=>(ok r h).2) i;have a:=KD (hs:=hs) f;have b:=TY (hs:=hs) (ok s (xE.mp f).1).1 (ok r i).2.1 l;have ne:JZ rs ≠ []:=by grind
 obtain⟨m,g,n⟩:=KQ (hs:=hs) ne;have c:=KD (hs:=hs) (xE.mp g).1;lia
def tJ {f g:Jz}(h:f.length+g.length<=1000):ju (ji f) (ji g)=some (ji (f++g)):=by
 show(if(f.map jq).length+(g.map jq).length<=sizeLine then _ else _)=_;rw[Zql,Zql,Zd (QK h)];unfold ji;simp
def Wv (rs):(JZ rs).Pairwise λa b=>j8 a b=true:=YZ xU ((Bc rs rs []).2.2 VC)
structure JRow (r:Jy):Prop where
 ne:r ≠ []
 rise:qI r
 bnd:∀p∈r,0<=p.1/\p.1<12
def JRow.once {r:Jy}(h:JRow r):jB r:=Bd h.rise
def JRow.len {r:Jy}(h:JRow r):r.length<=12:=by
 have b:∀(l:Yh) (a:Int),l.Pairwise (· < ·)->(∀x∈l,a<=x/\x<12)->(l.length:Int)<=max 0 (12-a):=by
  intro l
  induction l with
  |nil=>simp;lia
  |cons x l c =>
   intro a hp e;rw[List.pairwise_cons] at hp;have g:=e x Zqs;have:=c (x+1) hp.2 ()
   grind
 have:=b _ 0 h.rise λx f=>by
  obtain⟨p,hp,rfl⟩:=Ja.mp f;exact h.bnd p hp
 grind
def asc (x:Str):Prop:=x.cps.all (· < 128)=true
def vB {x:Str}:asc x↔∀c∈x.cps.toList,c<128:=by
 unfold asc;rw[<- Array.all_toList,Vc];simp
def tG (a b:Str):(a++b).length=a.length+b.length:=Array.size_append
def Z1 (a b:Str):(a++b).cps.toList=a.cps.toList++b.cps.toList:=Array.toList_append
def tL {a b:Str}(f:asc a)(g:asc b):asc (a++b):=vB.mpr λc e=>by
 rw[Z1] at e;rcases Jb.mp e with h|h
 .exact vB.mp f c h
 .exact vB.mp g c h
structure TxtOk (n:Nat)(x:Str):Prop where
 len:x.length<=n
 asc:asc x
def TxtOk.app {m n:Nat}{a b:Str}(c:TxtOk m a)(e:TxtOk n b):TxtOk (m+n) (a++b):=⟨by rw[tG];have:=c.len;have:=e.len;lia,tL c.asc e.asc⟩
def TxtOk.mono {m n:Nat}{a:Str}(b:TxtOk m a)(h:m<=n):TxtOk n a:=⟨Zh b.len h,b.asc⟩
def sX {c:Nat}(h:c<128):TxtOk 1 ⟨#[c]⟩:=⟨Zf _,vB.mpr λd a=>()⟩
def Iu {n:Nat}{x:Str}(h:(decide (x.length<=n)&&x.cps.all (· < 128))=true):TxtOk n x:=by
 rw[Ue] at h;exact⟨of_decide_eq_true h.1,h.2⟩
def Be {m n:Nat}{a b:Str}(c:TxtOk m a)(e:TxtOk n b)(h:m+n<=1000):ju (.str a) (.str b)=some (.str (a++b)):=Zd (QK (by have:=c.len;have:=e.len;lia))
def t4 {n:Nat}{a:Str}{k:Int}(b:TxtOk n a)(h:n<=1000)(k0:0<=k)(k1:k<(a.length:Int)):∃c,j6 (.str a) (.int k)=some (.str ⟨#[c]⟩)/\a.cps.toList[k.toNat]? = some c/\c<128:=by
 have f:k.toNat<a.cps.toList.length:=by
  rw[Ui];have:a.length=a.cps.size:=rfl;lia
 refine⟨a.cps.toList[k.toNat],?_,(),vB.mp b.asc _ (Uv f)⟩;show(if a.length<=sizeLine then(qh a.cps.toList k).map λc=>D.str ⟨#[c]⟩ else none)=_;rw[Zd (QK (by have:=b.len;lia))];have e:qh a.cps.toList k=some a.cps.toList[k.toNat]:=by
  unfold qh xJ;rw[Zd k0,Zd (by rwa [Ui])];exact()
 rw[e];rfl
def dR:TxtOk 26 "abcdefghijklmnopqrstuvwxyz" := Iu (by decide +kernel)
def cp:(("abcdefghijklmnopqrstuvwxyz" : Str).length:Int)=26:=by rfl
def di:∀k:Fin 64,(Nat.ble (k.val:Int).natAbs.log2 1900=true)/\(decide ((toString (k.val:Int):Str).length<=2)&&(toString (k.val:Int):Str).cps.all (· < 128))=true:=by decide +kernel
def xf (k:Nat):Str:=⟨#[97+k]⟩
def yu (k:Nat):Str:=(toString (k:Int):Str)
def dY:∀k:Fin 26,(("abcdefghijklmnopqrstuvwxyz" : Str).cps.toList)[k.val]? = some (97+k.val):=by decide +kernel
def Iv {k:Int}(k0:0<=k)(k1:k<26):j6 (.str "abcdefghijklmnopqrstuvwxyz") (.int k)=some (.str (xf k.toNat)):=by
 obtain⟨c,b,e,_⟩:=t4 dR () k0 (by rwa [cp]);have a:=dY ⟨k.toNat,()⟩;rw[e] at a;rw[b,Zqi a];rfl
def db {k:Nat}(h:k<64):zi [.int (k:Int)]=some (.str (yu k))/\TxtOk 2 (yu k):=by
 obtain⟨a,b⟩:=di ⟨k,h⟩;exact⟨Zd a,Iu b⟩
def Iw {k:Nat}(h:k<26):TxtOk 1 (xf k):=sX ()
def low (x:Str):Prop:=∀c∈x.cps.toList,97<=c/\c<123
@[simp]def m5 (n:Nat)(g:FS)(a b c d e:D):jE n 5 g [a,b,c,d,e]=(g (some (.val a)::some (.val b)::some (.val c)::some (.val d)::some (.val e)::List.replicate (n-5) none)).bind xt:=rfl
structure Pl where
 name:Str
 givens:Yk
 rows:List (Str×Str×Jy)
def jM (r:Str×Str×Jy):D:=.tup [.str r.1,.str r.2.1,jq r.2.2]
def Dx (p:Pl):D:=.tup [.str p.name,.lst (p.givens.map .str),.lst (p.rows.map jM)]
def Qw (p:Pl):D:=.ins "Plan" ["name", "givens", "rows"] [.str p.name,.lst (p.givens.map .str),.lst (p.rows.map jM)]
def JD (ps:List Pl):D:=.ins "Book" ["plans"] [.lst (ps.map Qw)]
def uO (p:Str×Int):D:=.tup [.str p.1,.int p.2]
@[simp]def ge (r):j6 (jM r) (.int 0)=some (.str r.1):=rfl
@[simp]def gc (r):j6 (jM r) (.int 1)=some (.str r.2.1):=rfl
@[simp]def gb (r):j6 (jM r) (.int 2)=some (jq r.2.2):=rfl
@[simp]def cS (p):j6 (Dx p) (.int 0)=some (.str p.name):=rfl
@[simp]def pM (p):j6 (Dx p) (.int 1)=some (.lst (p.givens.map .str)):=rfl
@[simp]def cZ (p):j6 (Dx p) (.int 2)=some (.lst (p.rows.map jM)):=rfl
@[simp]def gg (p):j6 (uO p) (.int 0)=some (.str p.1):=rfl
@[simp]def gf (p):j6 (uO p) (.int 1)=some (.int p.2):=rfl
@[simp]def pq (ps):qW "Book" "plans" (JD ps)=some (.lst (ps.map Qw)):=rfl
@[simp]def gt (p):qW "Plan" "name" (Qw p)=some (.str p.name):=rfl
@[simp]def pG (p):qW "Plan" "givens" (Qw p)=some (.lst (p.givens.map .str)):=rfl
@[simp]def gr (p):qW "Plan" "rows" (Qw p)=some (.lst (p.rows.map jM)):=rfl
def Ix {n:Nat}{x:Str}(h:asc x):qN (n+1) (.str x)=true:=by
 show PyData.strOk x=true;unfold PyData.strOk;rw[<- Array.all_toList,Vc];exact λc a=>Zp (Ug (vB.mp h c a) ())
def dI {α: Type}{f:Nat -> α}{n:Nat}(h:((List.range n).map f).Nodup){a b:Nat}(c:a<n)(g:b<n)(e:f a=f b):a=b:=by
 have h:=Jj.mp (U0.mp h)
 grind
def rH (l:Yj):Bool:=l[0]? == some 120||l[0]? == some 121||l[0]? == some 113||l[2]? == some 113
structure WB (ps:List Pl):Prop where
 l1:1<=ps.length
 l2:ps.length<=20
 nd:(ps.map (·.name)).Nodup
 ok:∀p∈ps,TxtOk 12 p.name/\1<=p.name.length/\p.name ≠ "all" /\ p.name ≠ "first"
 how:∀(i:Nat) (p:Pl),ps[i]? = some p->∀r∈p.rows,r.2.1 = "all" \/ r.2.1 = "first" \/ r.2.1∈(ps.take i).map (·.name)
 sz:∀p∈ps,p.rows.length<=40/\p.givens.length<=12
@[simp]def bm (is)(f)(sd):fm is f sd=(f (jW is sd)).bare.bind λd=>if HJ d then .ok d else .no:=rfl
@[simp]def b0 (c)(names)(Fn)(fa)(sd):YX c names Fn fa sd=(fa sd).bind λds=>(Fn ds).bind λes=>.ok (.ins c names es):=rfl
@[simp]def dE (i j k)(r)(sd):JO (.tup [i,j,k]) (jM r) sd=.ok (((sd.set i (some (.val (.str r.1)))).set j (some (.val (.str r.2.1)))).set k (some (.val (jq r.2.2)))):=rfl
@[simp]def pb (x):QC (.str x)=some (.inr x):=rfl
def dT (t:List (Str×Int)):D:=.dct (t.map λp=>.inr p.1) (t.map λp=>.int p.2)
def yz (t:List (Str×Int))(x:Str):Option Int:=(t.find? λp=>decide (p.1=x)).map (·.2)
def tz {a b:Str}:((UP a:jA)=.inr b)↔a=b:=()
theorem Dy:∀(t:List (Str×Int)) (x:Str),jG (t.map λp=>.inr p.1) (t.map λp=>.int p.2) (.inr x)=(yz t x).map .int
 | [],_=>rfl
 |p::t,x=>by
  rw[Zl,Zl];unfold jG yz;rw[List.find?_cons];by_cases h:p.1=x
  .simp_all
  .rw[Ze (λz=>h (tz.mp z)),Zo h];exact Dy t x
@[simp]def rY (t)(x):j6 (dT t) (.str x)=(yz t x).map .int:=Dy t x
@[simp]def rZ (neg)(t)(x):w5 neg (.str x) (dT t)=some (.bl (if neg then !(yz t x).isSome else(yz t x).isSome)):=by
 show some (D.bl (if neg then !(jG (t.map λp=>.inr p.1) (t.map λp=>.int p.2) (.inr x)).isSome else(jG (t.map λp=>.inr p.1) (t.map λp=>.int p.2) (.inr x)).isSome))=_;rw[Dy,Option.isSome_map]
def bR {t:List (Str×Int)}{x:Str}:yz t x=none↔x∉t.map (·.1):=by
 grind[yz,Option.map_eq_none_iff,List.find?_eq_none]
def t6 {a b:List (Str×Int)}{x:Str}(h:x∉a.map (·.1)):yz (a++b) x=yz b x:=by
 unfold yz;rw[List.find?_append,Option.map_eq_none_iff.mp (bR.mpr h)];rfl
def kB (x:Str)(v:Int)(b:List (Str×Int)):yz ((x,v)::b) x=some v:=by
 simp_all [yz]
def mX (how:Str):Bool:=!(decide (how = "all")||decide (how = "first"))
def vL (t:List (Str×Int))(p:Pl):Int:=p.rows.length+((p.rows.filter λr=>mX r.2.1).map λr=>(yz t r.2.1).getD 0).sum
def vg (t:List (Str×Int))(p:Pl):List (Str×Int):=t++[(p.name,vL t p)]
def yo (ps:List Pl):List (Str×Int):=ps.foldl vg []
def tT (ps)(p):yo (ps++[p])=yo ps++[(p.name,vL (yo ps) p)]:=by
 unfold yo;rw[Vp];rfl
theorem Iy:∀(l:List Pl) (t:List (Str×Int)),∃u,l.foldl vg t=t++u
 | [],t=>⟨[],()⟩
 |p::l,t=>by
  obtain⟨u,e⟩:=Iy l (vg t p)
  simp_all [vg]
theorem Iz:∀(l:List Pl) t,(l.foldl vg t).map (·.1)=t.map (·.1)++l.map (·.name)
 | [],t=>by simp
 |p::l,t=>by
  rw[Vi,Iz l];unfold vg;simp
theorem Dz (l):(yo l).map (·.1)=l.map (·.name):=by
 grind[yo,Iz]
def WB.fresh {ps:List Pl}(W:WB ps){i:Nat}{p:Pl}(f:ps[i]? = some p):p.name∉(yo (ps.take i)).map (·.1):=by
 rw[Dz];intro z;have a:i<ps.length:=();obtain⟨y,b,e⟩:=Ja.mp z;obtain⟨j,c,g⟩:=UB b;rw[Uy] at c;have h:=Jj.mp (U0.mp W.nd) j i () a ()
 simp_all
def WB.at {ps:List Pl}(W:WB ps){i:Nat}{p:Pl}(a:ps[i]? = some p):yz (yo ps) p.name=some (vL (yo (ps.take i)) p):=by
 have e:yo ps=(ps.drop (i+1)).foldl vg (yo (ps.take i)++[(p.name,vL (yo (ps.take i)) p)]):=by
  rw[<- tT];unfold yo;rw[<- Vp];have tk:ps.take (i+1)=ps.take i++[p]:=by rw[Vv,a];rfl
  rw[<- tk,UM]
 obtain⟨u,b⟩:=Iy (ps.drop (i+1)) (yo (ps.take i)++[(p.name,vL (yo (ps.take i)) p)]);rw[e,b,Uh,t6 (W.fresh a)];exact kB _ _ _
def WB.part {ps:List Pl}(W:WB ps){i:Nat}{p:Pl}(c:ps[i]? = some p){r:Str×Str×Jy}(f:r∈p.rows):(yz (yo (ps.take i)) r.2.1).isSome=mX r.2.1:=by
 have a:∀w:Str,(∀y∈ps,y.name≠w)->yz (yo (ps.take i)) w=none:=λw g=>bR.mpr (by
  grind[Dz])
 rcases W.how i p c r f with z|z|z
 .rw[z,a "all" λy b=>(W.ok y b).2.2.1];rfl
 .rw[z,a "first" λy b=>(W.ok y b).2.2.2];rfl
 .have j:(yz (yo (ps.take i)) r.2.1).isSome=true:=by
   cases h:yz (yo (ps.take i)) r.2.1 with
   |some v=>rfl
   |none=>exact Zn (by rwa [Dz]) (bR.mp h)
  have ⟨y,b,e⟩:=Ja.mp z;have ok:=W.ok y ()
  simp_all [mX]
@[simp]def nE (fe)(sd)(hp):zx fe sd hp=(fe sd).bind λd=>.ok (d,hp):=rfl
@[simp]def bi (g)(fa fb)(sd)(hp):z8 g fa fb sd hp=(fa sd hp).bind λp=>(fb sd p.2).bind λq=>(Res.ofO (g p.1 q.1)).bind λz=>.ok (z,q.2):=rfl
@[simp]def pP (Fn)(fr)(sd)(hp):V7 Fn fr sd hp=(fr sd).bind λds=>Fn ds hp:=rfl
@[simp]def gN (sd)(hp):AV sd hp=.ok ([],hp):=rfl
@[simp]def dU (f)(g)(sd)(hp):Ws f g sd hp=(f sd hp).bind λp=>(g sd p.2).bind λq=>.ok (p.1::q.1,q.2):=rfl
@[simp]def gM (fr)(sd)(hp):vJ fr sd hp=(fr sd hp).bind λp=>if p.1.length<=1000 then .ok (.tup p.1,p.2) else .no:=rfl
@[simp]def pL (i)(f)(sd)(hp):Tx i f sd hp=(f sd hp).bind λp=>.ok (.next (sd.set i (some (.val p.1))) p.2):=rfl
@[simp]def b6 (i)(g)(sd)(hp):wC i g sd hp=g (jW [i] sd) hp:=rfl
@[simp]def bh (is)(f)(sd)(hp):bV is f sd hp=(f (derI hp is sd)).strict.bind λd=>if K7 d then .ok (d,hp) else .no:=rfl
def eK (g:qz):Out2->Res (D×HP)
 | .next sd hp=>g sd hp
 |_=>.no
@[simp]def bE (g)(sd)(hp):eK g (.next sd hp)=g sd hp:=rfl
@[simp]def IA (a:qQ)(g:qz)(sd:SD)(hp:HP):yE a g sd hp=(a sd hp).bind (eK g):=by
 rfl
@[simp]def V8 (fc)(ga g)(sd)(hp):bF fc ga g sd hp=(fc sd hp).bind λp=>if p.1 then ga sd p.2 else g sd p.2:=rfl
def tK (p:D×HP):Res (Bool×HP):=match p.1 with
 | .bl b=>.ok (b,p.2)
 |_=>.no
@[simp]def rB (b)(hp):tK (.bl b,hp)=.ok (b,hp):=rfl
@[simp]def pk (f)(sd)(hp):Tv f sd hp=(f sd hp).bind tK:=rfl
def D0 (a)(d):j7 [(a,d)] a=some d:=Zd rfl
def tY (a)(d e):X0 [(a,d)] a e=[(a,e)]:=Zd rfl
def dk {n ar:Nat}{g:qz}{ds:YG}{a:Addr}{d b v:D}(h:ds.length=ar)(c:g (Qf n ds) [(a,d)]=.ok (v,[(a,b)])):Kx n ar g ds [(a,d)]=.ok (v,[(a,b)]):=by
 simp_all [Kx]
def yJ {a b:FS}{sd sd':SD}{r:Res Out}(h:a sd=.ok (.next sd'))(c:b sd'=r):jj a b sd=r:=()
def fX {a:qQ}{b:qz}{sd sd':SD}{hp hp':HP}{r:Res (D×HP)}(h:a sd hp=.ok (.next sd' hp'))(c:b sd' hp'=r):yE a b sd hp=r:=()
def IB {g:FS}{sd sd':SD}{hp:HP}(h:g sd=.ok (.next sd')):vo g sd hp=.ok (.next sd' hp):=()
def Ky {x y:Str}(a:asc x)(b:asc y):xK (.str x) (.str y)=some (.bl (decide (x=y))):=by
 rw[FI (Ix a) (Ix b)]
 simp_all [Q0]
def WT:asc "all" := by unfold asc;decide +kernel
def WU:asc "first" := by unfold asc;decide +kernel
def IC:xK (.str "all") (.str "all")=some (.bl true):=by rw[Ky WT WT];congr 2
def ID:xK (.str "first") (.str "all")=some (.bl false):=by rw[Ky WU WT];congr 2
def IE:xK (.str "first") (.str "first")=some (.bl true):=by rw[Ky WU WU];congr 2
def xq (found:Yh)(its:Jy):Yh:=its.map λp=>j9 found p.1+p.2
def vQ (found:Yh)(r:Str×Str×Jy):Int:=if r.2.1 = "all" then qC (xq found r.2.2) else xc (xq found r.2.2)
def zE (a:List (Str×Str×Jy))(hs:Yh):Yh:=a.foldl (λf r=>f++[vQ f r]) hs
structure RowsOk (n:Nat)(rows:List (Str×Str×Jy)):Prop where
 len:rows.length<=60
 pos:1<=rows.length
 how:∀r∈rows,r.2.1 = "all" \/ r.2.1 = "first"
 ne:∀r∈rows,r.2.2 ≠ []
 sh:∀r∈rows,r.2.2.length<=60
 rng:∀(k:Nat) r,rows[k]? = some r->∀p∈r.2.2,0<=p.1/\p.1<(n:Int)+k
theorem AG:∀a hs,(zE a hs).length=hs.length+a.length
 | [],hs=>rfl
 |r::a,hs=>by
  show(zE a (hs++[vQ hs r])).length=_;rw[AG a,Ub,Us,Zu];lia
def sK {found:Yh}{its:Jy}(h:its ≠ []):xq found its ≠ []:=λz=>h (Jf.mp z)
def tP (found)(its):(xq found its).length=its.length:=by unfold xq;simp
def tX {found:Yh}{its:Jy}(h:∀p∈its,0<=p.1/\p.1<(found.length:Int)):jQ (.tup [0,1]) (jf ju (jf j6 (jb 2) (jb 0)) (jb 1)) [none,none,some (.val (.lst (found.map .int)))] (its.map qd)=.ok ((xq found its).map .int):=by
 unfold xq;rw[Zw];exact Kw λp hp=>by
  have:=Dt (h p hp).1 (h p hp).2;simp[this]
def RowsOk.at {n:Nat}{a:List (Str×Str×Jy)}(ok:RowsOk n a){hs:Yh}(c:hs.length=n){i:Nat}{r:Str×Str×Jy}(h:a[i]? = some r):(∀p∈r.2.2,0<=p.1/\p.1<((zE (a.take i) hs).length:Int))/\(zE (a.take i) hs).length=n+i/\i<a.length/\r∈a:=by
 have b:=(Jc.mp h).1;have e:(zE (a.take i) hs).length=n+i:=by rw[AG,Uy];lia
 refine⟨λp hp=>?_,e,b,Uf h⟩;have:=ok.rng i r h p hp;lia
def D1 {α: Type}{f:α -> D}(ys:List α)(x:α):j6 (.lst ((ys++[x]).map f)) (.int (-1))=some (f x):=by
 show qh ((ys++[x]).map f) (-1)=_;unfold qh xJ;rw[Ze (),Zd (by rw[Zql,Ub,Us];lia)];have e:((-1:Int)+(((ys++[x]).map f).length:Int)).toNat=ys.length:=by
  rw[Zql,Ub,Us];lia
 simp_all
def D2 {α: Type}{l:List α}(h:l ≠ []):∃ys x,l=ys++[x]:=⟨l.dropLast,l.getLast h,(List.dropLast_concat_getLast h).symm⟩
def kF {c:v9}{a b:qQ}{sd:SD}{hp:HP}{r:Res Out2}(h:c sd hp=.ok true)(e:a sd hp=r):zC c a b sd hp=r:=by
 rwa [HQ,h]
def kG {c:v9}{b a:qQ}{sd:SD}{hp:HP}{r:Res Out2}(h:c sd hp=.ok false)(e:a sd hp=r):zC c b a sd hp=r:=by
 rwa [HQ,h]
@[simp]def gO (fo fi)(sd)(hp):vK fo fi sd hp=(fo sd hp).bind λp=>(fi sd p.2).bind (rR p.1):=rfl
@[simp]def pB (Fn)(fr)(sd)(hp):T3 Fn fr sd hp=(fr sd hp).bind λp=>Fn p.1 p.2:=rfl
def rK:Pl:=⟨"",[],[]⟩
abbrev Rw:=Str×Str×Jy
structure RwP (ps:List Pl)(n:Int)(r:Rw):Prop where
 nm:asc r.1
 how:r.2.1 = "all" \/ r.2.1 = "first" \/ ∃q∈ps,r.2.1=q.name/\r.2.2.length=q.givens.length
 ne:r.2.2 ≠ []
 sh:r.2.2.length<=10
 rng:∀p∈r.2.2,0<=p.1/\p.1<n
 wt:∀p∈r.2.2,-1000000000000000000000000000000<=p.2/\p.2<=1000000000000000000000000000000
structure PlP (ps:List Pl)(p:Pl):Prop where
 g1:1<=p.givens.length
 g2:p.givens.length<=4
 r1:1<=p.rows.length
 r2:p.rows.length<=8
 row:∀(k:Nat) r,p.rows[k]? = some r->RwP ps ((p.givens.length:Int)+k) r
structure BkP (ps:List Pl):Prop where
 len:ps.length<=4
 nm:∀(i:Nat) p,ps[i]? = some p->asc p.name/\p.name ≠ "all" /\ p.name ≠ "first"
 inj:∀(i j:Nat) p q,ps[i]? = some p->ps[j]? = some q->p.name=q.name->i=j
 ok:∀(i:Nat) p,ps[i]? = some p->PlP (ps.take i) p
def BkP.at {ps:List Pl}(B:BkP ps){i:Nat}{p:Pl}(h:ps[i]? = some p):i<ps.length/\i<4/\asc p.name/\p.name ≠ "all" /\ p.name ≠ "first" := by
 have a:=(Jc.mp h).1;have l:=B.len;exact⟨a,(),B.nm i p h⟩
theorem BkP.find {ps:List Pl}(B:BkP ps){i:Nat}{p:Pl}(h:ps[i]? = some p):ps.find? (λq=>decide (q.name=p.name))=some p:=by
 refine Ik (i:=i) (λq c=>?_) h (Zp rfl);obtain⟨j,a⟩:=Jm.mp c;have b:=(Jc.mp a).1;rw[Uy] at b;rw[VR ()] at a;refine Zo λe=>?_;have:=B.inj j i q p a h e;lia
def xF (rc:Str->List Int->Int)(found:Yh)(r:Rw):Int:=if r.2.1 = "all" then qC (xq found r.2.2) else if r.2.1 = "first" then xc (xq found r.2.2) else rc r.2.1 (xq found r.2.2)
def qg (rc:Str->List Int->Int)(a:List Rw)(hs:Yh):Yh:=a.foldl (λf r=>f++[xF rc f r]) hs
def qR (ps:List Pl):Nat->Pl->List Int->List Int
 | 0,_,_=>[]
 |n+1,p,hs=>qg (λx ts=>(qR ps n ((ps.find? λq=>decide (q.name=x)).getD rK) ts).getLastD 0) p.rows hs
def IF {rc:Str->List Int->Int}{a:List Rw}{hs:Yh}{i:Nat}{r:Rw}(h:a[i]? = some r):qg rc (a.take (i+1)) hs=qg rc (a.take i) hs++[xF rc (qg rc (a.take i) hs) r]:=by
 simp_all [qg,Vv]
theorem D3 (rc):∀a hs,(qg rc a hs).length=hs.length+a.length
 | [],hs=>rfl
 |r::a,hs=>by
  show(qg rc a (hs++[xF rc hs r])).length=_;rw[D3 rc a,Ub,Us,Zu];lia
def dv {ps:List Pl}{n:Nat}{p:Pl}{hs:Yh}:(qR ps (n+1) p hs).length=hs.length+p.rows.length:=D3 _ _ _
def dN {ps a:List Pl}{n:Nat}{p:Pl}{hs:Yh}(P:PlP a p):∃ys,qR ps (n+1) p hs=ys++[(qR ps (n+1) p hs).getLastD 0]:=by
 have ne:qR ps (n+1) p hs ≠ []:=λz=>by
  have b:=dv (ps:=ps) (n:=n) (p:=p) (hs:=hs);have c:=P.r1
  grind
 obtain⟨ys,x,e⟩:=D2 ne
 simp_all
def PlP.at {a:List Pl}{p:Pl}(P:PlP a p){rc:Str->List Int->Int}{hs:Yh}(f:hs.length=p.givens.length){i:Nat}{r:Rw}(h:p.rows[i]? = some r):(∀y∈r.2.2,0<=y.1/\y.1<((qg rc (p.rows.take i) hs).length:Int))/\(qg rc (p.rows.take i) hs).length=p.givens.length+i/\i<p.rows.length:=by
 have b:=(Jc.mp h).1;have e:(qg rc (p.rows.take i) hs).length=p.givens.length+i:=by rw[D3,Uy];lia
 refine⟨λy c=>?_,e,b⟩;have:=(P.row i r h).rng y c;lia
def BkP.snoc {ps:List Pl}{p:Pl}(B:BkP ps)(l:ps.length<4)(P:PlP ps p)(b:asc p.name/\p.name ≠ "all" /\ p.name ≠ "first")(a:∀q∈ps,q.name≠p.name):BkP (ps++[p]):=by
 have at_:∀(i:Nat) q,(ps++[p])[i]? = some q->(i<ps.length/\ps[i]? = some q)\/(i=ps.length/\q=p):=λi q h=>by
  rcases Vf i ps.length with z|z
  .rw[UO z] at h;exact .inl ⟨z,h⟩
  .rw[US z] at h;rcases Vn (i-ps.length) with y|y
   .rw[y] at h;cases h;exact .inr ⟨(),rfl⟩
   .rw[Vq (by rw[Us];lia)] at h;cases h
 refine⟨by rw[Ub,Us];lia,λi q h=>?_,λi j q r h h' e=>?_,λi q h=>?_⟩
 .rcases at_ i q h with ⟨_,z⟩|⟨rfl,rfl⟩
  .exact B.nm i q z
  .exact b
 .rcases at_ i q h with ⟨_,z⟩|⟨rfl,rfl⟩<;>rcases at_ j r h' with ⟨_,y⟩|⟨rfl,rfl⟩
  .exact B.inj i j q r z y e
  .exact Zn e (a q (Uf z))
  .exact Zn e.symm (a r (Uf y))
  .rfl
 .rcases at_ i q h with ⟨y,z⟩|⟨rfl,rfl⟩
  .rw[List.take_append_of_le_length ()];exact B.ok i q z
  .rw[List.take_append_of_le_length (Zf _),UU];exact P
def sL:BkP []:=⟨Ua _,(by intro i p h;cases h),(by intro i j p q h;cases h),(by intro i p h;cases h)⟩
def BkP.giv {ps:List Pl}(B:BkP ps):∀q∈ps,1<=q.givens.length/\q.givens.length<=4:=λq b=>by
 obtain⟨i,a⟩:=Jm.mp b;exact⟨(B.ok i q a).g1,(B.ok i q a).g2⟩
def BkP.ascs {ps:List Pl}(B:BkP ps):∀q∈ps,asc q.name:=λq a=>have ⟨i,b⟩:=Jm.mp a;(B.at b).2.2.1
def x9 (ps:List Pl)(n:Nat)(x:Str)(ts:Yh):Int:=(qR ps n ((ps.find? λq=>decide (q.name=x)).getD rK) ts).getLastD 0
def D4 (ps)(n)(p)(hs):qR ps (n+1) p hs=qg (x9 ps n) p.rows hs:=rfl
theorem BkP.how {ps:List Pl}(B:BkP ps){i:Nat}{p:Pl}(hp:ps[i]? = some p){k:Nat}{r:Rw}(c:p.rows[k]? = some r):r.2.1 = "all" \/ r.2.1 = "first" \/ (asc r.2.1/\r.2.1 ≠ "all" /\ r.2.1 ≠ "first" /\ ∃j q,j<i/\ps[j]? = some q/\r.2.1=q.name/\r.2.2.length=q.givens.length):=by
 rcases((B.ok i p hp).row k r c).how with z|z|⟨q,z1,z2,z3⟩
 .exact .inl z
 .exact .inr (.inl z)
 .obtain⟨j,a⟩:=Jm.mp z1;have b:=(Jc.mp a).1;rw[Uy] at b;rw[VR ()] at a;obtain⟨_,_,e,f,g⟩:=B.at a;exact .inr (.inr ⟨by rwa [z2],by rwa [z2],by rwa [z2],j,q,(),a,z2,z3⟩)
def BkP.part {ps:List Pl}(B:BkP ps){j n:Nat}{q:Pl}(a:ps[j]? = some q)(ts:Yh):∃ys,qR ps (n+1) q ts=ys++[x9 ps (n+1) q.name ts]:=by
 obtain⟨ys,e⟩:=dN (B.ok j q a);refine⟨ys,?_⟩;unfold x9
 rwa [B.find a]
theorem IG {α: Type}:∀{l m:List α},l.Nodup->(∀x∈l,x∈m)->l.length<=m.length
 | [],m,_,_=>Ua _
 |x::l,m,h,s=>by
  obtain⟨a,b,rfl⟩:=List.append_of_mem (s x Zqs);have ⟨e,c⟩:=Jl.mp h;have f:=IG (m:=a++b) c λy g=>by
   grind
  grind
def xp (t g:Jz):Jz:=JZ (t++g)
structure Fm (n:Int)(U:Jz)(f:Jz):Prop where
 good:Good n f
 sub:∀r∈f,r∈U
def dW {n:Int}{f:Jz}(G:Good n f):f.Nodup:=G.srt.imp λ{a b} h e=>by
 have:=xU.asy _ _ h
 simp_all
def Fm.len {n:Int}{U f:Jz}(F:Fm n U f)(h:U.length<=28):f.length<=28:=Zh (IG (dW F.good) F.sub) h
def md:Jz->List Jz->List Jz
 |t,[]=>[t]
 |t,g::gs=>t::md (xp t g) gs
def dQ {a b:Jz}{hs:Yh}(g:a ≠ [])(h:b ≠ []):J7 (a++b) hs<=J7 a hs/\J7 (a++b) hs<=J7 b hs/\(J7 (a++b) hs=J7 a hs\/J7 (a++b) hs=J7 b hs):=by
 obtain⟨r,i,e⟩:=KQ (hs:=hs) g;obtain⟨s,c,l⟩:=KQ (hs:=hs) h;have m:=KD (hs:=hs) (VF b i);have n:=KD (hs:=hs) (Ur a c);obtain⟨q,j,o⟩:=KQ (f:=a++b) (hs:=hs) (λz=>g (Jx.mp z).1);refine⟨(),(),?_⟩;rcases Jb.mp j with z|z
 .have:=KD (hs:=hs) z;exact .inl ()
 .have:=KD (hs:=hs) z;lia
def D5 {tg:Tg}{b:FS}{ds:YG}{sd:SD}(P:SD->Prop)(a:P sd)(h:∀(i:Nat) x sd,ds[i]? = some x->P sd->∃sd',(JO tg x sd).bind b=.ok (.next sd')/\P sd'):∃sd',qE tg b ds sd=.ok (.next sd')/\P sd':=have ⟨sd',e,q⟩:=Kc (P:=λ_ sd=>P sd) a ();⟨sd',e,q⟩
def jo (p:Pl):D:=.tup [.str p.name,.int (p.givens.length:Nat),.lst (p.rows.map jM)]
def zB (p:Pl):j6 (jo p) (.int 0)=some (.str p.name):=rfl
def wl (p:Pl):j6 (jo p) (.int 1)=some (.int (p.givens.length:Nat)):=rfl
def ma (p:Pl):j6 (jo p) (.int 2)=some (.lst (p.rows.map jM)):=rfl
def Bf {ps:List Pl}{i:Nat}{p:Pl}(h:ps[i]? = some p):qh (ps.map jo) (i:Int)=some (jo p):=by
 rw[Wu (by rw[Zql];exact(Jc.mp h).1),Zv,h];rfl
def D6:YG->Res YG:=zD 2 2 (J0 (jt Qu (J0 (jb 1) jc)) jc)
def Bg:YG->Res YG:=zD 4 4 (J0 (jb 1) (J0 (jt Qu (J0 (jb 2) jc)) (J0 (jt Qu (J0 (jb 3) jc)) jc)))
def Z3:FS:=(jj (qJ (JE (jf xK (jt jP (J0 (jb 0) jc)) (dC (.int 0)))) (j4 (jb 1)) JT) (jj (jy 2 (jf Qk (jb 1) (jt jP (J0 (jb 0) jc)))) (j4 (jf ju (jf Qk (jf jF (jf j6 (jb 0) (jf jF (jb 1) (jt jP (J0 (jb 0) jc)))) (jf qT (dC (.int 10)) (dC (.int 62)))) (jf ju (dC (.int 1)) (jb 2))) (jf qD (jb 2) (jb 1))))))
def Q8:YG->Res D:=jE 3 2 Z3
def tQ {ns:Yh}{t:Int}(b:0<=t)(c:t<(ns.length:Int)):qh ns t=some (j9 ns t):=by
 have e:xJ ns.length t=some t.toNat:=by unfold xJ;rw[Zd b,Zd c]
 have a:t.toNat<ns.length:=()
 unfold qh j9;rw[e];show ns[t.toNat]? = _;rw[Zqg a,Ut,Zqg a];rfl
def JP (ns:Yh)(k:Int):Int:=if ns=[] then k else j9 ns (k % ns.length) % (10:Int) ^ (62:Nat) / (1+k / ns.length)+k / ns.length*k
def dw (ns:Yh){k:Int}(c:0<=k)(f:k<=100000):0<=JP ns k/\JP ns k<(10:Int) ^ (63:Nat):=by
 unfold JP;by_cases h:ns=[]
 .rw[Zd h];exact⟨c,Int.lt_of_le_of_lt f (by decide +kernel)⟩
 .rw[Ze h];have hp:0<ns.length:=Jp.mpr h;have g:=Int.ediv_nonneg c (show(0:Int)<=ns.length by lia);have l:k / (ns.length:Int)<=k:=VP _ c;generalize k / (ns.length:Int)=t at g l;have e:=U5 (j9 ns (k % ns.length)) (show(10:Int) ^ (62:Nat)≠0 by decide +kernel);have i:=U6 (j9 ns (k % ns.length)) (show(0:Int)<(10:Int) ^ (62:Nat) by decide +kernel);generalize j9 ns (k % ns.length) % (10:Int) ^ (62:Nat)=x at e i;have d0:=Int.ediv_nonneg e (show(0:Int)<=1+t by lia);have m:x / (1+t)<=x:=VP _ e;generalize x / (1+t)=y at d0 m;have n:0<=t*k:=Int.mul_nonneg g c;have o:t*k<=100000*100000:=Int.mul_le_mul () f c ();generalize t*k=z at n o;have j:(10:Int) ^ (62:Nat)+10000000000<(10:Int) ^ (63:Nat):=by decide +kernel
  generalize (10:Int) ^ (62:Nat)=a at i j;generalize (10:Int) ^ (63:Nat)=b at j;lia
def cw {b:D}{ns:Yh}(a:jP [b]=some (.int ns.length))(c:∀t:Int,0<=t->t<(ns.length:Int)->j6 b (.int t)=some (.int (j9 ns t))){k:Int}(e:0<=k)(o:k<=100000)(q:ns.length<=1000):Q8 [b,.int k]=.ok (.int (JP ns k)):=by
 unfold JP;by_cases h:ns=[]
 .subst h;simp[Q8,Z3,a]
 .have hp:0<ns.length:=Jp.mpr h;have hp':(0:Int)<(ns.length:Int):=()
  have r:=Int.ediv_nonneg e (show(0:Int)<=ns.length by lia);have s:k / (ns.length:Int)<=k:=VP _ e;have f:=YM (i:=k) hp' ();have g:=Xu (i:=k) hp';have l:=c _ (U5 k (show(ns.length:Int)≠0 by lia)) (U6 k hp');have p:qT (.int 10) (.int 62)=some (.int (10 ^ 62)):=rfl;have m:=λi=>YM (i:=i) (j:=1+k / (ns.length:Int)) () ();have n:=WN (CI (i:=k / (ns.length:Int)) (j:=k) () ());simp[Q8,Z3,a,h,f,g,l,p,m,n]
def WV (ns:Yh){k:Int}(a:0<=k)(b:k<=100000)(c:ns.length<=1000):Q8 [.scr ns,.int k]=.ok (.int (JP ns k)):=
 cw rfl (λt e f=>by rw[P7,tQ e f];rfl) a b c
def X5:FS:=(jj (jy 2 (J6 Q8 (J0 (jb 0) (J0 (dC (.int 60)) jc)))) (jj (jy 3 (dC (.str "abcdefghijklmnopqrstuvwxyz"))) (jj (jy 4 (jf j6 (jb 3) (jf jF (jf Qk (jb 2) (dC (.int 3))) (dC (.int 26))))) (jj (jy 5 (jf j6 (jb 3) (jf jF (jf Qk (jb 2) (dC (.int 78))) (dC (.int 26))))) (j4 (jf j6 (qG (J0 (jf ju (jb 4) (jt zi (J0 (jb 1) jc))) (J0 (jf ju (jf ju (jb 4) (jt zi (J0 (jb 1) jc))) (jb 5)) (J0 (jf ju (jf ju (jb 4) (jb 5)) (jt zi (J0 (jb 1) jc))) jc)))) (jf jF (jb 2) (dC (.int 3)))))))))
def Kr:YG->Res D:=jE 6 2 X5
def Qh (c:Int)(k:Nat):Str:=if c % 3=0 then xf (c / 3 % 26).toNat++yu k else if c % 3=1 then xf (c / 3 % 26).toNat++yu k++xf (c / 78 % 26).toNat else xf (c / 3 % 26).toNat++xf (c / 78 % 26).toNat++yu k
def D7 (x y z:D):qh [x,y,z] 0=some x/\qh [x,y,z] 1=some y/\qh [x,y,z] 2=some z:=⟨rfl,rfl,rfl⟩
def Bh {ns:Yh}(s:ns.length<=1000){k:Nat}{x:Int}(t:x=(k:Int))(h:k<64):Kr [.scr ns,.int x]=.ok (.str (Qh (JP ns 60) k))/\asc (Qh (JP ns 60) k):=by
 subst t;have i:=WV ns (k:=60) () () s;obtain⟨j,f⟩:=db h;generalize JP ns 60=c at *;have l:=Iv (k:=c / 3 % 26) () ();have m:=Iv (k:=c / 78 % 26) () ();have a:=Iw (k:=(c / 3 % 26).toNat) ();have g:=Iw (k:=(c / 78 % 26).toNat) ();have n:=Be a f ();have o:=Be (a.app f) g ();have p:=Be a g ();have q:=Be (a.app g) f ();have u:=(a.app f).asc;have v:=((a.app f).app g).asc;have w:=((a.app g).app f).asc;have r:Qk (.int c) (.int 78)=some (.int (c / 78)):=YM () ();unfold Qh;generalize xf (c / 3 % 26).toNat=x1 at *;generalize xf (c / 78 % 26).toNat=x2 at *;generalize yu k=dg at *;have b:c % 3=0\/c % 3=1\/c % 3=2:=()
 rcases b with e|e|e
 .rw[Zd e];refine⟨?_,u⟩;simp[Kr,X5,i,r,l,m,j,n,o,p,q,e,D7]
 .rw[Ze (),Zd e];refine⟨?_,v⟩;simp[Kr,X5,i,r,l,m,j,n,o,p,q,e,D7]
 .rw[Ze (),Ze ()];refine⟨?_,w⟩;simp[Kr,X5,i,r,l,m,j,n,o,p,q,e,D7]
def nV:((List.range 4).map λk=>(yu k).cps.toList).Nodup:=by decide +kernel
def sU:∀k:Fin 4,(yu k.1).cps.toList.any (λc=>decide (c<97))=true:=by decide +kernel
def IH (c:Int)(k:Nat):∃a b:Yj,∀i,(Qh c i).cps.toList=a++(yu i).cps.toList++b:=by
 unfold Qh;by_cases h:c % 3=0
 .exact⟨(xf (c / 3 % 26).toNat).cps.toList,[],λi=>by rw[Zd h,Z1,ZB]⟩
 .by_cases e:c % 3=1
  .exact⟨(xf (c / 3 % 26).toNat).cps.toList,(xf (c / 78 % 26).toNat).cps.toList,λi=>by rw[Ze h,Zd e,Z1,Z1]⟩
  .exact⟨(xf (c / 3 % 26).toNat++xf (c / 78 % 26).toNat).cps.toList,[],λi=>by rw[Ze h,Ze e,Z1,ZB]⟩
def du {c:Int}{i j:Nat}(f:i<4)(g:j<4)(e:Qh c i=Qh c j):i=j:=by
 obtain⟨a,b,h⟩:=IH c 0;refine dI nV f g ?_;have e:(Qh c i).cps.toList=(Qh c j).cps.toList:=by rw[e]
 rw[h,h] at e;exact List.append_cancel_left (List.append_cancel_right e)
def II {c:Int}{i:Nat}(f:i<4){w:Str}(g:w.cps.toList.all (λc=>decide (97<=c))=true):Qh c i≠w:=λe=>by
 obtain⟨a,b,h⟩:=IH c 0;obtain⟨d,j,l⟩:=VB.mp (sU ⟨i,f⟩);have m:d∈w.cps.toList:=by rw[<- e,h];exact VF _ (Ur _ j)
 have:=of_decide_eq_true (Vc.mp g d m);have:=of_decide_eq_true l;lia
def rh (c:Int)(ps:List Pl):Prop:=∀(k:Nat) q,ps[k]? = some q->q.name=Qh c k/\q.givens=(List.range q.givens.length).map λk=>Qh c (10+k)
def Bi:FS:=(jj (qf 2 (qG jc)) (jj (jK (iS (jb 1)) (.one 3) (jj (jy 4 (Qr [none,some 0] (yB (J0 (jf j6 (jb 3) (dC (.int 1))) jc)) (.one 0) (J6 Kr (J0 (jb 1) (J0 (jf ju (dC (.int 10)) (jb 0)) jc))))) (QL 2 (YX "Plan" ["name", "givens", "rows"] Bg (J0 (jf j6 (jb 3) (dC (.int 0))) (J0 (jb 4) (J0 (jt Qu (J0 (jf j6 (jb 3) (dC (.int 2))) jc)) jc))))))) (λsd=>(j4 (YX "Book" ["plans"] D6 (J0 (jb 2) jc))) (jW [2] sd))))
def Bj:YG->Res D:=qc 5 2 Bi
def gC {ns:Yh}(q:ns.length<=1000){ps:List Pl}(B:BkP ps)(N:rh (JP ns 60) ps):Bj [.scr ns,.lst (ps.map jo)]=.ok (JD ps):=by
 obtain⟨sd',e,h,j,a⟩:=Kc (tg:=.one 3) (b:=jj (jy 4 (Qr [none,some 0] (yB (J0 (jf j6 (jb 3) (dC (.int 1))) jc)) (.one 0) (J6 Kr (J0 (jb 1) (J0 (jf ju (dC (.int 10)) (jb 0)) jc))))) (QL 2 (YX "Plan" ["name", "givens", "rows"] Bg (J0 (jf j6 (jb 3) (dC (.int 0))) (J0 (jb 4) (J0 (jt Qu (J0 (jf j6 (jb 3) (dC (.int 2))) jc)) jc))))))
  (ds:=ps.map jo) (sd:=[some (.val (.scr ns)),some (.val (.lst (ps.map jo))),some (.own false (.lst [])),none,none])
  (P:=λi sd=>∃(h j:Option SV),sd=[some (.val (.scr ns)),some (.val (.lst (ps.map jo))),some (.own false (.lst ((ps.take i).map Qw))),h,j]) ⟨none,none,rfl⟩ (by
   rintro i x sd r ⟨h,j,rfl⟩;obtain⟨p,hp,rfl⟩:=QF r;have P:=B.ok i p hp;have H:=P.g2;have I:=P.r2;have J:=B.len;have K:=(Jc.mp hp).1;obtain⟨_,s⟩:=N i p hp;have t:KN [.int (p.givens.length:Nat)]=.ok (JV 0 p.givens.length):=by rw[Wo () ()];rfl
   have o:jQ (.one 0) (J6 Kr (J0 (jb 1) (J0 (jf ju (dC (.int 10)) (jb 0)) jc))) [none,some (.val (.scr ns))] (JV 0 p.givens.length)=.ok (p.givens.map .str):=by
    have m:=YO (tg:=.one 0) (f:=J6 Kr (J0 (jb 1) (J0 (jf ju (dC (.int 10)) (jb 0)) jc))) (c:=[none,some (.val (.scr ns))]) (lo:=0) (n:=p.givens.length) (g:=λk=>.str (Qh (JP ns 60) (10+k))) λk L=>by
     have u:=(Bh q (k:=10+k) (x:=10+(k:Int)) () ()).1;simp[u]
    rw[m]
    conv=>rhs;rw[s]
    rw[Zw];rfl
   have tk:ps.take (i+1)=ps.take i++[p]:=by rw[Vr,hp];rfl
   have v:=zB p;have w:=wl p;have y:=ma p;have z:=Qc (show p.givens.length<=1000 from ());have A:min i ps.length<sizeLine:=Qc ();have C:Qw p=.ins "Plan" ["name", "givens", "rows"] [.str p.name,.lst (p.givens.map .str),.lst (p.rows.map jM)]:=rfl;have E:Bg [.str p.name,.lst (p.givens.map .str),.lst (p.rows.map jM)]=.ok [.str p.name,.lst (p.givens.map .str),.lst (p.rows.map jM)]:=rfl;refine⟨[some (.val (.scr ns)),some (.val (.lst (ps.map jo))),some (.own false (.lst ((ps.take (i+1)).map Qw))),some (.val (jo p)),some (.val (.lst (p.givens.map .str)))],?_,_,_,rfl⟩;rw[tk,Uc,List.map_singleton,C];generalize jo p=tp at *;generalize p.givens.map D.str=gd at *;generalize p.rows.map jM=rd at *;simp[v,w,y,t,o,V4,z,A,E])
 rw[Zql,UU] at a;subst a;have F:JD ps=.ins "Book" ["plans"] [.lst (ps.map Qw)]:=rfl;have G:∀l:YG,D6 [.lst l]=.ok [.lst l]:=λ_=>rfl;rw[F];generalize ps.map Qw=pd at *;generalize ps.map jo=td at *;simp[Bj,Bi,e,G]
def v4:FS:=(jj (jK (iS (jb 0)) (.tup [2,3]) (qJ (wE (JE (jf (w5 true) (jb 2) (jb 1))) (JE (jf vF (jb 3) (jf j6 (jb 1) (jb 2))))) (j4 (dC (.bl false))) JT)) (j4 (dC (.bl true))))
def v6:YG->Res D:=jE 4 2 v4
def nB {r o:Jy}(b:jB o):v6 [jq r,y7 o]=.ok (.bl (JF r o)):=by
 refine AC (R:=λz=>(z.bind (xN (j4 (dC (.bl true))))).bind xt=.ok (.bl (JF r o))) (P:=λi sd=>(∃u v,sd=[some (.val (jq r)),some (.val (y7 o)),u,v])/\JF (r.take i) o=true) ⟨⟨none,none,rfl⟩,rfl⟩ ?_ ?_
 .simp
 .rintro i x sd e ⟨⟨u,v,rfl⟩,hu⟩;obtain⟨p,hp,rfl⟩:=QF e;have a:=CL b p.1;cases q:JB o p.1 with
  |none =>
   rw[q] at a;have z:xX o p=false:=by unfold xX;rw[q]
   rw[EF hp z];exact .inr (.inr ⟨.bl false,by simp[y7,a],()⟩)
  |some w =>
   rw[q] at a;by_cases c:w<p.2
   .have z:xX o p=false:=by unfold xX;exact by grind
    rw[EF hp z];exact .inr (.inr ⟨.bl false,by simp[y7,a,c],()⟩)
   .have z:xX o p=true:=by unfold xX;exact by grind
    exact .inl ⟨[some (.val (jq r)),some (.val (y7 o)),some (.val (.int p.1)),some (.val (.int p.2))],.inl (by simp[y7,a,c]),⟨_,_,rfl⟩,NY hp hu z⟩
def wN:FS:=(jj (jy 2 (jt Xs (J0 (jb 0) jc))) (jj (jK (iS (jb 1)) (.one 3) (qJ (JE (J6 v6 (J0 (jb 3) (J0 (jb 2) jc)))) (j4 (dC (.bl true))) JT)) (j4 (dC (.bl false)))))
def xm:YG->Res D:=jE 4 2 wN
def gw {r:Jy}{ks:Jz}(a:jB r)(c:r.length<=100):xm [jq r,ji ks]=.ok (.bl (ks.any λo=>JF o r)):=by
 simp[xm,wN,(Gn c a)];refine AC (R:=λz=>(z.bind (xN (j4 (dC (.bl false))))).bind xt=.ok (.bl (ks.any λo=>JF o r))) (P:=λi sd=>(∃u,sd=[some (.val (jq r)),some (.val (ji ks)),some (.val (y7 r)),u])/\∀o∈ks.take i,JF o r=false) () ?_ ?_
 .simp
 .rintro i x sd f ⟨⟨u,rfl⟩,hu⟩;obtain⟨o,hp,rfl⟩:=QF f;have b:=nB (r:=o) a;cases q:JF o r with
  |true =>
   have e:ks.any (λo=>JF o r)=true:=by grind
   simp_all
  |false =>
   rw[q] at b;refine .inl ⟨[some (.val (jq r)),some (.val (ji ks)),some (.val (y7 r)),some (.val (jq o))],.inl (by simp[b]),⟨_,rfl⟩,λy g=>?_⟩;rw[We hp] at g
   grind
def wQ:FS:=(jj (qf 2 (jt Xs (J0 (jb 0) jc))) (jj (jK (iS (jb 1)) (.tup [3,4]) (Y9 2 (jb 3) (jt Wm (J0 (jb 4) (J0 (ye [2] (A9 (jb 2) (jb 3) (jb 4))) jc))))) (λsd=>(j4 (jt Wn (J0 (CC (jb 2)) jc))) (jW [2] sd))))
def zt:YG->Res D:=jE 5 2 wQ
def Q4 (r o:Jy):Jy:=JQ jV (Qt r o)
def nA {r o:Jy}(c:r ≠ [])(or:jB r)(f:jB o)(q:r.length<=20)(lo:o.length<=20):zt [jq r,jq o]=.ok (jq (Q4 r o)):=by
 have g:Xs [.tup (r.map qd)]=some (y7 r):=Gn () or;simp[zt,wQ,g,jq];generalize h:Y9 2 _ _=b;obtain⟨sd',e,u,v,a⟩:=Kc (tg:=.tup [3,4]) (b:=b) (ds:=o.map qd) (sd:=[some (.val (.tup (r.map qd))),some (.val (.tup (o.map qd))),some (.own false (y7 r)),none,none])
  (P:=λi sd=>∃u v,sd=[some (.val (.tup (r.map qd))),some (.val (.tup (o.map qd))),some (.own false (y7 (Qt r (o.take i)))),u,v]) ⟨none,none,rfl⟩ (by
   rintro i x sd j ⟨u,v,rfl⟩;obtain⟨p,hp,rfl⟩:=QF j;have l:Qt r (o.take (i+1))=Uk (Qt r (o.take i)) p:=by
    rw[We hp];unfold Qt;rw[Vp];rfl
   have m:=Cq (o.take i) r;have s:(o.take i).length<=o.length:=by rw[Uy];lia
   have hz:=Qc (show(Qt r (o.take i)).length<=1000 by lia);have n:=CL (Au (o.take i) r or) p.1;subst h;have es:Uk (Qt r (o.take i)) p=qB (Qt r (o.take i)) p.1 (if(JB (Qt r (o.take i)) p.1).getD p.2 > p.2 then(JB (Qt r (o.take i)) p.1).getD p.2 else p.2):=rfl;rw[l,es,<- (PH (Qt r (o.take i)) p.1 (if(JB (Qt r (o.take i)) p.1).getD p.2 > p.2 then(JB (Qt r (o.take i)) p.1).getD p.2 else p.2))];simp[y7,n,hz])
 rw[e];subst a;have m:=Cq o r;simp[(PJ (Fv c f) ()),Q4]
def Bk:FS:=(jj (qf 2 (jf Dh (WM [none,some 1] (iS (jb 0)) (.one 0) (JE (J6 xm (J0 (jb 0) (J0 (jb 1) jc)))) (jb 0)) (WM [none,some 0] (iS (jb 1)) (.one 0) (JE (J6 xm (J0 (jb 0) (J0 (jb 1) jc)))) (jb 0)))) (jj (jy 3 (WM [none,some 0] (iS (jb 1)) (.one 0) (Ku (JE (J6 xm (J0 (jb 0) (J0 (jb 1) jc))))) (jb 0))) (jj (jK (iS (jb 0)) (.one 4) (qJ (Ku (JE (J6 xm (J0 (jb 4) (J0 (jb 1) jc))))) (Xo 2 (Qr [none,some 4] (iS (jb 3)) (.one 0) (J6 zt (J0 (jb 1) (J0 (jb 0) jc))))) JT)) (Kb 2))))
def Z5:YG->Res D:=qc 5 2 Bk
def V9 (f g:Jz):Jz:=f.flatMap λr=>g.map (Q4 r)
def wh {f g:Jz}{q:Jy}:q∈V9 f g↔∃r∈f,∃o∈g,Q4 r o=q:=by
 simp_all [V9]
def dH (f g:Jz):(V9 f g).length=f.length*g.length:=by
 unfold V9
 induction f with
 |nil=>simp
 |cons r f a=>grind
def dL {a b:Jy}(c:jB a)(p:b.Perm a)(t:Int):JB b t=JB a t:=by
 cases h:JB a t with
 |some w=>exact(Fw (((p.map λz:Int×Int=>z.1).nodup_iff).mpr c)).mp (p.mem_iff.mpr (Qi h))
 |none =>
  cases e:JB b t with
  |none=>rfl
  |some w =>
   have:=(Fw c).mp (p.mem_iff.mp (Qi e))
   simp_all
def Bl {r o:Jy}(or:jB r)(a:jB o)(t:Int):JB (Q4 r o) t=jw (JB r t) (JB o t):=by
 rw[<- Ar t o r a];exact dL (Au o r or) (Qz _) t
theorem X6 {r o:Jy}(a:JRow r)(b:JRow o):JRow (Q4 r o):=by
 have e:=Au o r a.once;refine⟨λz=>(Fv a.ne b.once) ?_,?_,λp hp=>?_⟩
 .have:=(Qz (ltb:=jV) (Qt r o)).length_eq
  grind[Q4,List.length_nil]
 .unfold qI Q4;have i:(JQ jV (Qt r o)).Pairwise λx y=>x.1≠y.1:=by
   grind[jB,List.Nodup,List.pairwise_map,Qz]
  rw[U0];refine(List.Pairwise.and (OI e) i).imp λ{x y} h=>?_
  grind[W6]
 .have c:=e.look ((Qz (Qt r o)).mem_iff.mp hp);rw[Ar p.1 o r b.once] at c;cases f:JB r p.1 with
  |some w=>exact a.bnd (p.1,w) (Qi f)
  |none =>
   cases g:JB o p.1 with
   |some w=>exact b.bnd (p.1,w) (Qi g)
   |none=>rw[f,g] at c;cases c
def IJ {r o:Jy}(a:JRow r)(b:JRow o):JF r (Q4 r o)=true:=by
 rw[yQ];intro p hp;rw[Bl a.once b.once,(a.once.look hp)];cases JB o p.1 with
 |none=>exact⟨p.2,rfl,U4 _⟩
 |some y=>exact⟨_,rfl,by split<;>lia⟩
def IK {r o:Jy}(b:JRow r)(a:JRow o):JF o (Q4 r o)=true:=by
 rw[yQ];intro p hp;rw[Bl b.once a.once,(a.once.look hp)];cases JB r p.1 with
 |none=>exact⟨p.2,rfl,U4 _⟩
 |some y=>exact⟨_,rfl,by split<;>lia⟩
def D8 {r o q:Jy}(j:JRow r)(l:JRow o)(g:JF r q=true)(h:JF o q=true):JF (Q4 r o) q=true:=by
 rw[yQ] at g h ⊢;intro p hp;have c:=(X6 j l).once.look hp;rw[Bl j.once l.once] at c;cases f:JB r p.1 with
 |none =>
  rw[f] at c;exact h p (Qi c)
 |some x =>
  cases i:JB o p.1 with
  |none =>
   rw[f,i] at c;cases c;exact g (p.1,p.2) (Qi f)
  |some y =>
   rw[f,i] at c;obtain⟨w,n,a⟩:=g (p.1,x) (Qi f);obtain⟨s,m,b⟩:=h (p.1,y) (Qi i);have e:=Zqi c
   grind
def jL (g:Jz)(r:Jy):Bool:=g.any λo=>JF o r
def rz {g:Jz}{r:Jy}:jL g r=true↔∃o∈g,JF o r=true:=VB
def Kd (f g:Jz)(l:Jz):Jz:=(l.filter λr => !jL g r).flatMap λr=>(g.filter λo => !jL f o).map (Q4 r)
def Kz (f g:Jz):Jz:=(f.filter (jL g)++g.filter (jL f))++Kd f g f
def IL (f g l:Jz):(Kd f g l).length=(l.filter λr => !jL g r).length*(g.filter λo => !jL f o).length:=by
 unfold Kd;generalize l.filter (λr => !jL g r)=a
 induction a with
 |nil=>simp
 |cons r a b=>grind
theorem Bm {α: Type}(p:α -> Bool):∀l:List α,(l.filter p).length+(l.filter λx => !p x).length=l.length
 | []=>rfl
 |x::l=>by
  have:=Bm p l
  grind
def IM {f g:Jz}(a:∀r∈f,JRow r)(b:∀r∈g,JRow r):∀q∈Kz f g,JRow q:=λq hq=>by
 rcases Jb.mp hq with hq|hq
 .grind
 .obtain⟨r,c,hq⟩:=List.mem_flatMap.mp hq
  grind[X6]
def d9 {f g:Jz}(e:∀r∈f,JRow r)(h:∀r∈g,JRow r)(q:Jy):(∃x∈Kz f g,JF x q=true)↔(∃x∈V9 f g,JF x q=true):=by
 constructor
 .rintro⟨x,hx,a⟩;rcases Jb.mp hx with hx|hx
  .rcases Jb.mp hx with hx|hx
   .obtain⟨hx,i⟩:=Je.mp hx;obtain⟨o,b,c⟩:=rz.mp i;exact⟨Q4 x o,wh.mpr (),D8 (e x hx) (h o b) a (Kq c a)⟩
   .obtain⟨hx,i⟩:=Je.mp hx;obtain⟨o,b,c⟩:=rz.mp i;exact⟨Q4 o x,wh.mpr ⟨o,b,x,hx,rfl⟩,D8 (e o b) (h x hx) (Kq c a) a⟩
  .obtain⟨r,j,hx⟩:=List.mem_flatMap.mp hx;exact⟨_,wh.mpr (),a⟩
 .rintro⟨x,hx,a⟩;obtain⟨r,j,o,b,rfl⟩:=wh.mp hx;have l:=Kq (IJ (e r j) (h o b)) a;have m:=Kq (IK (e r j) (h o b)) a
  grind[Kz,Kd]
def gK {f g:Jz}(l:∀r∈f,JRow r)(q:∀r∈g,JRow r)(E:f.length+g.length+f.length*g.length<=1000):Z5 [ji f,ji g]=.ok (ji (Kz f g)):=by
 have m:∀(ks:Jz) (r:Jy),JRow r->xm [jq r,ji ks]=.ok (.bl (jL ks r)):=λks r h=>gw h.once (by have:=h.len;lia);have y:KL (.one 0) (JE (J6 xm (J0 (jb 0) (J0 (jb 1) jc)))) (jb 0) [none,some (.val (ji g))] (f.map jq)=.ok ((f.filter (jL g)).map jq):=
  CM (s:=λr=>[some (.val (jq r)),some (.val (ji g))]) (λr _=>rfl) (λr j=>by simp[m g r (l r j)]) ()
 have m2:KL (.one 0) (JE (J6 xm (J0 (jb 0) (J0 (jb 1) jc)))) (jb 0) [none,some (.val (ji f))] (g.map jq)=.ok ((g.filter (jL f)).map jq):=
  CM (s:=λr=>[some (.val (jq r)),some (.val (ji f))]) (λr _=>rfl) (λr j=>by simp[m f r (q r j)]) ()
 have t:KL (.one 0) (Ku (JE (J6 xm (J0 (jb 0) (J0 (jb 1) jc))))) (jb 0) [none,some (.val (ji f))] (g.map jq)=.ok ((g.filter λo => !jL f o).map jq):=
  CM (s:=λr=>[some (.val (jq r)),some (.val (ji f))]) (λr _=>rfl) (λr j=>by simp[m f r (q r j)]) ()
 have O:=Bm (jL g) f;have F:=Bm (jL f) g;have a:∀o∈g.filter (λo => !jL f o),JRow o:=λo n=>q o (Je.mp n).1;have z:Kz f g=(f.filter (jL g)++g.filter (jL f))++Kd f g f:=rfl;have bl:∀i,(Kd f g (f.take i)).length<=min i f.length*g.length:=λi=>by
  rw[IL];refine Nat.mul_le_mul ?_ (VD _ _);have:=VD (λr => !jL g r) (f.take i);rw[Uy] at this;exact this
 have B:∀(i:Nat) (r:Jy),f[i]? = some r->Kd f g (f.take (i+1))=Kd f g (f.take i)++(if jL g r=true then[] else(g.filter λo => !jL f o).map (Q4 r)):=λi r j=>by
  unfold Kd;rw[We j,List.filter_append,List.flatMap_append];cases c:jL g r with
  |true=>rw[List.filter_cons_of_neg (by rw[c];simp),Zd rfl];rfl
  |false=>rw[List.filter_cons_of_pos (by rw[c];rfl),Ze Zj];simp
 generalize Q:(g.filter λo => !jL f o)=rest at t a B F;have R:rest.length<=g.length:=()
 generalize C:f.filter (jL g)++g.filter (jL f)=A at z;have S:A.length<=f.length+g.length:=by rw[<- C,Ub];lia
 have G:(f.filter (jL g)).length+(g.filter (jL f)).length<=sizeLine:=QK ();have H:(f.filter (jL g)).map jq++(g.filter (jL f)).map jq=A.map jq:=by rw[<- C,Uc]
 obtain⟨sd',e,u,v⟩:=Kc (tg:=.one 4) (b:=(qJ (Ku (JE (J6 xm (J0 (jb 4) (J0 (jb 1) jc))))) (Xo 2 (Qr [none,some 4] (iS (jb 3)) (.one 0) (J6 zt (J0 (jb 1) (J0 (jb 0) jc))))) JT)) (ds:=f.map jq) (sd:=[some (.val (ji f)),some (.val (ji g)),some (.own false (.lst (A.map jq))),some (.val (.lst (rest.map jq))),none])
  (P:=λi sd=>∃(u:Option SV),sd=[some (.val (ji f)),some (.val (ji g)),some (.own false (.lst ((A++Kd f g (f.take i)).map jq))),some (.val (.lst (rest.map jq))),u]) ⟨none,by rw[List.take_zero];simp[Kd]⟩ (by
   rintro i x sd I ⟨u,rfl⟩;obtain⟨r,j,rfl⟩:=QF I;have T:=(Jc.mp j).1;have p:=Uf j;have c1:=m g r (l r p);have U:=bl i;have J:(min i f.length+1)*g.length<=f.length*g.length:=Nat.mul_le_mul () (Zf _);rw[Nat.succ_mul] at J;rw[B i r j];cases c:jL g r with
   |true =>
    rw[c] at c1;rw[Zd rfl,ZB];exact⟨[some (.val (ji f)),some (.val (ji g)),some (.own false (.lst ((A++Kd f g (f.take i)).map jq))),some (.val (.lst (rest.map jq))),some (.val (jq r))],by simp[c1],_,rfl⟩
   |false =>
    rw[c] at c1;rw[Ze Zj];have w:jQ (.one 0) (J6 zt (J0 (jb 1) (J0 (jb 0) jc))) [none,some (.val (jq r))] (rest.map jq)=.ok (rest.map λo=>jq (Q4 r o)):=Kw λo n=>by
     have E:=(l r p).len;have X:=(a o n).len;simp[nA (l r p).ne (l r p).once (a o n).once () ()]
    have K:(rest.map (Q4 r)).map jq=rest.map λo=>jq (Q4 r o):=by rw[Zw];rfl
    have sz:(A++Kd f g (f.take i)).length+rest.length<=sizeLine:=QK (by rw[Ub];lia);have L:=Qc (show rest.length<=1000 from ());refine⟨[some (.val (ji f)),some (.val (ji g)),some (.own false (.lst ((A++(Kd f g (f.take i)++rest.map (Q4 r))).map jq))),some (.val (.lst (rest.map jq))),some (.val (jq r))],?_,_,rfl⟩;rw[<- Uh];generalize A++Kd f g (f.take i)=acc at sz ⊢;rw[Uc,K];simp[c1,w,L,sz])
 subst v;rw[Zql,UU] at e;have M:=Qc (show f.length<=1000 from ());have N:=Qc (show g.length<=1000 from ());rw[z];simp[ji] at y m2 t e ⊢;simp[Z5,Bk,y,m2,t,M,N,G,H,e]
def wO:FS:=(jj (qf 2 (qG jc)) (jj (jK (iS (jt YS (J0 (jt YR (J0 (jb 0) jc)) jc))) (.one 3) (jj (qJ (JE (jf xK (ye [2] (jt jP (J0 (jb 2) jc))) (jb 1))) vn JT) (qJ (Ku (JE (ye [2] (J6 xm (J0 (jb 3) (J0 (jb 2) jc)))))) (QL 2 (jb 3)) JT))) (Kb 2)))
def wS:YG->Res D:=qc 4 2 wO
def cx (rs):(JQ j8 (qO rs)).Pairwise λa b=>j8 a b=true:=YZ xU (Hr rs)
def cc {rs:Jz}{en:Int}(ne:∀r∈rs,r ≠ [])(l:∀r∈rs,qI r)(m:∀r∈rs,r.length<=100)(t:rs.length<1000)(H:0<=en):wS [ji rs,.int en]=.ok (ji ((xH rs).take en.toNat)):=by
 have dl:=Hs rs;have v:YR [ji rs]=some (.lst ((JQ j8 (qO rs)).map jq)):=S4 ne () ();have I:(JQ j8 (qO rs)).length=(qO rs).length:=(Qz (ltb:=j8) _).length_eq;have w:YS [.lst ((JQ j8 (qO rs)).map jq)]=some (.lst ((qS rs).map jq)):=SF (cx rs) () λr y=>by
  have:=m r (bS.mp ((Qz (ltb:=j8) _).mem_iff.mp y));lia
 have c:=Iq l;have n:∀r,r∈qS rs->r∈rs:=λr h=>fR.mp h;have A:=Ip rs;have B:xH rs=(qS rs).filter (qk rs):=rfl;rw[B];simp[wS,wO,v,w];generalize qS rs=L at c n A;refine AC (R:=λz=>(z.bind (xN (Kb 2))).bind xO=.ok (ji ((L.filter (qk rs)).take en.toNat))) (P:=λi sd=>i<=L.length/\(((L.take i).filter (qk rs)).length:Int)<=en/\∃u,sd=[some (.val (ji rs)),some (.val (.int en)),some (.own false (.lst (((L.take i).filter (qk rs)).map jq))),u]) ⟨Ua _,(),none,rfl⟩ ?_ ?_
 .rintro sd ⟨_,le,u,rfl⟩;rw[Zql,UU] at le ⊢;rw[UX ()];rfl
 .rintro i x sd C ⟨_,le,u,rfl⟩;obtain⟨r,hp,rfl⟩:=QF C;have J:=(Jc.mp hp).1;have j:=c (i+1) ();rw[We hp,Vp,c i (),<- We hp] at j;have j:ze ((L.take i).filter (qk rs)) r=(L.take (i+1)).filter (qk rs):=j;have E:((L.take i).filter (qk rs)).length<=i:=by
   have a:=VD (qk rs) (L.take i);rw[Uy] at a;lia
  rw[<- j];have p:=n r (Uf hp);have f:=gw (r:=r) (ks:=(L.take i).filter (qk rs)) (Bd (l r p)) (m r p);have e:L.filter (qk rs)=(L.take i).filter (qk rs)++(L.drop i).filter (qk rs):=by rw[<- List.filter_append,UM]
  generalize (L.take i).filter (qk rs)=ks at E f le e;have f:xm [jq r,.lst (ks.map jq)]=.ok (.bl (ks.any λo=>JF o r)):=f;have hz:=Qc (show ks.length<=1000 from ());by_cases g:(ks.length:Int)=en
  .have F:(L.filter (qk rs)).take en.toNat=ks:=by
    rw[e,List.take_left' ()]
   refine .inr (.inl ⟨[some (.val (ji rs)),some (.val (.int en)),some (.own false (.lst (ks.map jq))),some (.val (jq r))],by simp[g],?_⟩);rw[F];simp[ji]
  .have s:∀b,(ks.any λo=>JF o r)=b->ze ks r=if b=true then ks else ks++[r]:=λb G=>by unfold ze;rw[G]
   cases q:ks.any λo=>JF o r with
   |true =>
    rw[q] at f;rw[s true q,Zd rfl];exact .inl ⟨[some (.val (ji rs)),some (.val (.int en)),some (.own false (.lst (ks.map jq))),some (.val (jq r))],.inl (by simp[g,f]),(),le,_,rfl⟩
   |false =>
    rw[q] at f;rw[s false q,Ze Zj];exact .inl ⟨[some (.val (ji rs)),some (.val (.int en)),some (.own false (.lst ((ks++[r]).map jq))),some (.val (jq r))],.inl (by simp[g,f,hz]),(),(by rw[Ub,Us];lia),_,rfl⟩
def Z7:FS:=(jj (jy 2 (QD wS (J0 (jb 0) (J0 (jf ju (jb 1) (dC (.int 1))) jc)))) (jj (qJ (JE (jf vF (jt jP (J0 (jb 2) jc)) (jb 1))) (AO "TooMany" (qX (w6 "more than ") (jb 1))) JT) (j4 (jt Wp (J0 (jb 2) jc)))))
def Q9:YG->Res D:=qc 3 2 Z7
def dD (rs:Jz):(xH rs).length=(JZ rs).length:=by
 rw[<- Ir,(Qz _).length_eq]
def jR (most:Int)(t:Jz):Option Jz:=if(t.length:Int)<=most then some t else none
def xr:Option Jz->Res D
 |some t=>.ok (ji t)
 |none=>.ex "TooMany" []
def D9 {rs:Jz}{most:Int}(ne:∀r∈rs,r ≠ [])(h:∀r∈rs,qI r)(i:∀r∈rs,r.length<=100)(e:rs.length<1000)(m:0<=most)(j:most<=1000):Q9 [ji rs,.int most]=xr (jR most (JZ rs)):=by
 have f:=cc (en:=most+1) ne h i e ();have n:(xH rs).length<=rs.length:=Zh (VD _ _) (Ip rs);have o:=dD rs;unfold jR;by_cases c:((JZ rs).length:Int)<=most
 .rw[Zd c];rw[UX ()] at f;have b:Wp [ji (xH rs)]=some (.lst ((JQ j8 (xH rs)).map jq)):=Ic (λr l=>ne r (fR.mp (Je.mp l).1)) ();rw[Ir] at b;have b:Wp [ji (xH rs)]=some (ji (JZ rs)):=b;have g:¬most<((xH rs).length:Int):=()
  show _=Res.ok (ji (JZ rs));simp[Q9,Z7,f,g,b]
 .rw[Ze c];have g:most<(((xH rs).take (most+1).toNat).length:Int):=by
   grind
  have ⟨z,hz⟩:=SN (x:= "more than ") (a:=most) () ();show _=Res.ex "TooMany" []
  simp_all [Q9,Z7]
def zU:FS:=(jj (jy 2 (J6 Q9 (J0 (jf j6 (jb 0) (dC (.int 0))) (J0 (jb 1) jc)))) (jj (jK (iS (bG (jb 0) (AD (dC (.int 1))) Xv Xv)) (.one 3) (jy 2 (J6 Q9 (J0 (QD Z5 (J0 (jb 2) (J0 (jb 3) jc))) (J0 (jb 1) jc))))) (j4 (jb 2))))
def xl:YG->Res D:=jE 4 2 zU
def K0 (t f:Jz):Jz:=JZ (V9 t f)
structure AllOk (fs:List Jz)(t:Jz):Prop where
 row:∀r∈t,JRow r
 abv:∀r∈t,∀f∈fs,∃s∈f,JF s r=true
 least:∀q:Jy,(∀f∈fs,∃s∈f,JF s q=true)->∃r∈t,JF r q=true
 anti:∀r∈t,∀s∈t,JF r s=true->r=s
 strict:t.Pairwise λa b=>j8 a b=true
def DA {r:Jy}(o:jB r):JF r r=true:=yQ.mpr λp hp=>⟨p.2,o.look hp,U4 _⟩
def DB {rs:Jz}:∀r∈JZ rs,∀s∈JZ rs,JF r s=true->r=s:=λr a s hs b=>wg.mp (xE.mp hs).2 r (xE.mp a).1 b
def IN {f:Jz}(h:∀r∈f,JRow r):AllOk [f] (JZ f):=by
 refine⟨λr a=>h r (xE.mp a).1,λr a g c=>?_,λq e=>?_,DB,Wv f⟩
 .rw[Jd.mp c];exact⟨r,(xE.mp a).1,DA (h r (xE.mp a).1).once⟩
 .obtain⟨s,hs,i⟩:=e f ();obtain⟨r,a,b⟩:=X4 (λr a=>⟨(h r a).once,(h r a).rise⟩) hs;exact⟨r,a,Kq b i⟩
def IP {fs:List Jz}{t f:Jz}(A:AllOk fs t)(h:∀r∈f,JRow r):AllOk (fs++[f]) (K0 t f):=by
 have b:∀q∈V9 t f,JRow q:=λq e=>by
  obtain⟨r,a,o,c,rfl⟩:=wh.mp e;exact X6 (A.row r a) (h o c)
 refine⟨λr a=>b r (xE.mp a).1,λq e g m=>?_,λq e=>?_,DB,Wv _⟩
 .obtain⟨r,a,o,c,rfl⟩:=wh.mp (xE.mp e).1;rcases Jb.mp m with z|z
  .obtain⟨s,hs,i⟩:=A.abv r a g z;exact⟨s,hs,Kq i (IJ (A.row r a) (h o c))⟩
  .rw[Jd.mp z];exact⟨o,c,IK (A.row r a) (h o c)⟩
 .obtain⟨r,a,i⟩:=A.least q λg m=>e g ();obtain⟨o,c,j⟩:=e f ();obtain⟨s,hs,l⟩:=X4 (λr a=>⟨(b r a).once,(b r a).rise⟩) (wh.mpr ⟨r,a,o,c,rfl⟩);exact⟨s,hs,Kq l (D8 (A.row r a) (h o c) i j)⟩
def DC {rs:Jz}(h:∀r∈rs,JRow r)(b:rs ≠ []):JZ rs ≠ []:=λz=>by
 cases rs with
 |nil=>exact b rfl
 |cons r rs =>
  obtain⟨s,hs,_⟩:=X4 (λr a=>⟨(h r a).once,(h r a).rise⟩) (Zqs)
  simp_all
def d8 {f g:Jz}(a:f ≠ [])(b:g ≠ []):V9 f g ≠ []:=λz=>by
 have:=dH f g;rw[z,ZD] at this;have:=Nat.mul_pos (Jp.mpr a) (Jp.mpr b);lia
def IQ {a b:Jz}(i:∀r∈a,JRow r)(e:∀r∈b,JRow r)(h:∀q,(∃x∈a,JF x q=true)↔∃x∈b,JF x q=true):JZ a=JZ b:=by
 have f:∀{a b:Jz},(∀r∈a,JRow r)->(∀r∈b,JRow r)->(∀q,(∃x∈a,JF x q=true)↔∃x∈b,JF x q=true)->∀r,r∈JZ a->r∈JZ b:=by
  intro a b i e h r l;obtain⟨m,s⟩:=xE.mp l;obtain⟨y,t,u⟩:=(h r).mp ⟨r,m,DA (i r m).once⟩;obtain⟨j,n,o⟩:=X4 (λr l=>⟨(e r l).once,(e r l).rise⟩) t;have c:=(xE.mp n).1;have p:=Kq o u;obtain⟨x,v,g⟩:=(h j).mpr ⟨j,c,DA (e j c).once⟩;rw[(wg.mp s x v (Kq g p))] at g
  rwa [Ii (i r m).once (e j c).once (i r m).rise (e j c).rise g p]
 exact W9 xU (Wv a) (Wv b) λr=>⟨f i e h r,f e i (λq=>(h q).symm) r⟩
def IR {f g:Jz}(a:∀r∈f,JRow r)(b:∀r∈g,JRow r):∀q∈V9 f g,JRow q:=λq c=>by
 obtain⟨r,e,o,h,rfl⟩:=wh.mp c;exact X6 (a r e) (b o h)
def dj {t g:Jz}(a:∀r∈t,JRow r)(b:∀r∈g,JRow r):JZ (Kz t g)=K0 t g:=IQ (IM a b) (IR a b) (d9 a b)
def x4 (most:Int):Jz->List Jz->Option Jz
 |t,[]=>some t
 |t,g::gs=>(jR most (K0 t g)).bind λt'=>x4 most t' gs
def IS (most)(t g)(gs):x4 most t (g::gs)=(jR most (K0 t g)).bind λt'=>x4 most t' gs:=rfl
def yf (most:Int)(f:Jz)(fs:List Jz):Option Jz:=(jR most (JZ f)).bind λt=>x4 most t fs
def WW {most:Int}{t t':Jz}(h:jR most t=some t'):t'=t/\(t.length:Int)<=most:=by
 grind[jR]
def dq {t g:Jz}(a:∀r∈t,JRow r)(b:∀r∈g,JRow r)(c:t ≠ [])(e:g ≠ []):K0 t g ≠ []:=DC (IR a b) (d8 c e)
theorem IT {most:Int}:∀{a fs:List Jz} {t t':Jz},AllOk fs t->(t.length:Int)<=most->t ≠ []->(∀g∈a,g ≠ []/\∀r∈g,JRow r)->x4 most t a=some t'->AllOk (fs++a) t'/\(t'.length:Int)<=most/\t' ≠ []
 | [],fs,t,t',A,hl,hn,_,h=>by
  cases h
  simp_all
 |g::a,fs,t,t',A,hl,hn,hg,h=>by
  unfold x4 at h;cases q:jR most (K0 t g) with
  |none=>simp_all
  |some i =>
   rw[q] at h;obtain⟨e,c⟩:=WW q;have b:=hg g Zqs;have:=IT (IP A b.2) c (dq A.row b.2 hn b.1) (λx f=>hg x (Zqm _ f)) (by rwa [<- e])
   simp_all
def HU (a:f ≠ []/\∀r∈f,JRow r)(b:∀g∈fs,g ≠ []/\∀r∈g,JRow r)(h:yf most f fs=some t):AllOk (f::fs) t/\(t.length:Int)<=most/\t ≠ []:=by
 unfold yf at h;cases q:jR most (JZ f) with
 |none=>simp_all
 |some i =>
  rw[q] at h;obtain⟨e,c⟩:=WW q;exact IT (IN a.2) c (DC a.2 a.1) b (by rwa [<- e])
def cr {f:Jz}{fs:List Jz}{most:Int}(o:f ≠ []/\∀r∈f,JRow r)(c:∀g∈fs,g ≠ []/\∀r∈g,JRow r)(u:f.length<1000)(B:0<=most)(m2:most<=1000)(M:fs.length<=900)
 (sz:∀(i:Nat) (t g:Jz),AllOk (f::fs.take i) t->(t.length:Int)<=most->fs[i]? = some g->(Kz t g).length<1000/\t.length+g.length+t.length*g.length<=1000):
 xl [.lst ((f::fs).map ji),.int most]=xr (yf most f fs):=by
 have h:=D9 (rs:=f) (most:=most) (λr a=>(o.2 r a).ne) (λr a=>(o.2 r a).rise) (λr a=>by have:=(o.2 r a).len;lia) u B m2;have p:qh ((f::fs).map ji) 0=some (ji f):=by
  rw[show((0:Int))=((0:Nat):Int) from rfl,Wu ()];rfl
 have G:Qv (ji f::fs.map ji) (some 1) none none=fs.map ji:=by
  rw[Ij _ ()];rfl
 unfold yf;cases q:jR most (JZ f) with
 |none =>
  rw[q] at h;have h:Q9 [ji f,.int most]=.ex "TooMany" []:=h;show _=Res.ex "TooMany" [];simp[xl,zU] at p ⊢;simp[p,h]
 |some l =>
  rw[q] at h;obtain⟨H,N⟩:=WW q;have h:Q9 [ji f,.int most]=.ok (ji l):=h;show _=xr (x4 most l fs);have O:AllOk [f] l:=by rw[H];exact IN o.2
  have n:((qE (.one 3) (jy 2 (J6 Q9 (J0 (QD Z5 (J0 (jb 2) (J0 (jb 3) jc))) (J0 (jb 1) jc)))) (fs.map ji) [some (.val (.lst ((f::fs).map ji))),some (.val (.int most)),some (.val (ji l)),none]).bind (xN (j4 (jb 2)))).bind xt=xr (x4 most l fs):=by
   refine HC (R:=λz=>(z.bind (xN (j4 (jb 2)))).bind xt=xr (x4 most l fs)) (P:=λi sd=>∃(t:Jz) (v:Option SV),sd=[some (.val (.lst ((f::fs).map ji))),some (.val (.int most)),some (.val (ji t)),v]/\AllOk (f::fs.take i) t/\(t.length:Int)<=most/\x4 most t (fs.drop i)=x4 most l fs) () ?_ ?_
   .rintro sd ⟨t,v,rfl,A,lt,j⟩;rw[Zql,Vb] at j;rw[<- j];simp[xr,x4]
   .rintro i x sd I ⟨t,v,rfl,A,lt,j⟩;obtain⟨g,m,rfl⟩:=QF I;have C:=(Jc.mp m).1;have s:=Uf m;obtain⟨J,K⟩:=sz i t g A lt m;have E:=gK (f:=t) (g:=g) A.row (c g s).2 K;have b:=IM A.row (c g s).2;have e:=D9 (rs:=Kz t g) (most:=most) (λr a=>(b r a).ne) (λr a=>(b r a).rise) (λr a=>by have:=(b r a).len;lia) J B m2;rw[dj A.row (c g s).2] at e;have L:fs.drop i=g::fs.drop (i+1):=by
     rw[Uu C];rw[Zqg C] at m;rw[Zqi m]
    rw[L,IS] at j;cases y:jR most (K0 t g) with
    |none =>
     rw[y] at e j;have e:Q9 [ji (Kz t g),.int most]=.ex "TooMany" []:=e;refine .inr ⟨"TooMany",[],by simp[E,e],?_⟩;rw[<- j];rfl
    |some w =>
     rw[y] at e j;obtain⟨F,u⟩:=WW y;have e:Q9 [ji (Kz t g),.int most]=.ok (ji w):=e;refine .inl ⟨[some (.val (.lst ((f::fs).map ji))),some (.val (.int most)),some (.val (ji w)),some (.val (ji g))],by simp[E,e],w,_,rfl,?_,by rw[F];exact u,j⟩;rw[We m,F];exact IP A (c g s).2
  simp[xl,zU] at p n ⊢;simp[p,h,G,n]
def dr {f g:Jz}(b:g ≠ []):(Kz f g).length<=f.length*g.length+g.length:=by
 unfold Kz;rw[Ub,Ub,IL];have a:=Bm (jL g) f;have p:0<g.length:=by grind
 have d:=Nat.mul_le_mul (Zf (f.filter λr => !jL g r).length) (VD (λo => !jL f o) g);have e:=Nat.le_mul_of_pos_right (f.filter (jL g)).length p
 grind[Nat.add_mul]
def Bn:FS:=(j4 (jt Wn (J0 (Qr [none,none] (iS (jb 0)) (.tup [0,1]) (xh (J0 (jb 0) (J0 (qX xy (jb 1)) jc)))) jc)))
def Z8:YG->Res D:=jE 1 1 Bn
def gJ {r:Jy}(a:r.length<=1000):Z8 [jq r]=.ok (jq (jN r)):=by
 have k2:jQ (.tup [0,1]) (xh (J0 (jb 0) (J0 (qX xy (jb 1)) jc))) [none,none] (r.map qd)=.ok (r.map λp=>qd (p.1,-p.2)):=Kw λp _=>by
  simp;rfl
 have e:jq (jN r)=.tup (r.map λp=>qd (p.1,-p.2)):=by unfold jq jN;rw[Zw];rfl
 rw[e];simp[Z8,Bn,k2,Qc a]
def Bo:FS:=(j4 (Qr [none] (iS (jb 0)) (.one 0) (J6 Z8 (J0 (jb 0) jc))))
def Bp:YG->Res D:=qc 1 1 Bo
def gH {rs:Jz}(b:∀r∈rs,r.length<=1000)(c:rs.length<=1000):Bp [ji rs]=.ok (ji (rs.map jN)):=by
 have a:jQ (.one 0) (J6 Z8 (J0 (jb 0) jc)) [none] (rs.map jq)=.ok (rs.map λr=>jq (jN r)):=Kw λr f=>by simp[gJ (b r f)]
 have e:ji (rs.map jN)=.lst (rs.map λr=>jq (jN r)):=by unfold ji;rw[Zw];rfl
 rw[e];simp[Bp,Bo,a,Qc c]
def wP:FS:=(j4 (jt Wn (J0 (Qr [none,none,some 1] (iS (jb 0)) (.tup [0,1]) (xh (J0 (jb 0) (J0 (jf ju (jb 1) (jb 2)) jc)))) jc)))
def zW:YG->Res D:=jE 2 2 wP
def Q1 (r:Jy)(w:Int):Jy:=r.map λp=>(p.1,p.2+w)
def n9 {r:Jy}{w:Int}(b:r.length<=1000):zW [jq r,.int w]=.ok (jq (Q1 r w)):=by
 have a:jQ (.tup [0,1]) (xh (J0 (jb 0) (J0 (jf ju (jb 1) (jb 2)) jc))) [none,none,some (.val (.int w))] (r.map qd)=.ok (r.map λp=>qd (p.1,p.2+w)):=Kw λp hp=>by
  rfl
 simp[zW,wP,jq,a,Qc b,Q1]
def wM:FS:=(j4 (Qr [none,some 1] (iS (jb 0)) (.one 0) (J6 zW (J0 (jb 0) (J0 (jb 1) jc)))))
def xR:YG->Res D:=qc 2 2 wM
def Qd (f:Jz)(w:Int):Jz:=f.map λr=>Q1 r w
def vu {f:Jz}{w:Int}(b:f.length<=1000)(c:∀r∈f,r.length<=1000):xR [ji f,.int w]=.ok (ji (Qd f w)):=by
 have a:jQ (.one 0) (J6 zW (J0 (jb 0) (J0 (jb 1) jc))) [none,some (.val (.int w))] (f.map jq)=.ok (f.map λr=>jq (Q1 r w)):=Kw λr h=>by
  simp[n9 (c r h)]
 have e:(Qd f w).map jq=f.map λr=>jq (Q1 r w):=by unfold Qd;simp
 simp[xR,wM,ji,a,Qc b,e]
def IU (fs:List Jz)(ds:Yh):yk (fs.map ji) (ds.map .int)=(fs.zip ds).map λp=>D.tup [ji p.1,.int p.2]:=by
 unfold yk
 induction fs generalizing ds with
 |nil=>rfl
 |cons x a b =>
  cases ds with
  |nil=>rfl
  |cons y ys=>simp_all
def ZE:FS:=(jj (jy 3 (Qr [none,none] (iZ (J0 (jb 0) (J0 (jb 1) jc))) (.tup [0,1]) (QD xR (J0 (jb 0) (J0 (qX xy (jb 1)) jc))))) (j4 (jt Wp (J0 (QD Bp (J0 (J6 xl (J0 (jb 3) (J0 (jb 2) jc))) jc)) jc))))
def Ww:YG->Res D:=qc 4 3 ZE
def WX (fs:List Jz)(ds:Yh):List Jz:=(fs.zip ds).map λp=>Qd p.1 (-p.2)
def IV {fs:List Jz}{ds:Yh}(m:ds.length=fs.length)(n:fs.length<=1000)(i:∀f∈fs,∀r∈f,JRow r)(j:∀f∈fs,f.length<=1000):
 jQ (.tup [0,1]) (QD xR (J0 (jb 0) (J0 (qX xy (jb 1)) jc))) [none,none] (yk (fs.map ji) (ds.map .int))=.ok ((WX fs ds).map ji)/\(yk (fs.map ji) (ds.map .int)).length<sizeLine:=by
 have c:jQ (.tup [0,1]) (QD xR (J0 (jb 0) (J0 (qX xy (jb 1)) jc))) [none,none] ((fs.zip ds).map λp=>D.tup [ji p.1,.int p.2])=.ok ((fs.zip ds).map λp=>ji (Qd p.1 (-p.2))):=Kw λp hp=>by
  have g:=(List.of_mem_zip (a:=p.1) (b:=p.2) hp).1;have:=j p.1 g;have l:=vu (f:=p.1) (w:=-p.2) () λr h=>by have:=(i p.1 g r h).len;lia
  simp[l]
 have e:((fs.zip ds).map λp=>ji (Qd p.1 (-p.2)))=(WX fs ds).map ji:=by unfold WX;rw[Zw];rfl
 rw[e,<- IU] at c;refine⟨c,?_⟩;rw[IU,Zql,List.length_zip];exact Qc ()
def cm {fs:List Jz}{ds:Yh}{most:Int}{t:Jz}(g:ds.length=fs.length)(i:fs.length<=1000)(j:∀f∈fs,∀r∈f,JRow r)(l:∀f∈fs,f.length<=1000)
 (b:xl [.lst ((WX fs ds).map ji),.int most]=.ok (ji t)) (c:∀r∈t,JRow r) (lt:t.length<1000):Ww [.lst (fs.map ji),.lst (ds.map .int),.int most]=.ok (ji (JQ j8 (t.map jN))):=by
 obtain⟨a,e⟩:=IV g i j l;generalize WX fs ds=as at a b;have m:=gH (rs:=t) (λr h=>by have:=(c r h).len;lia) ();have n:Wp [ji (t.map jN)]=some (ji (JQ j8 (t.map jN))):=Ic (λr h=>by
  obtain⟨q,o,rfl⟩:=Ja.mp h;exact λz=>(c q o).ne (Jf.mp z)) (by rw[Zql];lia)
 simp[Ww,ZE] at a e b ⊢;simp[a,e,b,m,n]
def zV:FS:=(jj (qf 2 (J6 Q9 (J0 (jf j6 (jb 0) (dC (.int 0))) (J0 (jb 1) jc)))) (jj (jK (iS (bG (jb 0) (AD (dC (.int 1))) Xv Xv)) (.one 3) (λsd=>(qf 2 (J6 Q9 (J0 (jf ju (jb 2) (jb 3)) (J0 (jb 1) jc)))) (jW [2] sd))) (Kb 2)))
def yi:YG->Res D:=qc 4 2 zV
def yZ (most:Int):Jz->List Jz->Option Jz
 |t,[]=>jR most t
 |t,g::gs=>(jR most t).bind λ_=>yZ most (xp t g) gs
def IW {most:Int}{t:Jz}(h:jR most t=none)(a):yZ most t a=none:=by
 cases a with
 |nil=>exact h
 |cons g a=>show(jR most t).bind _=none;rw[h];rfl
def Bq {most:Int}{t:Jz}(h:(t.length:Int)<=most):jR most t=some t:=Zd h
def IX {most:Int}{t:Jz}(h:most<(t.length:Int)):jR most t=none:=Ze ()
def Br:FS:=(j4 (J6 xl (J0 (Qr [none,none,some 1] (iS (jb 0)) (.tup [0,1]) (QD xR (J0 (jf j6 (jb 2) (jb 0)) (J0 (jb 1) jc)))) (J0 (jb 2) jc))))
def Ki:YG->Res D:=jE 3 3 Br
def qx (fs:List Jz)(t:Int):Jz:=fs.getD t.toNat []
def Bt {fs:List Jz}{t:Int}(a:0<=t)(b:t<(fs.length:Int)):qx fs t∈fs:=by
 simp_all [qx]
def IY {fs:List Jz}{t:Int}(a:0<=t)(b:t<(fs.length:Int)):qh (fs.map ji) t=some (ji (qx fs t)):=by
 grind[Zql,List.getElem?_map,qx,Wu]
def ci {r:Jy}{fs:List Jz}(c:∀p∈r,0<=p.1/\p.1<(fs.length:Int))(e:∀f∈fs,f.length<=1000/\∀r∈f,r.length<=1000):
 jQ (.tup [0,1]) (QD xR (J0 (jf j6 (jb 2) (jb 0)) (J0 (jb 1) jc))) [none,none,some (.val (.lst (fs.map ji)))] (r.map qd)=.ok ((r.map λp=>Qd (qx fs p.1) p.2).map ji):=by
 rw[Zw];exact Kw λp hp=>by
  obtain⟨a,b⟩:=c p hp;obtain⟨g,h⟩:=e _ (Bt a b);simp[(IY a b),(vu g h)]
def zr:FS:=(j4 (J6 yi (J0 (Qr [none,some 1,some 2] (iS (jb 0)) (.one 0) (J6 Ki (J0 (jb 0) (J0 (jb 1) (J0 (jb 2) jc))))) (J0 (jb 2) jc))))
def xI:YG->Res D:=qc 3 3 zr
def n8 {a:Jz}{fs:List Jz}{most:Int}{g:Jy->Jz}{d:D}(c:a.length<=100)
 (e:∀r∈a,Ki [jq r,.lst (fs.map ji),.int most]=.ok (ji (g r))) (h:yi [.lst ((a.map g).map ji),.int most]=.ok d):xI [ji a,.lst (fs.map ji),.int most]=.ok d:=by
 have b:jQ (.one 0) (J6 Ki (J0 (jb 0) (J0 (jb 1) (J0 (jb 2) jc)))) [none,some (.val (.lst (fs.map ji))),some (.val (.int most))] (a.map jq)=.ok ((a.map g).map ji):=by
  rw[Zw];exact Kw λr h=>by
   simp_all
 have hz:=Qc (show a.length<=1000 from ())
 simp_all [xI,zr]
def VZ (a:YG->HP->Res (D×HP)):qz:=(bF (z9 (JE (jf xK (jb 1) (dC (.str "all"))))) (zx (J6 xl (J0 (jb 2) (J0 (jb 3) jc)))) (bF (z9 (JE (jf xK (jb 1) (dC (.str "first"))))) (zx (J6 yi (J0 (jb 2) (J0 (jb 3) jc)))) (yE (zC (wp [4] (JE (jf (w5 true) (jb 1) (jb 4)))) (AZ (jb 4) (jb 1) (z8 wy (V7 a (J0 (jb 0) (J0 (jb 1) (J0 (jb 3) (J0 (jb 4) jc))))) (zx (qX xy (dC (.int 1)))))) Dm) (AY xI (Ws (zA (jb 4) (jb 1)) (Ws (zx (jb 2)) (Ws (zx (jb 3)) AV)))))))
def Bu:FS:=(jj (jK (iS (qX (qW "Book" "plans") (jb 0))) (.one 2) (qJ (JE (jf xK (qX (qW "Plan" "name") (jb 2)) (jb 1))) (j4 (jb 2)) JT)) rJ)
def ZF:YG->Res D:=jE 3 2 Bu
def IZ {ps:List Pl}{x:Str}{p:Pl}(j:asc x)(hp:∀p∈ps,asc p.name)(g:ps.find? (λp=>decide (p.name=x))=some p):ZF [JD ps,.str x]=.ok (Qw p):=by
 have l:qE (.one 2) (qJ (JE (jf xK (qX (qW "Plan" "name") (jb 2)) (jb 1))) (j4 (jb 2)) JT) (ps.map Qw) [some (.val (JD ps)),some (.val (.str x)),none]=.ok (.ret (Qw p)):=by
  refine AC (R:=λr=>r=.ok (.ret (Qw p))) (P:=λi sd=>(∀q∈ps.take i,decide (q.name=x)=false)/\∃u,sd=[some (.val (JD ps)),some (.val (.str x)),u]) () (λsd ⟨e,f⟩=>?_) λi d sd m ⟨e,u,f⟩=>?_
  .grind
  .obtain⟨q,a,rfl⟩:=QF m;have n:q∈ps:=by grind
   have b:=(λp o=>Ky (hp p o) j) q n;have tk:ps.take (i+1)=ps.take i++[q]:=by rw[Vv,a];rfl
   cases c:decide (q.name=x) with
   |true =>
    rw[c] at b;refine .inr (.inr ⟨Qw q,?_,?_⟩)
    .subst f;simp[b]
    .rw[Ik e a c] at g;cases g;rfl
   |false =>
    rw[c] at b;refine .inl ⟨[some (.val (JD ps)),some (.val (.str x)),some (.val (Qw q))],.inl ?_,λy h=>?_,_,rfl⟩
    .subst f;simp[b]
    .rw[tk] at h;rcases Jb.mp h with z|z
     .exact e y z
     .rwa [Jd.mp z]
 simp[ZF,Bu,l]
def v3:FS:=(j4 (qG (J0 (xh (J0 (xh (J0 (jb 0) (J0 (dC (.int 0)) jc))) jc)) jc)))
def wR:YG->Res D:=qc 1 1 v3
@[simp]def cO (t:Int):wR [.int t]=.ok (ji [[(t,0)]]):=by
 rfl
def ZG (a:YG->HP->Res (D×HP)):qz:=(yE (vo (jy 4 (QD ZF (J0 (jb 0) (J0 (jb 1) jc))))) (yE (vo (qf 5 (Qr [none] (yB (J0 (jt jP (J0 (qX (qW "Plan" "givens") (jb 4)) jc)) jc)) (.one 0) (QD wR (J0 (jb 0) jc))))) (yE (AU (iS (qX (qW "Plan" "rows") (jb 4))) (.tup [6,7,8]) (AT (vo (jy 9 (YY [none,none,some 5] 2 (iS (jb 8)) (.tup [0,1]) (QD xR (J0 (KM 2 (jb 0)) (J0 (jb 1) jc)))))) (V6 5 (V7 a (J0 (jb 0) (J0 (jb 7) (J0 (jb 9) (J0 (jb 2) (J0 (jb 3) jc))))))))) (wC 5 (zx (jb 5))))))
def QM:Nat->YG->HP->Res (D×HP)
 | 0=>λ_ _=>.no
 |n+1=>Kx 10 4 (ZG (Kx 5 5 (VZ (QM n))))
def Qx (n:Nat):YG->HP->Res (D×HP):=Kx 5 5 (VZ (QM n))
def r9 (f:Jz)(q:Jy):Prop:=∃x∈f,JF x q=true
structure Cn (f:Jz):Prop where
 ne:f ≠ []
 rows:∀r∈f,JRow r
 thin:JZ f=f
def Cn.anti {f:Jz}(C:Cn f):∀r∈f,∀s∈f,JF r s=true->r=s:=by
 have h:=DB (rs:=f)
 rwa [C.thin] at h
def Cn.strict {f:Jz}(C:Cn f):f.Pairwise λa b=>j8 a b=true:=by
 have h:=Wv f
 rwa [C.thin] at h
def tw {l:Jz}(h:∀r∈l,JRow r)(q):r9 (JZ l) q↔r9 l q:=by
 constructor
 .rintro⟨x,a,b⟩;exact⟨x,(xE.mp a).1,b⟩
 .rintro⟨x,a,b⟩;obtain⟨s,hs,c⟩:=X4 (λr e=>⟨(h r e).once,(h r e).rise⟩) a;exact⟨s,hs,Kq c b⟩
def tV {l:Jz}(h:∀r∈l,JRow r)(b:l ≠ []):Cn (JZ l):=⟨DC h b,λr a=>h r (xE.mp a).1,IQ (λr a=>h r (xE.mp a).1) h (tw h)⟩
theorem DE (w:Int):∀(r:Jy) (t:Int),JB (Q1 r w) t=(JB r t).map (· + w)
 | [],_=>rfl
 |p::r,t=>by
  have a:=DE w r t;show(match JB (Q1 r w) t with|some v=>some v|none=>if p.1=t then some (p.2+w) else none)=Option.map _ (match JB r t with|some v=>some v|none=>if p.1=t then some p.2 else none)
  grind
def dX (r:Jy)(w:Int):Q1 (Q1 r w) (-w)=r:=by
 unfold Q1;rw[Zw];refine(UZ λp _=>?_).trans (List.map_id r)
 grind
def ck {r q:Jy}{w:Int}:JF (Q1 r w) q=true↔JF r (Q1 q (-w))=true:=by
 rw[yQ,yQ];constructor
 .intro h p hp;obtain⟨u,a,l⟩:=h (p.1,p.2+w) (Ja.mpr ⟨p,hp,rfl⟩)
  grind[DE]
 .intro h p hp;obtain⟨b,hp',rfl⟩:=Ja.mp hp;obtain⟨u,a,l⟩:=h b hp';rw[DE] at a;cases e:JB q b.1 with
  |none=>simp_all
  |some v =>
   grind
def dP {r:Jy}(h:JRow r)(w):JRow (Q1 r w):=by
 refine⟨λz=>h.ne (Jf.mp z),?_,λp hp=>?_⟩
 .have e:(Q1 r w).map (·.1)=r.map (·.1):=by
   unfold Q1;simp
  unfold qI;rw[e];exact h.rise
 .obtain⟨a,hp',rfl⟩:=Ja.mp hp;exact h.bnd a hp'
theorem La (w:Int):∀a b:Jy,j8 (Q1 a w) (Q1 b w)=j8 a b
 | [],[]=>rfl
 | [],_::_=>rfl
 |_::_,[]=>rfl
 |p::a,q::b=>by
  show j8 ((p.1,p.2+w)::Q1 a w) ((q.1,q.2+w)::Q1 b w)=_;rw[KZ,KZ,La w a b];by_cases h:p=q
  .rw[Zd h,h,Zd rfl]
  .rw[Ze h,Ze λz=>h ?_]
   .simp_all [jV]
   grind
def f5 {f:Jz}(C:Cn f)(w:Int):Cn (Qd f w):=by
 refine⟨λz=>C.ne (Jf.mp z),λr j=>?_,W9 xU (Wv _) ?_ λr=>⟨λh=>(xE.mp h).1,λh=>xE.mpr ⟨h,wg.mpr λo l e=>?_⟩⟩⟩
 .obtain⟨g,c,rfl⟩:=Ja.mp j;exact dP (C.rows g c) w
 .unfold Qd;rw[U0];exact C.strict.imp λ{a b} h=>by rwa [La]
 .obtain⟨m,i,rfl⟩:=Ja.mp l;obtain⟨g,c,rfl⟩:=Ja.mp h;have e:=ck.mp e;rw[dX] at e;rw[C.anti m i g c e]
def dV {r:Jy}(h:r ≠ [])(w:Int)(hs:Yh):Ql (Q1 r w) hs=Ql r hs+w:=by
 unfold Ql Q1;rw[<- TQ (λz=>h (Jf.mp z)),Zw,Zw]
 congr 1
 refine UZ λp _=>?_
 grind
def dZ {f:Jz}(b:f ≠ [])(a:∀r∈f,r ≠ [])(w)(hs):J7 (Qd f w) hs=J7 f hs+w:=by
 unfold J7 Qd;rw[<- TN (λz=>b (Jf.mp z)),Zw,Zw]
 congr 1
 exact UZ λr c=>dV (a r c) w hs
def dG {n:Int}{fs:List Jz}{t:Jz}{hs:Yh}(A:AllOk fs t)(E:t ≠ [])(F:fs ≠ [])(u:∀f∈fs,f ≠ []/\∀r∈f,r ≠ []/\jB r/\∀p∈r,0<=p.1/\p.1<12):J7 t hs=qC (fs.map λf=>J7 f hs):=by
 have g:∀{r:Jy},r ≠ []->∀p∈r,j9 hs p.1+p.2<=Ql r hs:=λ{r} i p hp=>(W5 (l:=r.map λp=>j9 hs p.1+p.2) (λz=>i (Jf.mp z))).2 _ (Ja.mpr ⟨p,hp,rfl⟩);have j:∀{r:Jy} {M:Int},r ≠ []->(∀p∈r,j9 hs p.1+p.2<=M)->Ql r hs<=M:=λ{r M} i h=>by
  obtain⟨m,_⟩:=W5 (l:=r.map λp=>j9 hs p.1+p.2) (λz=>i (Jf.mp z));obtain⟨p,hp,e⟩:=Ja.mp m;have:=h p hp;have e:j9 hs p.1+p.2=Ql r hs:=e;lia
 obtain⟨G,m2⟩:=W5 (l:=fs.map λf=>J7 f hs) (λz=>F (Jf.mp z));have m2:∀f∈fs,J7 f hs<=qC (fs.map λf=>J7 f hs):=λf h=>m2 _ (Ja.mpr ⟨f,h,rfl⟩);obtain⟨v,o,x⟩:=Ja.mp G;have x:J7 v hs=qC (fs.map λf=>J7 f hs):=x;generalize qC (fs.map λf=>J7 f hs)=M at m2 x;obtain⟨r,i,L⟩:=KQ (hs:=hs) E;have lo:M<=J7 t hs:=by
  obtain⟨s,c,y⟩:=A.abv r i v o;have c1:=KD (hs:=hs) c;have c2:Ql s hs<=Ql r hs:=j ((u v o).2 s c).1 λp hp=>by
   obtain⟨w,B,H⟩:=yQ.mp y p hp;have:=g (A.row r i).ne (p.1,w) (Qi B);have this:j9 hs p.1+w<=Ql r hs:=this;lia
  lia
 obtain⟨q,C,y⟩:=A.least ((List.range 12).map λk:Nat=>((k:Int),M-j9 hs (k:Int))) λf h=>by
  obtain⟨s,c,es⟩:=KQ (hs:=hs) (u f h).1;obtain⟨I,N,J⟩:=(u f h).2 s c;refine⟨s,c,yQ.mpr λp hp=>⟨M-j9 hs p.1,?_,?_⟩⟩
  .have K:jB ((List.range 12).map λk:Nat=>((k:Int),M-j9 hs (k:Int))):=by
    unfold jB;rw[Zw];unfold List.Nodup;rw[U0];exact(List.nodup_range (n:=12)).imp λ{a b} h e=>h (by have e:(a:Int)=(b:Int):=e;lia)
   have b:=J p hp;exact K.look (Ja.mpr ⟨p.1.toNat,Jh.mpr (),by rw[show((p.1.toNat:Nat):Int)=p.1 by lia]⟩)
  .have a:=g I p hp;have b:=m2 f h;lia
 have c1:=KD (hs:=hs) C;have c2:Ql q hs<=M:=j (A.row q C).ne λp hp=>by
  obtain⟨w,B,H⟩:=yQ.mp y p hp;obtain⟨k,O,P⟩:=Ja.mp (Qi B)
  grind
 lia
theorem Lb {α: Type}{tg:Tg}{f:FE}{c:SD}{k:α -> D}{n:Str}{b:YG}:∀{a:List α},(∀x∈a,(∃v,(JO tg (k x) c).bind f=.ok v)\/(JO tg (k x) c).bind f=.ex n b)->(∃x∈a,(JO tg (k x) c).bind f=.ex n b)->jQ tg f c (a.map k)=.ex n b
 | [],_,⟨_,h,_⟩=>nomatch h
 |x::a,h,⟨y,hy,e⟩=>by
  have nx:jQ tg f c ((x::a).map k)=((JO tg (k x) c).bind f).bind λv=>(jQ tg f c (a.map k)).bind λg=>.ok (v::g):=rfl;rw[nx];rcases h x Zqs with ⟨v,q⟩|q
  .rw[q,Lb (λz hz=>h z (Zqm _ hz)) ?_]
   .rfl
   grind
  simp_all
def cj {f:Jz}{fs:List Jz}{most:Int}(p:Cn f/\f.length<=64)(q:∀g∈fs,Cn g/\g.length<=64)(A:0<=most)(m2:most<=60)(F:fs.length<=900):
 yi [.lst ((f::fs).map ji),.int most]=xr (yZ most f fs):=by
 have u:∀{rs:Jz},(∀r∈rs,JRow r)->rs.length<=200->Q9 [ji rs,.int most]=xr (jR most (JZ rs)):=λ{rs} h l=>D9 (λr e=>(h r e).ne) (λr e=>(h r e).rise) (λr e=>by have:=(h r e).len;lia) () A ();have j:=u (rs:=f) p.1.rows ();rw[p.1.thin] at j;have n:qh ((f::fs).map ji) 0=some (ji f):=by
  rw[show((0:Int))=((0:Nat):Int) from rfl,Wu ()];rfl
 have B:Qv (ji f::fs.map ji) (some 1) none none=fs.map ji:=by
  rw[Ij _ ()];rfl
 by_cases v:(f.length:Int)<=most
 .rw[Bq v] at j;have j:Q9 [ji f,.int most]=.ok (ji f):=j;have m:((qE (.one 3) (λsd=>(qf 2 (J6 Q9 (J0 (jf ju (jb 2) (jb 3)) (J0 (jb 1) jc)))) (jW [2] sd)) (fs.map ji) [some (.val (.lst ((f::fs).map ji))),some (.val (.int most)),some (.own false (ji f)),none]).bind (xN (Kb 2))).bind xO=xr (yZ most f fs):=by
   refine HC (R:=λz=>(z.bind (xN (Kb 2))).bind xO=xr (yZ most f fs)) (P:=λi sd=>∃(t:Jz) (s:Option SV),sd=[some (.val (.lst ((f::fs).map ji))),some (.val (.int most)),some (.own false (ji t)),s]/\(∀r∈t,JRow r)/\(t.length:Int)<=most/\yZ most t (fs.drop i)=yZ most f fs) ⟨f,none,rfl,p.1.rows,v,rfl⟩ ?_ ?_
   .rintro sd ⟨t,s,rfl,T,lt,b⟩;rw[Zql,Vb] at b;rw[<- b];show _=xr (jR most t);rw[Bq lt];rfl
   .rintro i x sd C ⟨t,s,rfl,T,lt,b⟩;obtain⟨g,o,rfl⟩:=QF C;have w:=(Jc.mp o).1;obtain⟨G,H⟩:=q g (Uf o);have y:=tJ (f:=t) (g:=g) ();have tg:∀r∈t++g,JRow r:=λr e=>(Jb.mp e).elim (λz=>T r z) λz=>G.rows r z;have a:=u (rs:=t++g) tg (by rw[Ub];lia);have E:fs.drop i=g::fs.drop (i+1):=by
     rw[Uu w];rw[Zqg w] at o;rw[Zqi o]
    rw[E] at b;have b:(jR most t).bind (λ_=>yZ most (xp t g) (fs.drop (i+1)))=yZ most f fs:=b;rw[Bq lt] at b;have b:yZ most (xp t g) (fs.drop (i+1))=yZ most f fs:=b;by_cases c:((xp t g).length:Int)<=most
    .have a:Q9 [ji (t++g),.int most]=.ok (ji (xp t g)):=by
      rw[a];show xr (jR most (xp t g))=_;rw[Bq c];rfl
     exact .inl ⟨[some (.val (.lst ((f::fs).map ji))),some (.val (.int most)),some (.own false (ji (xp t g))),some (.val (ji g))],by simp[y,a],xp t g,_,rfl,λr e=>tg r (xE.mp e).1,c,b⟩
    .have no:jR most (xp t g)=none:=Ze c;have a:Q9 [ji (t++g),.int most]=.ex "TooMany" []:=by
      rw[a];show xr (jR most (xp t g))=_;rw[no];rfl
     refine .inr ⟨"TooMany",[],by simp[y,a],?_⟩;rw[<- b,IW no];rfl
  simp[yi,zV] at n m ⊢;simp[n,j,B,m]
 .rw[IX ()] at j;have j:Q9 [ji f,.int most]=.ex "TooMany" []:=j;rw[IW (IX ())];show _=Res.ex "TooMany" [];simp[yi,zV] at n ⊢;simp[n,j]
def d7 {a b:Jz}(A:Cn a)(B:Cn b)(hs:Yh):Cn (xp a b)/\J7 (xp a b) hs<=J7 a hs/\J7 (xp a b) hs<=J7 b hs/\(J7 (xp a b) hs=J7 a hs\/J7 (xp a b) hs=J7 b hs):=by
 have c:=λr e=>(Jb.mp e).elim (A.rows r) (B.rows r);have ne:a++b ≠ []:=λz=>A.ne (Jx.mp z).1;refine⟨tV c ne,?_⟩;unfold xp;rw[TZ ne λr e=>⟨(c r e).ne,(c r e).once,(c r e).rise⟩];exact dQ A.ne B.ne
theorem Lc (hs:Yh):∀(a:List Jz) (t:Jz),Cn t->(∀g∈a,Cn g)->Cn (a.foldl xp t)/\(J7 (a.foldl xp t) hs=J7 t hs\/∃g∈a,J7 (a.foldl xp t) hs=J7 g hs)/\J7 (a.foldl xp t) hs<=J7 t hs/\∀g∈a,J7 (a.foldl xp t) hs<=J7 g hs
 | [],t,T,_=>⟨T,.inl rfl,U4 _,λ_ h=>nomatch h⟩
 |g::a,t,T,G=>by
  obtain⟨b,e,f,i⟩:=d7 T (G g Zqs) hs;obtain⟨c,j,l,m⟩:=Lc hs a (xp t g) b ()
  grind
theorem Ld {P:Jy->Prop}:∀(a:List Jz) (t:Jz),(∀r∈t,P r)->(∀g∈a,∀r∈g,P r)->∀r∈a.foldl xp t,P r
 | [],_,h,_=>h
 |g::a,t,h,k=>Ld a (xp t g) (λr b=>(Jb.mp (xE.mp b).1).elim (h r) ()) ()
theorem Le {most:Int}:∀(a:List Jz) (t t':Jz),x4 most t a=some t'->t'=a.foldl K0 t
 | [],_,_,h=>(Zqi h).symm
 |g::a,t,t',h=>by
  rw[IS] at h;cases q:jR most (K0 t g) with
  |none=>simp_all
  |some b =>
   rw[q] at h;rw[Vi,<- ((WW q).1)];exact Le a b t' h
def da {most:Int}{f:Jz}{fs:List Jz}{t:Jz}(h:yf most f fs=some t):t=fs.foldl K0 (JZ f):=by
 unfold yf at h;cases q:jR most (JZ f) with
 |none=>simp_all
 |some a =>
  rw[q] at h;rw[<- (WW q).1];exact Le fs a t h
theorem Lf {most:Int}:∀(a:List Jz) (t t':Jz),yZ most t a=some t'->t'=a.foldl xp t/\(t'.length:Int)<=most
 | [],t,t',h=>by
  obtain⟨e,l⟩:=WW (h)
  simp_all
 |g::a,t,t',h=>by
  have h:(jR most t).bind (λ_=>yZ most (xp t g) a)=some t':=h;cases q:jR most t with
  |none=>simp_all
  |some b =>
   rw[q] at h;exact Lf a (xp t g) t' h
def dA {a b:Jy}(g:JRow a)(h:JRow b):∀p∈Q4 a b,p∈a\/p∈b:=λp hp=>by
 have c:=(X6 g h).once.look hp;rw[Bl g.once h.once] at c;cases f:JB a p.1 with
 |some w =>
  cases e:JB b p.1 with
  |some v =>
   rw[f,e] at c;have i:=Qi f;have m2:=Qi e;have c:some (if w > v then w else v)=some p.2:=c
   grind
  |none =>
   rw[f,e] at c;have i:=Qi f;rw[Zqi c] at i
   simp_all
 |none =>
  cases e:JB b p.1 with
  |some v =>
   rw[f,e] at c;have m2:=Qi e;rw[Zqi c] at m2
   simp_all
  |none=>rw[f,e] at c;cases c
theorem Lg {Q:Int×Int->Prop}:∀(c:List Jz) t,(∀r∈t,JRow r/\∀p∈r,Q p)->(∀g∈c,∀r∈g,JRow r/\∀p∈r,Q p)->∀r∈c.foldl K0 t,∀p∈r,Q p
 | [],t,ht,_=>λr e=>(ht r e).2
 |g::c,t,ht,hg=>Lg c (K0 t g) (λr e=>by
  obtain⟨a,i,b,j,rfl⟩:=wh.mp (xE.mp e).1;obtain⟨f,l⟩:=ht a i;obtain⟨h,m⟩:=hg g Zqs b j;exact⟨X6 f h,λp hp=>(dA f h p hp).elim (l p) (m p)⟩) λx n=>hg x (Zqm _ n)
structure Tf (n:Nat)(W:Int)(t:Jz):Prop where
 cn:Cn t
 len:t.length<=12
 th:∀r∈t,∀p∈r,p.1<(n:Int) /\ -W<=p.2/\p.2<=W
def Tf.row {n:Nat}{W:Int}{t:Jz}(T:Tf n W t):∀r∈t,JRow r/\∀p∈r,p.1<(n:Int) /\ -W<=p.2/\p.2<=W:=λr a=>⟨T.cn.rows r a,T.th r a⟩
def Tf.mono {n:Nat}{W V:Int}{t:Jz}(T:Tf n W t)(h:W<=V):Tf n V t:=⟨T.cn,T.len,λr a p hp=>by have:=T.th r a p hp;lia⟩
def Tf.wait {n:Nat}{W V:Int}{t:Jz}(T:Tf n W t){w:Int}(f: -V<=w/\w<=V):Tf n (W+V) (Qd t w):=by
 refine⟨f5 T.cn w,?_,λr b p hp=>?_⟩
 .unfold Qd;rw[Zql];exact T.len
 .obtain⟨c,a,rfl⟩:=Ja.mp b;obtain⟨e,hp',rfl⟩:=Ja.mp hp;have:=T.th c a e hp';lia
def Tf.comes {n:Nat}{W:Int}{t:Jz}(T:Tf n W t)(w)(hs):J7 (Qd t w) hs=J7 t hs+w:=dZ T.cn.ne (λr a=>(T.cn.rows r a).ne) w hs
def QH:Res D:=.ex "TooMany" []
def DF {n:Nat}{W:Int}{fs:List Jz}(ne:fs ≠ [])(h:∀g∈fs,Tf n W g)(l:fs.length<=100):xl [.lst (fs.map ji),.int 8]=QH\/∃t,xl [.lst (fs.map ji),.int 8]=.ok (ji t)/\Tf n W t/\∀hs,J7 t hs=qC (fs.map λg=>J7 g hs):=by
 cases fs with
 |nil=>simp_all
 |cons f fs =>
  have c:=h f Zqs;have b:=λg a=>h g (Zqm _ a);have l:fs.length+1<=100:=l;have w:=c.len;have A:=cr (most:=8) ⟨c.cn.ne,c.cn.rows⟩ (λg a=>⟨(b g a).cn.ne,(b g a).cn.rows⟩) () () () () λi t g _ lt a=>by
   have G:=b g (Uf a);have s:=G.len;have e:=dr (f:=t) G.cn.ne;have lt:t.length<=12:=()
   have m:=Nat.mul_le_mul lt s;lia
  rw[A];cases q:yf 8 f fs with
  |none=>exact .inl rfl
  |some t =>
   refine .inr ⟨t,rfl,?_⟩;have ⟨A,lt,p⟩:=HU ⟨c.cn.ne,c.cn.rows⟩ (λg a=>⟨(b g a).cn.ne,(b g a).cn.rows⟩) q;have e:=da q;rw[c.cn.thin] at e;refine⟨⟨⟨p,A.row,W9 xU (Wv _) A.strict λr=>⟨λh=>(xE.mp h).1,λh=>xE.mpr ⟨h,wg.mpr λo u v=>A.anti o u r h v⟩⟩⟩,(),?_⟩,λhs=>dG (n:=0) A p () λg a=>⟨(h g a).cn.ne,λr j=>⟨((h g a).cn.rows r j).ne,((h g a).cn.rows r j).once,((h g a).cn.rows r j).bnd⟩⟩⟩;rw[e];exact Lg fs f c.row λg a=>(b g a).row
def Lh {n:Nat}{W:Int}{fs:List Jz}(ne:fs ≠ [])(h:∀g∈fs,Tf n W g)(l:fs.length<=100):yi [.lst (fs.map ji),.int 8]=QH\/∃t,yi [.lst (fs.map ji),.int 8]=.ok (ji t)/\Tf n W t/\∀hs,J7 t hs=xc (fs.map λg=>J7 g hs):=by
 cases fs with
 |nil=>simp_all
 |cons f fs =>
  have c:=h f Zqs;have b:=λg a=>h g (Zqm _ a);have l:fs.length+1<=100:=l;have m:=c.len;rw[cj ⟨c.cn,()⟩ (λg a=>⟨(b g a).cn,by have:=(b g a).len;lia⟩) () () ()];cases q:yZ 8 f fs with
  |none=>exact .inl rfl
  |some t =>
   refine .inr ⟨t,rfl,?_⟩;have ⟨e,lt⟩:=Lf fs f t q;have C:=λhs=>Lc hs fs f c.cn λg a=>(b g a).cn;rw[<- e] at C;refine⟨⟨(C []).1,(),?_⟩,λhs=>?_⟩
   .rw[e];exact Ld fs f c.th λg a=>(b g a).th
   .have ⟨_,c1,c2,i⟩:=C hs;refine BW ?_ λy j=>?_
    .rcases c1 with z|⟨g,a,z⟩
     .exact Ja.mpr ⟨f,Zqs,z.symm⟩
     .exact Ja.mpr ⟨g,Zqm _ a,z.symm⟩
    .obtain⟨g,a,rfl⟩:=Ja.mp j;rcases Uq.mp a with z|z
     .rwa [z]
     .exact i g z
def de {fs:List Jz}{t:Int}(a:0<=t)(b:t<(fs.length:Int))(hs:Yh):j9 (fs.map λg=>J7 g hs) t=J7 (qx fs t) hs:=by
 simp_all [j9,qx]
def Li {n:Nat}{W V:Int}{T:List Jz}(c:∀g∈T,Tf n W g){its:Jy}(e:∀p∈its,0<=p.1/\p.1<(T.length:Int))(f:∀p∈its,-V<=p.2/\p.2<=V):(∀g∈its.map λp=>Qd (qx T p.1) p.2,Tf n (W+V) g)/\∀hs,(its.map λp=>Qd (qx T p.1) p.2).map (λg=>J7 g hs)=xq (T.map λg=>J7 g hs) its:=by
 refine⟨λg h=>?_,λhs=>?_⟩
 .obtain⟨p,hp,rfl⟩:=Ja.mp h;obtain⟨a,b⟩:=e p hp;exact(c _ (Bt a b)).wait (f p hp)
 .rw[Zw];refine UZ λp hp=>?_;obtain⟨a,b⟩:=e p hp;show J7 (Qd (qx T p.1) p.2) hs=_;rw[(c _ (Bt a b)).comes,de a b]
def cq {n:Nat}{W V:Int}{fs:List Jz}{r:Jy}(a:JRow r)(b:∀p∈r,p.1<(fs.length:Int) /\ -V<=p.2/\p.2<=V)(h:∀g∈fs,Tf n W g):Ki [jq r,.lst (fs.map ji),.int 8]=QH\/∃t,Ki [jq r,.lst (fs.map ji),.int 8]=.ok (ji t)/\Tf n (W+V) t/\∀hs,J7 t hs=Ql r (fs.map λg=>J7 g hs):=by
 have j:=λp hp=>(b p hp).2;have b:∀p∈r,0<=p.1/\p.1<(fs.length:Int):=λp hp=>⟨(a.bnd p hp).1,(b p hp).1⟩;have q:=a.len;obtain⟨l,m⟩:=Li h b j;have o:∀f∈fs,f.length<=1000/\∀r∈f,r.length<=1000:=λf i=>⟨by have:=(h f i).len;lia,λr a=>by have:=((h f i).cn.rows r a).len;lia⟩;have c:=ci b o;have e:Ki [jq r,.lst (fs.map ji),.int 8]=xl [.lst ((r.map λp=>Qd (qx fs p.1) p.2).map ji),.int 8]:=by
  generalize (r.map λp=>Qd (qx fs p.1) p.2).map ji=ds at c;simp[Ki,Br,c,(Qc (show r.length<=1000 from ()))];cases xl [D.lst ds,D.int 8]<;>rfl
 rw[e];rcases DF (λz=>a.ne (Jf.mp z)) l () with z|⟨t,z1,z2,z3⟩
 .exact .inl z
 .refine .inr ⟨t,z1,z2,λhs=>?_⟩;rw[z3,m];rfl
def Lj {n m:Nat}{W V:Int}{a:Jz}{fs:List Jz}(F:Tf m V a)(j:fs.length=m)(h:∀g∈fs,Tf n W g):xI [ji a,.lst (fs.map ji),.int 8]=QH\/∃t,xI [ji a,.lst (fs.map ji),.int 8]=.ok (ji t)/\Tf n (W+V) t/\∀hs,J7 t hs=J7 a (fs.map λg=>J7 g hs):=by
 have R:∀r∈a,_:=λr b=>cq (n:=n) (fs:=fs) (V:=V) (F.cn.rows r b) (by rw[j];exact F.th r b) h;have s:=F.len;have i:∀r,(JO (.one 0) (jq r) [none,some (.val (.lst (fs.map ji))),some (.val (.int 8))]).bind (J6 Ki (J0 (jb 0) (J0 (jb 1) (J0 (jb 2) jc))))=Ki [jq r,.lst (fs.map ji),.int 8]:=λr=>by
  simp
 by_cases c:∃r∈a,Ki [jq r,.lst (fs.map ji),.int 8]=QH
 .left;have e:jQ (.one 0) (J6 Ki (J0 (jb 0) (J0 (jb 1) (J0 (jb 2) jc)))) [none,some (.val (.lst (fs.map ji))),some (.val (.int 8))] (a.map jq)=.ex "TooMany" []:=by
   refine Lb (λr b=>?_) ?_
   .rw[i];rcases R r b with z|⟨t,z,_⟩
    .exact .inr z
    .exact .inl ⟨_,z⟩
   .obtain⟨r,b,z⟩:=c;exact⟨r,b,by rw[i];exact z⟩
  simp[xI,zr,e,(Qc (show a.length<=1000 from ())),QH]
 .have l:∀r,∃t,r∈a->Ki [jq r,.lst (fs.map ji),.int 8]=.ok (ji t)/\Tf n (W+V) t/\∀hs,J7 t hs=Ql r (fs.map λg=>J7 g hs):=λr=>by
   by_cases b:r∈a
   .rcases R r b with z|⟨t,z⟩
    .exact Zn ⟨r,b,z⟩ c
    .exact⟨t,λ_=>z⟩
   simp_all
  have ⟨G,f⟩:=Classical.axiomOfChoice l;have p:=λd=>n8 (d:=d) () λr b=>(f r b).1;have o:∀g∈a.map G,Tf n (W+V) g:=λg q=>by
   obtain⟨r,b,rfl⟩:=Ja.mp q;exact(f r b).2.1
  have e:jQ (.one 0) (J6 Ki (J0 (jb 0) (J0 (jb 1) (J0 (jb 2) jc)))) [none,some (.val (.lst (fs.map ji))),some (.val (.int 8))] (a.map jq)=.ok ((a.map G).map ji):=by
   rw[Zw];exact Kw λr h=>by
    rw[i];exact(f r h).1
  rcases Lh (λz=>F.cn.ne (Jf.mp z)) o (by rw[Zql];lia) with z|⟨t,z1,z2,z3⟩
  .left;generalize (a.map G).map ji=ds at e z;simp[xI,zr,e,(Qc (show a.length<=1000 from ())),z,QH]
  .refine .inr ⟨t,p _ z1,z2,λhs=>?_⟩;rw[z3,Zw]
   congr 1
   exact UZ λr b=>((f r b).2.2 hs)
def Wa {f:FT}{sd:SD}{hp:HP}{b:Bool}(h:f sd=.ok b):z9 f sd hp=.ok (b,hp):=by
 simp_all [z9]
def Bv {n ar:Nat}{g:qz}{ds:YG}{a:Addr}{d:D}{x:Res D}{e:D}(h:ds.length=ar)(b:g (Qf n ds) [(a,d)]=x.bind λt=>.ok (t,[(a,e)])):Kx n ar g ds [(a,d)]=x.bind λt=>.ok (t,[(a,e)]):=by
 unfold Kx;rw[Zd h,b];cases x with
 |ok t=>exact Zd rfl
 |ex c es=>rfl
 |no=>rfl
def Lk {n ar:Nat}{g:qz}{ds:YG}{hp:HP}{c:Str}{a:YG}(h:ds.length=ar)(b:g (Qf n ds) hp=.ex c a):Kx n ar g ds hp=.ex c a:=by
 simp_all [Kx]
def wq (a b c d e):Qf 5 [a,b,c,d,e]=[some (.val a),some (.val b),some (.val c),some (.val d),some (.val e)]:=rfl
def Ll {n:Nat}(bk d e:D)(a:Addr):Qx n [bk,.str "all",d,.int 8,.adr a] [(a,e)]=(xl [d,.int 8]).bind λt=>.ok (t,[(a,e)]):=by
 refine Bv rfl ?_;rw[wq];unfold VZ;rw[V8,Wa (b:=true) (by simp[IC]),jz,Zd rfl];simp
def Lm {n:Nat}(bk d e:D)(a:Addr):Qx n [bk,.str "first",d,.int 8,.adr a] [(a,e)]=(yi [d,.int 8]).bind λt=>.ok (t,[(a,e)]):=by
 refine Bv rfl ?_;rw[wq];unfold VZ;rw[V8,Wa (b:=false) (by simp[ID]),jz,Ze (),V8,Wa (b:=true) (by simp[IE]),jz,Zd rfl];simp
theorem Ln {q:jA}:∀{ks:List jA},q∉ks->yC q ks=false
 | [],_=>rfl
 |k::ks,h=>by
  show(decide (k=q)||yC q ks)=false;rw[Ln λz=>h (Zqm _ z),Zo λz=>h ()];rfl
theorem Lo {q:jA}{d:D}:∀{ks:List jA} {ds:YG},ks.length=ds.length->q∉ks->jG (ks++[q]) (ds++[d]) q=some d
 | [],[],_,_=>Zd rfl
 | [],_::_,h,_=>by cases h
 |_::_,[],h,_=>by cases h
 |k::ks,e::ds,h,hq=>by
  show(if k=q then some e else jG (ks++[q]) (ds++[d]) q)=_;rw[Ze λz=>hq ()];exact Lo (UN h) ()
def tW {b c:FE}{sd:SD}{a:Addr}{how:Str}{ks:List jA}{ds:YG}{z:D}(e:b sd=.ok (.adr a))(f:c sd=.ok (.str how))(hz:jG ks ds (.inr how)=some z):zA b c sd [(a,.dct ks ds)]=.ok (z,[(a,.dct ks ds)]):=by
 simp_all [zA,D0]
def Lp {bk d:D}{how:Str}{a:Addr}{ks:List jA}{ds:YG}{z:D}(hz:jG ks ds (.inr how)=some z):AY xI (Ws (zA (jb 4) (jb 1)) (Ws (zx (jb 2)) (Ws (zx (jb 3)) AV))) [some (.val bk),some (.val (.str how)),some (.val d),some (.val (.int 8)),some (.val (.adr a))] [(a,.dct ks ds)]=(xI [z,d,.int 8]).bind λt=>.ok (t,[(a,.dct ks ds)]):=by
 unfold AY;rw[dU,tW rfl rfl hz,jz];simp
def DG {bk d:D}{how:Str}{a:Addr}{ks:List jA}{ds:YG}:wp [4] (JE (jf (w5 true) (jb 1) (jb 4))) [some (.val bk),some (.val (.str how)),some (.val d),some (.val (.int 8)),some (.val (.adr a))] [(a,.dct ks ds)]=.ok (!(jG ks ds (.inr how)).isSome):=by
 have e:derI [(a,.dct ks ds)] [4] [some (.val bk),some (.val (.str how)),some (.val d),some (.val (.int 8)),some (.val (.adr a))]=[some (.val bk),some (.val (.str how)),some (.val d),some (.val (.int 8)),some (.val (.dct ks ds))]:=by
  simp_all [der,D0]
 unfold wp;rw[e];rfl
def ky {n:Nat}{bk d:D}{how:Str}(c:asc how)(e:how ≠ "all")(f:how ≠ "first"){a:Addr}{ks:List jA}{ds:YG}{z:D}(hz:jG ks ds (.inr how)=some z):Qx n [bk,.str how,d,.int 8,.adr a] [(a,.dct ks ds)]=(xI [z,d,.int 8]).bind λt=>.ok (t,[(a,.dct ks ds)]):=by
 refine Bv rfl ?_;rw[wq];unfold VZ;rw[V8,Wa (b:=false) (by simp[(Ky c WT),e]),jz,Ze (),V8,Wa (b:=false) (by simp[(Ky c WU),f]),jz,Ze ()];exact fX (kG (by rw[DG,hz];rfl) rfl) (Lp hz)
def tE {n:Nat}{bk d:D}{how:Str}(e:asc how)(j:how ≠ "all")(m:how ≠ "first"){a:Addr}{ks ks':List jA}{ds ds':YG}(hz:jG ks ds (.inr how)=none){ys:List Jz}{t:Jz}(h:QM n [bk,.str how,.int 8,.adr a] [(a,.dct ks ds)]=.ok (.lst ((ys++[t]).map ji),[(a,.dct ks' ds')]))(i:ks'.length=ds'.length)(g: .inr how∉ks')(l:ks'.length<=1000):
 Qx n [bk,.str how,d,.int 8,.adr a] [(a,.dct ks ds)]=(xI [ji t,d,.int 8]).bind λz=>.ok (z,[(a,.dct (ks'++[.inr how]) (ds'++[ji t]))]):=by
 have o:=Ky e WT;have p:=Ky e WU;have c:=D1 (f:=ji) ys t;have q:=Qc l;have r:=Ln g;refine Bv rfl ?_;rw[wq];unfold VZ;rw[V8,Wa (b:=false) (),jz,Ze (),V8,Wa (b:=false) (),jz,Ze ()];refine fX (sd':=[some (.val bk),some (.val (.str how)),some (.val d),some (.val (.int 8)),some (.val (.adr a))]) (kF (by rw[DG,hz];rfl) ?_) (Lp (Lo (d:=ji t) i g));unfold AZ;have c1:z8 wy (V7 (QM n) (J0 (jb 0) (J0 (jb 1) (J0 (jb 3) (J0 (jb 4) jc))))) (zx (qX xy (dC (.int 1)))) [some (.val bk),some (.val (.str how)),some (.val d),some (.val (.int 8)),some (.val (.adr a))] [(a,.dct ks ds)]=.ok (ji t,[(a,.dct ks' ds')]):=by
  generalize (ys++[t]).map ji=es at h c;have c:wy (.lst es) (.int (-1))=some (ji t):=c
  simp_all
 simp_all [HY,V0,Wl,D0,tY]
def k7 {n:Nat}{bk d:D}{how:Str}(e:asc how)(g:how ≠ "all")(h:how ≠ "first"){a:Addr}{ks:List jA}{ds:YG}(hz:jG ks ds (.inr how)=none){c:Str}{f:YG}(i:QM n [bk,.str how,.int 8,.adr a] [(a,.dct ks ds)]=.ex c f):
 Qx n [bk,.str how,d,.int 8,.adr a] [(a,.dct ks ds)]=.ex c f:=by
 refine Lk rfl ?_;rw[wq];unfold VZ;rw[V8,Wa (b:=false) (by simp[(Ky e WT),g]),jz,Ze (),V8,Wa (b:=false) (by simp[(Ky e WU),h]),jz,Ze (),IA]
 simp_all [AZ,DG]
theorem Lq {rc b:Str->List Int->Int}:∀{a:List Rw},(∀r∈a,∀f,xF rc f r=xF b f r)->∀hs,qg rc a hs=qg b a hs
 | [],_,_=>rfl
 |r::a,h,hs=>by
  show qg rc a (hs++[xF rc hs r])=qg b a (hs++[xF b hs r]);rw[h r Zqs];exact Lq () _
def BkP.fuel {ps:List Pl}(B:BkP ps):∀j n q,ps[j]? = some q->j<n->∀hs,qR ps n q hs=qR ps (j+1) q hs:=by
 intro j
 induction j using Nat.strongRecOn with
 |ind j b =>
  intro n q c h hs;obtain⟨a,rfl⟩:∃a,n=a+1:=⟨n-1,()⟩;rw[D4,D4];refine Lq (λr e f=>?_) hs;obtain⟨k,g⟩:=Jm.mp e;unfold xF;rcases B.how c g with z|z|⟨_,z1,z2,j2,q2,z3,z4,z5,_⟩
  .simp_all
  .simp_all
  .rw[Ze z1,Ze z2,Ze z1,Ze z2,z5];unfold x9;rw[B.find z4];show(qR ps a q2 _).getLastD 0=(qR ps j q2 _).getLastD 0;rw[b j2 z3 a q2 z4 (),b j2 z3 j q2 z4 ()]
def BkP.rc {ps:List Pl}(B:BkP ps){j n:Nat}{q:Pl}(a:ps[j]? = some q)(h:j<n)(ts):x9 ps n q.name ts=x9 ps (j+1) q.name ts:=by
 unfold x9;rw[B.find a];show(qR ps n q _).getLastD 0=(qR ps (j+1) q _).getLastD 0;rw[B.fuel j n q a h]
abbrev Kn:=List (Str×Jz)
def kD (K:Kn):D:=.dct (K.map λx=>.inr x.1) (K.map λx=>ji x.2)
theorem kC (x:Str):∀K:Kn,(jG (K.map λx=>.inr x.1) (K.map λx=>ji x.2) (.inr x)=none/\x∉K.map (·.1))\/∃f,(x,f)∈K/\jG (K.map λx=>.inr x.1) (K.map λx=>ji x.2) (.inr x)=some (ji f)
 | []=>.inl ⟨rfl,λz=>nomatch z⟩
 |y::K=>by
  rw[Zl,Zl,C4];by_cases c:y.1=x
  .grind
  .rcases kC x K with ⟨a,b⟩|⟨f,a,b⟩
   .grind
   grind
def wB:Nat->Int
 | 0=>1000000000000000000000000000000
 |j+1=>16*wB j
theorem ZH:∀j,1000000000000000000000000000000<=wB j
 | 0=>U4 _
 |j+1=>by have:=ZH j;show _<=16*wB j;lia
theorem Lr:∀{i j:Nat},i<=j->wB i<=wB j
 |i,0,h=>by simp_all
 |i,j+1,h=>by
  have p:=ZH j;rcases Vf j i with z|z
  .grind
  .have:=Lr z;show _<=16*wB j;lia
structure KOk (ps:List Pl)(K:Kn):Prop where
 nd:(K.map (·.1)).Nodup
 ok:∀x∈K,∃j q,ps[j]? = some q/\x.1=q.name/\Tf q.givens.length (wB (j+1)) x.2/\∀hs:Yh,hs.length=q.givens.length->J7 x.2 hs=x9 ps (j+1) q.name hs
def zR (ps:List Pl)(j:Nat)(K b:Kn):Prop:=∀x∈b.map (·.1),x∈K.map (·.1)\/∃a q,a<j/\ps[a]? = some q/\x=q.name
theorem Ls:∀(ps:List Pl) (l:Yk),l.Nodup->(∀x∈l,∃q∈ps,x=q.name)->l.length<=ps.length
 | [],l,_,h=>by
  cases l with
  |nil=>exact Zf _
  |cons x l =>
   have ⟨q,a,_⟩:=h x Zqs;cases a
 |p::ps,l,nd,h=>by
  have b:=Ls ps (l.erase p.name) (nd.erase _) λx c=>by
   grind
  grind
theorem KOk.len {ps:List Pl}{K:Kn}(h:KOk ps K)(B:BkP ps):K.length<=4:=by
 have:=Ls ps (K.map (·.1)) h.nd λx a=>by
  obtain⟨y,b,rfl⟩:=Ja.mp a;obtain⟨j,q,c,e,_⟩:=h.ok y b;exact⟨q,Uf c,e⟩
 rw[Zql] at this;have:=B.len;lia
def vy (ps:List Pl)(n:Nat)(p:Pl)(j:Nat)(K:Kn):Prop:=(∀a,QM n [JD ps,.str p.name,.int 8,.adr a] [(a,kD K)]=.ex "TooMany" [])\/∃T b,KOk ps b/\zR ps j K b/\(∀g∈T,Tf p.givens.length (wB (j+1)) g)/\(∀hs:Yh,hs.length=p.givens.length->(T.map λg=>J7 g hs)=qR ps (j+1) p hs)/\T ≠ []/\∀a,QM n [JD ps,.str p.name,.int 8,.adr a] [(a,kD K)]=.ok (.lst (T.map ji),[(a,kD b)])
def wv {x:Res D}{f:D->Res (D×HP)}(h:x=QH):x.bind f=.ex "TooMany" []:=by rw[h];rfl
def dB {ps:List Pl}(B:BkP ps){n j:Nat}{p:Pl}(hp:ps[j]? = some p)(S:∀c q K,c<j->ps[c]? = some q->KOk ps K->vy ps n q c K){k:Nat}{r:Rw}(L:p.rows[k]? = some r){W:Int}{T:List Jz}(X:∀g∈T,Tf p.givens.length W g)(lT:T.length=p.givens.length+k){K:Kn}(A:KOk ps K):
 (∀a,Qx n [JD ps,.str r.2.1,.lst ((r.2.2.map λp=>Qd (qx T p.1) p.2).map ji),.int 8,.adr a] [(a,kD K)]=.ex "TooMany" [])\/∃t i,KOk ps i/\zR ps j K i/\Tf p.givens.length (W+2*wB j) t/\(∀hs:Yh,J7 t hs=xF (x9 ps j) (T.map λg=>J7 g hs) r)/\∀a,Qx n [JD ps,.str r.2.1,.lst ((r.2.2.map λp=>Qd (qx T p.1) p.2).map ji),.int 8,.adr a] [(a,kD K)]=.ok (ji t,[(a,kD i)]):=by
 have R:=(B.ok j p hp).row k r L;have sh:=R.sh;obtain⟨C,E⟩:=Li X (its:=r.2.2) (V:=1000000000000000000000000000000) (λy Y=>by have:=R.rng y Y;lia) R.wt;have pj:=ZH j;have ne:(r.2.2.map λp=>Qd (qx T p.1) p.2) ≠ []:=λz=>R.ne (Jf.mp z);have M:(r.2.2.map λp=>Qd (qx T p.1) p.2).length=r.2.2.length:=Zql _;have same:zR ps j K K:=λx v=>.inl v;unfold xF;generalize (r.2.2.map λp=>Qd (qx T p.1) p.2)=fs at C E ne M;rcases B.how hp L with z|z|⟨z0,z1,z2,c,q,z3,z4,z5,z6⟩
 .rw[z];simp only[if_true];rcases DF ne C () with y|⟨t,m,o,s⟩
  .exact .inl λa=>by rw[Ll];exact wv y
  .refine .inr ⟨t,K,A,same,o.mono (),λhs=>?_,λa=>?_⟩
   .rw[s,E]
   .rw[Ll,m];rfl
 .rw[z];have d:¬("first" : Str) = "all" := by decide +kernel
  simp only[if_true,Ze d];rcases Lh ne C () with y|⟨t,m,o,s⟩
  .exact .inl λa=>by rw[Lm];exact wv y
  .refine .inr ⟨t,K,A,same,o.mono (),λhs=>?_,λa=>?_⟩
   .rw[s,E]
   .rw[Lm,m];rfl
 .simp only[Ze z1,Ze z2];have rc:∀ts,x9 ps j r.2.1 ts=x9 ps (c+1) q.name ts:=λts=>by rw[z5];exact B.rc z4 z3 ts
  have I:fs.length=q.givens.length:=M.trans z6;have wj:=Lr (show c+1<=j from ());have N:∀hs,(fs.map λg=>J7 g hs).length=q.givens.length:=λhs=>(Zql _).trans I;rcases kC r.2.1 K with ⟨H,J⟩|⟨f,H,J⟩
  .rcases S c q K z3 z4 A with y|⟨U,i,k1,k2,k3,k4,k5,k6⟩
   .exact .inl λa=>k7 z0 z1 z2 H (by have:=y a;rw[<- z5] at this;exact this)
   .obtain⟨ys,t,rfl⟩:=D2 k5;have O:Tf q.givens.length (wB (c+1)) t:=k3 t (Ur _ Zqs);have ct:∀hs:Yh,hs.length=q.givens.length->J7 t hs=x9 ps (c+1) q.name hs:=λhs h=>by
     have e:=k4 hs h;obtain⟨Z,ez⟩:=B.part (n:=c) z4 hs;rw[ez,Uc] at e;have e:=Zt (λl=>l.getLastD 0) e;have e:((ys.map λg=>J7 g hs)++[J7 t hs]).getLastD 0=(Z++[x9 ps (c+1) q.name hs]).getLastD 0:=e;rw[VQ,VQ] at e;exact e
    have P:r.2.1∉i.map (·.1):=λy=>by
     rcases k2 _ y with y|⟨F,w,m,o,s⟩
     .exact J y
     .have e:q.name=w.name:=z5.symm.trans s;have:=B.inj c F q w z4 o e;lia
    have nk:(UP r.2.1:jA)∉i.map λx=>UP x.1:=λy=>by
     obtain⟨x,v,e⟩:=Ja.mp y;injection e with e
     exact P (Ja.mpr ⟨x,v,e⟩)
    have l4:=k1.len B;have G:=λa=>tE (n:=n) (bk:=JD ps) (d:=.lst (fs.map ji)) z0 z1 z2 (a:=a) H (ys:=ys) (t:=t) (ks':=i.map λx=>.inr x.1) (ds':=i.map λx=>ji x.2) (by have:=k6 a;rw[<- z5] at this;exact this) (by rw[Zql,Zql]) nk (by rw[Zql];lia);have kd:∀a:Addr,[(a,D.dct ((i.map λx=>UP x.1)++[.inr r.2.1]) ((i.map λx=>ji x.2)++[ji t]))]=[(a,kD (i++[(r.2.1,t)]))]:=λa=>by
     unfold kD;rw[Uc,Uc];rfl
    have ko:KOk ps (i++[(r.2.1,t)]):=⟨by
     rw[Uc];refine List.nodup_append.mpr ⟨k1.nd,VW _ _,λa Q b hb e=>?_⟩;rw[e,Jd.mp hb] at Q;exact P Q,λx v=>by
     rcases Jb.mp v with y|y
     .exact k1.ok x y
     .rw[Jd.mp y];exact⟨c,q,z4,z5,O,ct⟩⟩
    have nw:zR ps j K (i++[(r.2.1,t)]):=λx v=>by
     rw[Uc] at v;rcases Jb.mp v with y|y
     .rcases k2 x y with y|⟨F,w,m,o,s⟩
      .exact .inl y
      .exact .inr ⟨F,w,(),o,s⟩
     .exact .inr ⟨c,q,z3,z4,(Jd.mp y).trans z5⟩
    rcases Lj O I C with y|⟨u,m,o,s⟩
    .exact .inl λa=>by
      show Qx n _ [(a,D.dct _ _)]=_;rw[G a];exact wv y
    .refine .inr ⟨u,_,ko,nw,o.mono (),λhs=>?_,λa=>?_⟩
     .rw[s,ct _ (N hs),rc,E]
     .show Qx n _ [(a,D.dct _ _)]=_;rw[G a,m,kd];rfl
  .obtain⟨F,w,m,o,s,y4⟩:=A.ok _ H;have e:q.name=w.name:=z5.symm.trans o;have e:=B.inj c F q w z4 m e;subst e;rw[z4] at m;cases m;have G:=λa=>ky (n:=n) (bk:=JD ps) (d:=.lst (fs.map ji)) z0 z1 z2 (a:=a) J;rcases Lj s I C with y|⟨u,x1,x2,x3⟩
   .exact .inl λa=>by
     show Qx n _ [(a,D.dct _ _)]=_;rw[G a];exact wv y
   .refine .inr ⟨u,K,A,same,x2.mono (),λhs=>?_,λa=>?_⟩
    .rw[x3,y4 _ (N hs),rc,E]
    .show Qx n _ [(a,D.dct _ _)]=_;rw[G a,x1];rfl
def dF {T:List Jz}{its:Jy}(h:∀p∈its,0<=p.1/\p.1<(T.length:Int))(hs:∀g∈T,g.length<=1000/\∀r∈g,r.length<=1000):jQ (.tup [0,1]) (QD xR (J0 (KM 2 (jb 0)) (J0 (jb 1) jc))) [none,none,some (.own false (.lst (T.map ji)))] (its.map qd)=.ok ((its.map λp=>Qd (qx T p.1) p.2).map ji):=by
 rw[Zw];exact Kw λp hp=>by
  obtain⟨b,c⟩:=h p hp;have a:=IY b c;obtain⟨e,f⟩:=hs _ (Bt b c);have i:=vu (w:=p.2) e f
  simp_all
def X7 (n:Nat):qQ:=(AT (vo (jy 9 (YY [none,none,some 5] 2 (iS (jb 8)) (.tup [0,1]) (QD xR (J0 (KM 2 (jb 0)) (J0 (jb 1) jc)))))) (V6 5 (V7 (Qx n) (J0 (jb 0) (J0 (jb 7) (J0 (jb 9) (J0 (jb 2) (J0 (jb 3) jc))))))))
def y9 (bk nm pl:D)(a:Addr)(T:YG)(u6 u7 u8 u9:Option SV):SD:=[some (.val bk),some (.val nm),some (.val (.int 8)),some (.val (.adr a)),some (.val pl),some (.own false (.lst T)),u6,u7,u8,u9]
def tS {n:Nat}{bk nm pl:D}{a:Addr}{T:List Jz}{u6 u7 u8 u9:Option SV}{hp:HP}{r:Rw}(f:∀p∈r.2.2,0<=p.1/\p.1<(T.length:Int))(hs:∀g∈T,g.length<=1000/\∀r∈g,r.length<=1000)(l:r.2.2.length<=1000):
 KP (.tup [6,7,8]) (X7 n) (jM r) (y9 bk nm pl a (T.map ji) u6 u7 u8 u9) hp=V6 5 (V7 (Qx n) (J0 (jb 0) (J0 (jb 7) (J0 (jb 9) (J0 (jb 2) (J0 (jb 3) jc)))))) (y9 bk nm pl a (T.map ji) (some (.val (.str r.1))) (some (.val (.str r.2.1))) (some (.val (jq r.2.2))) (some (.val (.lst ((r.2.2.map λp=>Qd (qx T p.1) p.2).map ji))))) hp:=by
 have h:=dF f hs;have i:=Qc l;have j:∀a b c d e u6 u7 u8 u9,capO [none,none,some 5] 2 [a,b,c,d,e,some (.own false (.lst (T.map ji))),u6,u7,u8,u9]=[none,none,some (.own false (.lst (T.map ji)))]:=λ_ _ _ _ _ _ _ _ _=>rfl
 simp_all [y9,X7]
def tf {n:Nat}{bk nm pl d:D}{a:Addr}{T:YG}{u6:Option SV}{b:Option SV}{how fs:D}{hp hp':HP}(h:Qx n [bk,how,fs,.int 8,.adr a] hp=.ok (d,hp'))(l:T.length<=1000):
 V6 5 (V7 (Qx n) (J0 (jb 0) (J0 (jb 7) (J0 (jb 9) (J0 (jb 2) (J0 (jb 3) jc)))))) (y9 bk nm pl a T u6 (some (.val how)) b (some (.val fs))) hp=.ok (.next (y9 bk nm pl a (T++[d]) u6 (some (.val how)) b (some (.val fs))) hp'):=by
 have z:=Qc l
 simp_all [y9,V6]
def sW {n:Nat}{bk nm pl:D}{a:Addr}{T:YG}{u6:Option SV}{e:Option SV}{how fs:D}{hp:HP}{c:Str}{b:YG}(h:Qx n [bk,how,fs,.int 8,.adr a] hp=.ex c b):
 V6 5 (V7 (Qx n) (J0 (jb 0) (J0 (jb 7) (J0 (jb 9) (J0 (jb 2) (J0 (jb 3) jc)))))) (y9 bk nm pl a T u6 (some (.val how)) e (some (.val fs))) hp=.ex c b:=by
 simp_all [y9,V6]
def t9 {b:D->qQ}{x:D}{e:YG}{sd:SD}{hp:HP}{c:Str}{a:YG}(h:b x sd hp=.ex c a):xg b (x::e) sd hp=.ex c a:=by
 simp_all [xg]
def Lu {b:D->qQ}{x:D}{a:YG}{sd sd':SD}{hp hp':HP}(h:b x sd hp=.ok (.next sd' hp')):xg b (x::a) sd hp=xg b a sd' hp':=by
 rw[xg,h];rfl
theorem Lv {ps:List Pl}(B:BkP ps){n j:Nat}{p:Pl}(hp:ps[j]? = some p)(G:∀u q K,u<j->ps[u]? = some q->KOk ps K->vy ps n q u K):∀(b:List Rw) i,p.rows.drop i=b->i<=p.rows.length->∀(T:List Jz) (K:Kn),(∀g∈T,Tf p.givens.length ((i:Int)*(2*wB j)) g)->T.length=p.givens.length+i->(∀hs:Yh,hs.length=p.givens.length->(T.map λg=>J7 g hs)=qg (x9 ps j) (p.rows.take i) hs)->KOk ps K ->
 (∀nm pl a u6 u7 u8 u9,xg (KP (.tup [6,7,8]) (X7 n)) (b.map jM) (y9 (JD ps) nm pl a (T.map ji) u6 u7 u8 u9) [(a,kD K)]=.ex "TooMany" [])\/∃(f:List Jz) (l:Kn),KOk ps l/\zR ps j K l/\(∀g∈f,Tf p.givens.length ((p.rows.length:Int)*(2*wB j)) g)/\f.length=p.givens.length+p.rows.length/\(∀hs:Yh,hs.length=p.givens.length->(f.map λg=>J7 g hs)=qg (x9 ps j) p.rows hs)/\∀nm pl a u6 u7 u8 u9,∃v A C E,xg (KP (.tup [6,7,8]) (X7 n)) (b.map jM) (y9 (JD ps) nm pl a (T.map ji) u6 u7 u8 u9) [(a,kD K)]=.ok (.next (y9 (JD ps) nm pl a (f.map ji) v A C E) [(a,kD l)])
 | [],i,hd,hi,T,K,hT,lT,cT,hK=>by
  have e:i=p.rows.length:=by
   have:=List.drop_eq_nil_iff.mp hd;lia
  subst e;rw[UU] at cT;exact .inr ⟨T,K,hK,λx m=>.inl m,hT,lT,cT,λnm pl a u6 u7 u8 u9=>⟨u6,u7,u8,u9,rfl⟩⟩
 |r::b,i,hd,hi,T,K,hT,lT,cT,hK=>by
  have c:i<p.rows.length:=by
   rcases Vf i p.rows.length with z|z
   .exact z
   .rw[List.drop_eq_nil_iff.mpr z] at hd;cases hd
  rw[Uu c] at hd;injection hd with h1 h2
  have F:p.rows[i]? = some r:=by rw[Zqg c,h1]
  have P:=B.ok j p hp;have R:=P.row i r F;have J:=P.g2;have L:=P.r2;have M:=R.sh;have rs:=λ(nm pl:D) (a:Addr) u6 u7 u8 u9=>tS (n:=n) (bk:=JD ps) (nm:=nm) (pl:=pl) (a:=a) (T:=T) (u6:=u6) (u7:=u7) (u8:=u8) (u9:=u9) (hp:=[(a,kD K)]) (r:=r) (λy H=>by have:=R.rng y H;lia) (λg s=>⟨by have:=(hT g s).len;lia,λx m=>by have:=((hT g s).cn.rows x m).len;lia⟩) ();rcases dB B hp G F hT lT hK with z|⟨t,K1,k1,k2,k3,k4,k5⟩
  .exact .inl λnm pl a u6 u7 u8 u9=>t9 (by rw[rs];exact sW (z a))
  .have st:∀(nm pl:D) a u6 u7 u8 u9,KP (.tup [6,7,8]) (X7 n) (jM r) (y9 (JD ps) nm pl a (T.map ji) u6 u7 u8 u9) [(a,kD K)]=.ok (.next (y9 (JD ps) nm pl a ((T++[t]).map ji) (some (.val (.str r.1))) (some (.val (.str r.2.1))) (some (.val (jq r.2.2))) (some (.val (.lst ((r.2.2.map λp=>Qd (qx T p.1) p.2).map ji))))) [(a,kD K1)]):=λnm pl a u6 u7 u8 u9=>by
    rw[rs,tf (k5 a) (by rw[Zql];lia),Uc];rfl
   have N:=ZH j;have o:((i+1:Nat):Int)*(2*wB j)=(i:Int)*(2*wB j)+2*wB j:=by rw[Int.natCast_add,Int.add_mul];lia
   have I:=Lv B hp G b (i+1) h2 c (T++[t]) K1 (λg s=>by
    rcases Jb.mp s with y|y
    .exact(hT g y).mono (by rw[o];lia)
    .rw[Jd.mp y];exact k3.mono (by rw[o];lia)) (by rw[Ub,Us];lia) (λhs h=>by
    rw[Uc,cT hs h,IF F,<- cT hs h];show _++[J7 t hs]=_;rw[k4]) k1
   rcases I with y|⟨f,l,y1,y2,y3,y4,y5,y6⟩
   .exact .inl λnm pl a u6 u7 u8 u9=>(Lu (st nm pl a u6 u7 u8 u9)).trans (y nm pl a _ _ _ _)
   .refine .inr ⟨f,l,y1,λx m=>?_,y3,y4,y5,λnm pl a u6 u7 u8 u9=>?_⟩
    .rcases y2 x m with w|w
     .exact k2 x w
     .exact .inr w
    .obtain⟨v,A,C,E,e⟩:=y6 nm pl a _ _ _ _;exact⟨v,A,C,E,(Lu (st nm pl a u6 u7 u8 u9)).trans e⟩
theorem sT {g t:Nat}(h:t<g)(a:g<=12):Tf g 0 [[((t:Int),0)]]:=by
 have b:JRow [((t:Int),(0:Int))]:=⟨List.cons_ne_nil _ _,VW _ _,()⟩;refine⟨⟨List.cons_ne_nil _ _,(),W9 xU (Wv _) () λr=>⟨λh=>(xE.mp h).1,λh=>xE.mpr ⟨h,wg.mpr ()⟩⟩⟩,(),λr c p hp=>?_⟩
 simp_all
def yD (g:Nat):List Jz:=(List.range g).map λt:Nat=>[[((t:Int),(0:Int))]]
def dO {g:Nat}{hs:Yh}(h:hs.length=g):((yD g).map λf=>J7 f hs)=hs:=by
 unfold yD;apply VO;intro i;rcases Vf i g with z|z
 .have e:J7 [[((i:Int),(0:Int))]] hs=j9 hs (i:Int)+0:=rfl
  simp_all [j9]
 simp_all
theorem Lw {ps:List Pl}(B:BkP ps):∀(n j:Nat) (p:Pl) (K:Kn),ps[j]? = some p->j<n->KOk ps K->vy ps n p j K
 | 0,_,_,_,_,h,_=>Zn h (UR _)
 |n+1,j,p,K,hp,hj,hK=>by
  have P:=B.ok j p hp;have s:=P.g1;have u:=P.g2;have f:=IZ (B.at hp).2.2.1 B.ascs (B.find hp);have v:KN [.int (p.givens.length:Nat)]=.ok (JV 0 p.givens.length):=by rw[Wo () ()];rfl
  have w:jQ (.one 0) (QD wR (J0 (jb 0) jc)) [none] (JV 0 p.givens.length)=.ok ((yD p.givens.length).map ji):=by
   unfold yD;rw[Zw];exact YO λi x=>by simp
  have y:qW "Plan" "givens" (Qw p)=some (.lst (p.givens.map .str)):=rfl;have A:qW "Plan" "rows" (Qw p)=some (.lst (p.rows.map jM)):=rfl;have l:(p.givens.map D.str).length=p.givens.length:=Zql _;have C:=Qc (show p.givens.length<=1000 from ());have st:∀a,Qf 10 [JD ps,.str p.name,.int 8,.adr a]=[some (.val (JD ps)),some (.val (.str p.name)),some (.val (.int 8)),some (.val (.adr a)),none,none,none,none,none,none]:=λa=>rfl;have b:∀a (X:Res (D×HP)),(yE (AU (iS (qX (qW "Plan" "rows") (jb 4))) (.tup [6,7,8]) (X7 n)) (wC 5 (zx (jb 5)))) (y9 (JD ps) (.str p.name) (Qw p) a ((yD p.givens.length).map ji) none none none none) [(a,kD K)]=X->ZG (Qx n) (Qf 10 [JD ps,.str p.name,.int 8,.adr a]) [(a,kD K)]=X:=λa X h=>by
   rw[st];unfold ZG;refine fX (sd':=[some (.val (JD ps)),some (.val (.str p.name)),some (.val (.int 8)),some (.val (.adr a)),some (.val (Qw p)),none,none,none,none,none]) (IB (by simp[f])) ?_;refine fX (IB (sd':=y9 (JD ps) (.str p.name) (Qw p) a ((yD p.givens.length).map ji) none none none none) ?_) h
   simp_all [y9,V4]
  have it:∀a T u6 u7 u8 u9,iS (qX (qW "Plan" "rows") (jb 4)) (y9 (JD ps) (.str p.name) (Qw p) a T u6 u7 u8 u9)=.ok (p.rows.map jM):=λa T u6 u7 u8 u9=>by
   rfl
  have go:=Lv B hp (n:=n) (λm q K E o r=>Lw B n m q K o () r) p.rows 0 rfl (Ua _) (yD p.givens.length) K (λg c=>by
   obtain⟨t,F,rfl⟩:=Ja.mp c
   grind[sT]) (by unfold yD;rw[Zql,ZC];rfl) (λhs h=>by rw[dO h];rfl) hK
  rcases go with z|⟨T,K',k1,k2,k3,k4,k5,k6⟩
  .refine .inl λa=>?_;refine Lk rfl (b a _ ?_)
   simp_all
  .refine .inr ⟨T,K',k1,k2,λg c=>(k3 g c).mono ?_,λhs h=>?_,λe=>?_,λa=>?_⟩
   .have G:=ZH j;have H:=P.r2;have:=Int.mul_le_mul_of_nonneg_right (show(p.rows.length:Int)<=8 by lia) (show 0<=2*wB j from ());show _<=16*wB j;lia
   .rw[k5 hs h];rfl
   .grind
   .refine dk rfl (b a _ ?_);obtain⟨I,J,L,M,e⟩:=k6 (.str p.name) (Qw p) a none none none none;rw[IA,Ts,it,jz,e,jz];rfl
def Bw:FS:=(j4 (Dq (QM 4) (.dct [] []) (J0 (jb 0) (J0 (jb 1) (J0 (jb 2) jc)))))
def Bx:YG->Res D:=jE 3 3 Bw
def ZI:FS:=(j4 (jf j6 (J6 Bx (J0 (jb 0) (J0 (jb 1) (J0 (jb 2) jc)))) (qX xy (dC (.int 1)))))
def Wx:YG->Res D:=jE 3 3 ZI
def dz {ps:List Pl}(B:BkP ps){j:Nat}{p:Pl}(hp:ps[j]? = some p):Wx [JD ps,.str p.name,.int 8]=QH\/∃t,Wx [JD ps,.str p.name,.int 8]=.ok (ji t)/\Tf p.givens.length (wB (j+1)) t/\∀hs:Yh,hs.length=p.givens.length->J7 t hs=x9 ps (j+1) p.name hs:=by
 have b:∀x:Res D,(∀a,(QM 4 [JD ps,.str p.name,.int 8,.adr a] [(a,.dct [] [])]).bind (λq=>.ok q.1)=x)->Bx [JD ps,.str p.name,.int 8]=x:=λx h=>by
  have c:Dq (QM 4) (.dct [] []) (J0 (jb 0) (J0 (jb 1) (J0 (jb 2) jc))) [some (.val (JD ps)),some (.val (.str p.name)),some (.val (.int 8))]=x:=TD h;generalize JD ps=bk at c;simp[Bx,Bw,c];cases x<;>rfl
 rcases Lw B 4 j p [] hp (B.at hp).2.1 ⟨VC,λx h=>nomatch h⟩ with z|⟨T,K',k1,k2,k3,k4,k5,k6⟩
 .left;have e:=b QH λa=>by
   have:=z a;show Res.bind (QM 4 [JD ps,.str p.name,.int 8,.adr a] [(a,kD [])]) _=_;rw[this];rfl
  generalize JD ps=bk at e;simp[Wx,ZI,e,QH]
 .obtain⟨ys,t,rfl⟩:=D2 k5;refine .inr ⟨t,?_,k3 t (Ur _ Zqs),λhs h=>?_⟩
  .have e:=b (.ok (.lst ((ys++[t]).map ji))) λa=>by
    have:=k6 a;show Res.bind (QM 4 [JD ps,.str p.name,.int 8,.adr a] [(a,kD [])]) _=_;rw[this];rfl
   have l:=D1 (f:=ji) ys t;generalize (ys++[t]).map ji=es at e l;have l:qh es (-1)=some (ji t):=l;generalize JD ps=bk at e;simp[Wx,ZI,e,l]
  .have e:=k4 hs h;obtain⟨i,m⟩:=B.part (n:=j) hp hs;rw[m,Uc] at e;have e:=Zt (λl=>l.getLastD 0) e;have e:((ys.map λg=>J7 g hs)++[J7 t hs]).getLastD 0=(i++[x9 ps (j+1) p.name hs]).getLastD 0:=e;rw[VQ,VQ] at e;exact e
def X8:FS:=(jj (jy 3 (dC .non)) (jj (AR "TooMany" (jy 3 (Bb Ww Wx (J0 (jb 0) (J0 (jb 1) (J0 (dC (.int 8)) jc))) (J0 (qG (J0 (jb 2) jc)) (J0 (dC (.int 8)) jc)))) (jy 3 (dC .non))) (j4 (jb 3))))
def KE:YG->Res D:=jE 4 3 X8
def dt {fs:List Jz}{ds:Yh}{most:Int}(e:ds.length=fs.length)(g:fs.length<=1000)(h:∀f∈fs,∀r∈f,JRow r)(i:∀f∈fs,f.length<=1000)
 (b:xl [.lst ((WX fs ds).map ji),.int most]=QH):Ww [.lst (fs.map ji),.lst (ds.map .int),.int most]=QH:=by
 obtain⟨a,c⟩:=IV e g h i;generalize WX fs ds=as at a b;unfold QH at b ⊢;simp[Ww,ZE] at a c b ⊢;simp[a,c,b]
structure BxO (t:Jz)(bs:Jz):Prop where
 mem:∀b,b∈bs↔∃q∈t,jN q=b
 len:bs.length=t.length
def cu {bk nm:D}(d:Int)(h:Wx [bk,nm,.int 8]=QH):KE [bk,nm,.int d]=.ok .non:=by
 unfold QH at h;simp[KE,X8,h]
def dM {bk nm:D}{t:Jz}{n:Nat}{W:Int}(d:Int)(c:Wx [bk,nm,.int 8]=.ok (ji t))(T:Tf n W t):
 KE [bk,nm,.int d]=.ok .non\/∃t' bs V,KE [bk,nm,.int d]=.ok (ji bs)/\Tf n V t'/\(∀hs,J7 t' hs=J7 t hs-d)/\BxO t' bs:=by
 have lt:=T.len;have m:=T.wait (w:=-d) (V:=if d<0 then -d else d) (by split<;>lia);have h:∀f ∈ [t],∀r∈f,JRow r:=λf a r i=>by rw[Jd.mp a] at i;exact T.cn.rows r i
 have j:∀f ∈ [t],f.length<=1000:=λf a=>by rw[Jd.mp a];lia
 rcases DF (fs:=[Qd t (-d)]) () (λg o=>by rw[Jd.mp o];exact m) () with z|⟨t',z1,z2,z3⟩
 .left;have e:Ww [.lst [ji t],.lst [.int d],.int 8]=QH:=dt (fs:=[t]) (ds:=[d]) rfl () h j z;unfold QH at e;generalize ji t=td at *;simp[KE,X8,c,e]
 .have p:=z2.len;have e:Ww [.lst [ji t],.lst [.int d],.int 8]=.ok (ji (JQ j8 (t'.map jN))):=cm (fs:=[t]) (ds:=[d]) rfl () h j z1 z2.cn.rows ();have l:=Qz (ltb:=j8) (t'.map jN);refine .inr ⟨t',JQ j8 (t'.map jN),_,?_,z2,λhs=>?_,⟨λb=>(l.mem_iff).trans List.mem_map,by rw[l.length_eq,Zql]⟩⟩
  .generalize ji (JQ j8 (t'.map jN))=bd at *;generalize ji t=td at *;simp[KE,X8,c,e]
  .rw[z3 hs];show J7 (Qd t (-d)) hs=_;rw[T.comes];lia
def X9:FS:=(jj (qJ (JE (jf xK (jf jF (jb 0) (dC (.int 3))) (dC (.int 1)))) (jj (jy 1 (jf jF (jf qD (jf Qk (jb 0) (dC (.int 6))) (jf ju (jf qT (dC (.int 10)) (dC (.int 29))) (dC (.int 57)))) (jf qT (dC (.int 10)) (dC (.int 59))))) (j4 (jf j6 (qG (J0 (jb 1) (J0 (qX xy (jb 1)) jc))) (jf jF (jf Qk (jb 0) (dC (.int 3))) (dC (.int 2)))))) JT) (j4 (jf yb (jf jF (jf Qk (jb 0) (dC (.int 3))) (dC (.int 9))) (dC (.int 4)))))
def Wb:YG->Res D:=jE 2 1 X9
def xZ (c:Int):Int:=if c % 3=1 then(if c / 3 % 2=0 then c / 6*((10:Int) ^ (29:Nat)+57) % (10:Int) ^ (59:Nat) else -(c / 6*((10:Int) ^ (29:Nat)+57) % (10:Int) ^ (59:Nat))) else c / 3 % 9-4
def tN {c:Int}(g:0<=c)(b:c<(10:Int) ^ (63:Nat)):c.natAbs<yF:=by
 have e:(10:Nat) ^ 63<=yF:=by decide +kernel
 have f:(10:Int) ^ (63:Nat)=(((10:Nat) ^ 63:Nat):Int):=by decide +kernel
 rw[f] at b;generalize (10:Nat) ^ 63=a at e b;lia
def tF (x y:D):qh [x,y] 0=some x:=rfl
def tH (x y:D):qh [x,y] 1=some y:=rfl
def Lx {c:Int}(a:0<=c)(g:c<(10:Int) ^ (63:Nat)):Wb [.int c]=.ok (.int (xZ c)):=by
 have h:Kl (c / 6) 100000000000000000000000000057=true:=P6 (tN (Int.ediv_nonneg a ()) (Int.lt_of_le_of_lt (VP _ a) g)) (by decide +kernel);have b:=WN h;have e:qT (.int 10) (.int 29)=some (.int (10 ^ 29)):=rfl;have f:qT (.int 10) (.int 59)=some (.int (10 ^ 59)):=rfl;clear a g h;unfold xZ;by_cases c1:c % 3=1
 .have c2:c / 3 % 2=0\/c / 3 % 2=1:=()
  rcases c2 with c2|c2
  .simp[Wb,X9,c1,c2,b,e,f,tF]
  .simp[Wb,X9,c1,c2,b,e,f,tH]
 .simp[Wb,X9,c1,b,e,f]
def Bz:FS:=(jj (qf 4 (qG jc)) (jj (jK (yB (J0 (jb 3) jc)) (.one 5) (jj (jy 6 (J6 Q8 (J0 (jb 0) (J0 (jf ju (jf ju (jb 2) (dC (.int 12))) (jb 5)) jc)))) (QL 4 (J6 Wb (J0 (jf jF (jf ju (jf qD (jf ju (jb 1) (jb 6)) (dC (.int 48271))) (jf qD (dC (.int 104729)) (jb 5))) (jf ju (jf qT (dC (.int 10)) (dC (.int 61))) (dC (.int 7)))) jc))))) (Kb 4)))
def ZJ:YG->Res D:=qc 7 4 Bz
def gB {ns:Yh}(l:ns.length<=1000)(a:Int){at_ many:Nat}(u:at_<=1000)(v:many<=12):∃hs:Yh,hs.length=many/\ZJ [.scr ns,.int a,.int at_,.int many]=.ok (.lst (hs.map .int)):=by
 have m:KN [.int (many:Nat)]=.ok (JV 0 many):=by rw[Wo () ()];rfl
 have n:qT (.int 10) (.int 61)=some (.int 10000000000000000000000000000000000000000000000000000000000000):=rfl;obtain⟨sd',e,hs,g,u6,h,f⟩:=Kc (tg:=.one 5) (b:=jj (jy 6 (J6 Q8 (J0 (jb 0) (J0 (jf ju (jf ju (jb 2) (dC (.int 12))) (jb 5)) jc)))) (QL 4 (J6 Wb (J0 (jf jF (jf ju (jf qD (jf ju (jb 1) (jb 6)) (dC (.int 48271))) (jf qD (dC (.int 104729)) (jb 5))) (jf ju (jf qT (dC (.int 10)) (dC (.int 61))) (dC (.int 7)))) jc))))
  (ds:=JV 0 many) (sd:=[some (.val (.scr ns)),some (.val (.int a)),some (.val (.int at_)),some (.val (.int many)),some (.own false (.lst [])),none,none])
  (P:=λi sd=>∃(hs:Yh) (g u6:Option SV),sd=[some (.val (.scr ns)),some (.val (.int a)),some (.val (.int at_)),some (.val (.int many)),some (.own false (.lst (hs.map .int))),g,u6]/\hs.length=i) ⟨[],none,none,rfl,rfl⟩ (by
   rintro i x sd o ⟨hs,g,u6,rfl,f⟩;obtain⟨rfl,w⟩:=YN o;rw[Vs];have j:=WV ns (k:=(at_:Int)+12+i) () () l;generalize JP ns ((at_:Int)+12+i)=c at j;have p:qD (.int (a+c)) (.int 48271)=some (.int ((a+c)*48271)):=WN (CI () ());have m2:qD (.int 104729) (.int (i:Int))=some (.int (104729*(i:Int))):=WN (CJ () ());obtain⟨y,ey⟩:∃y,y=(a+c)*48271+104729*(i:Int):=⟨_,rfl⟩;have q:=U5 y (show(10000000000000000000000000000000000000000000000000000000000007:Int)≠0 by lia);have r:=U6 y (show(0:Int)<10000000000000000000000000000000000000000000000000000000000007 by lia);have s:=Lx q (Int.lt_trans r (by decide +kernel));have md:jF (.int y) (.int 10000000000000000000000000000000000000000000000000000000000007)=some (.int (y % 10000000000000000000000000000000000000000000000000000000000007)):=Xu ();generalize y % 10000000000000000000000000000000000000000000000000000000000007=z at *;have t:=Qc (show hs.length<=1000 from ());refine⟨[some (.val (.scr ns)),some (.val (.int a)),some (.val (.int at_)),some (.val (.int many)),some (.own false (.lst ((hs++[xZ z]).map .int))),some (.val (.int i)),some (.val (.int c))],?_,_,_,_,rfl,by rw[Ub,f];rfl⟩;rw[Uc];simp[j,p,m2,n,<- ey,md,s,t])
 subst h;rw[V4] at f;refine⟨hs,f,?_⟩;simp[ZJ,Bz,m,e]
def B0:FS:=(j4 (jt wA (J0 (Qr [none,none,some 1] (iS (jb 0)) (.tup [0,1]) (jf wb (jf j6 (jb 2) (jb 0)) (jb 1))) jc)))
def ZK:YG->Res D:=jE 2 2 B0
def xu (box:Jy)(hs:Yh):Bool:=box.all λp=>decide (j9 hs p.1<=p.2)
def gG {box:Jy}{hs:Yh}(e:box.length<=1000)(c:∀p∈box,0<=p.1/\p.1<(hs.length:Int)):ZK [jq box,.lst (hs.map .int)]=.ok (.bl (xu box hs)):=by
 have a:jQ (.tup [0,1]) (jf wb (jf j6 (jb 2) (jb 0)) (jb 1)) [none,none,some (.val (.lst (hs.map .int)))] (box.map qd)=.ok (box.map λp=>.bl (decide (j9 hs p.1<=p.2))):=Kw λp hp=>by
  simp[Dt (c p hp).1 (c p hp).2]
 have f:box.map (λp=>D.bl (decide (j9 hs p.1<=p.2)))=(box.map λp=>decide (j9 hs p.1<=p.2)).map .bl:=by rw[Zw];rfl
 have b:=Ra (box.map λp=>decide (j9 hs p.1<=p.2));rw[<- f] at b;have g:(box.map λp=>decide (j9 hs p.1<=p.2)).all id=xu box hs:=by unfold xu;rw[List.all_map];rfl
 rw[g] at b;simp[ZK,B0,jq,a,Qc e,b]
def B2:FS:=(jj (jy 2 (dC (.bl false))) (jj (jK (iS (jb 0)) (.one 3) (jy 2 (wD (jb 2) (J6 ZK (J0 (jb 3) (J0 (jb 1) jc)))))) (j4 (jb 2))))
def ZL:YG->Res D:=jE 4 2 B2
def gy {bs:Jz}{hs:Yh}(g:∀b∈bs,b.length<=1000/\∀p∈b,0<=p.1/\p.1<(hs.length:Int)):ZL [ji bs,.lst (hs.map .int)]=.ok (.bl (bs.any λb=>xu b hs)):=by
 obtain⟨sd',e,f,a⟩:=Kc (tg:=.one 3) (b:=jy 2 (wD (jb 2) (J6 ZK (J0 (jb 3) (J0 (jb 1) jc))))) (ds:=bs.map jq) (sd:=[some (.val (ji bs)),some (.val (.lst (hs.map .int))),some (.val (.bl false)),none])
  (P:=λi sd=>∃(f:Option SV),sd=[some (.val (ji bs)),some (.val (.lst (hs.map .int))),some (.val (.bl ((bs.take i).any λb=>xu b hs))),f]) ⟨none,rfl⟩ (by
   rintro i x sd h ⟨f,rfl⟩;obtain⟨b,c,rfl⟩:=QF h;obtain⟨j,l⟩:=g b (Uf c);have m:=gG (box:=b) (hs:=hs) j l;have tk:bs.take (i+1)=bs.take i++[b]:=by rw[Vr,c];rfl
   refine⟨[some (.val (ji bs)),some (.val (.lst (hs.map .int))),some (.val (.bl ((bs.take (i+1)).any λb=>xu b hs))),some (.val (jq b))],?_,_,rfl⟩;rw[tk,List.any_append,show([b].any λb=>xu b hs)=xu b hs by simp];generalize (bs.take i).any (λb=>xu b hs)=own;generalize xu b hs=z at *;generalize jq b=bd at *;generalize ji bs=bb;generalize hs.map D.int=hd at *;cases own<;>simp[m])
 rw[Zql,UU] at a;subst a;have n:Kf (ji bs)=some (bs.map jq):=rfl;generalize ji bs=bb at *;simp[ZL,B2,n,e]
def B4:FS:=(jj (jy 3 (jf j6 (jb 1) (jf jF (jb 2) (jt jP (J0 (jb 1) jc))))) (jj (jK (iS (jb 3)) (.one 4) (jj (jy 2 (jf Qk (jb 2) (dC (.int 5)))) (qJ (JE (jf hO (jf jF (jb 2) (dC (.int 5))) (dC (.int 3)))) (KO 0 (jf j6 (jb 4) (dC (.int 0))) (jf yb (jf ju (jf j6 (jb 4) (dC (.int 1))) (jf jF (jb 2) (dC (.int 5)))) (dC (.int 1)))) JT))) (Kb 0)))
def ZM:YG->Res D:=WQ 5 3 0 B4
def gz {bs:Jz}{hs:Yh}{n:Nat}(a:Int)(r:bs ≠ [])(s:∀b∈bs,∀p∈b,0<=p.1/\p.1<(n:Int))(t:hs.length=n):∃f:Yh,ZM [.lst (hs.map .int),ji bs,.int a]=.ok (.lst (f.map .int))/\f.length=n:=by
 have u:jP [ji bs]=some (.int bs.length):=by
  show some (D.int ((bs.map jq).length:Nat))=_;rw[Zql]
 have B:0<bs.length:=Jp.mpr r;have v:=Xu (i:=a) (j:=(bs.length:Int)) ();obtain⟨j,hj,j1⟩:∃j:Nat,a % (bs.length:Int)=(j:Int)/\j<bs.length:=by
  have C:=U5 a (show(bs.length:Int)≠0 by lia);have E:=U6 a (show(0:Int)<bs.length by lia);exact⟨(a % (bs.length:Int)).toNat,(),()⟩
 have o:j6 (ji bs) (.int (j:Int))=some (jq bs[j]):=by
  show qh (bs.map jq) (j:Int)=_;rw[Wu (by rw[Zql];exact j1),Zv,Zqg j1];rfl
 have q:bs[j]∈bs:=Uv j1;generalize bs[j]=box at o q;have w:Kf (jq box)=some (box.map qd):=rfl;obtain⟨sd',e,f,c,h,l,g⟩:=Kc (tg:=.one 4) (b:=jj (jy 2 (jf Qk (jb 2) (dC (.int 5)))) (qJ (JE (jf hO (jf jF (jb 2) (dC (.int 5))) (dC (.int 3)))) (KO 0 (jf j6 (jb 4) (dC (.int 0))) (jf yb (jf ju (jf j6 (jb 4) (dC (.int 1))) (jf jF (jb 2) (dC (.int 5)))) (dC (.int 1)))) JT))
  (ds:=box.map qd) (sd:=[some (.own false (.lst (hs.map .int))),some (.val (ji bs)),some (.val (.int a)),some (.val (jq box)),none])
  (P:=λ_ sd=>∃(f:Yh) (c:Int) (h:Option SV),sd=[some (.own false (.lst (f.map .int))),some (.val (ji bs)),some (.val (.int c)),some (.val (jq box)),h]/\f.length=n) ⟨hs,a,none,rfl,t⟩ (by
   rintro i x sd y ⟨f,c,h,rfl,g⟩;obtain⟨p,hp,rfl⟩:=QF y;have A:=s box q p (Uf hp);have ix:xJ f.length p.1=some p.1.toNat:=by
    unfold xJ;rw[Zd A.1,Zd ()]
   by_cases z:c / 5 % 5<3
   .refine⟨[some (.own false (.lst ((f.set p.1.toNat (p.2+c / 5 % 5-1)).map .int))),some (.val (ji bs)),some (.val (.int (c / 5))),some (.val (jq box)),some (.val (qd p))],?_,_,_,_,rfl,by rw[UG];exact g⟩;rw[List.map_set];simp[z,ix]
   .refine⟨[some (.own false (.lst (f.map .int))),some (.val (ji bs)),some (.val (.int (c / 5))),some (.val (jq box)),some (.val (qd p))],?_,_,_,_,rfl,g⟩;simp[z])
 refine⟨f,?_,g⟩;subst l;generalize m:jj (jy 2 _) _=b1 at e;simp[ZM,B4,u,v,hj,o,w,m,e]
def ZN:FS:=(jj (qJ (JE (jf xK (jf jF (jb 0) (dC (.int 3))) (dC (.int 1)))) (jj (jy 1 (jf jF (jf qD (jf Qk (jb 0) (dC (.int 12))) (jf ju (jf qT (dC (.int 10)) (dC (.int 14))) (dC (.int 31)))) (jf qT (dC (.int 10)) (dC (.int 30))))) (j4 (jf j6 (qG (J0 (jb 1) (J0 (qX xy (jb 1)) (J0 (jf yb (jf qT (dC (.int 10)) (dC (.int 30))) (dC (.int 1))) (J0 (jf yb (dC (.int 1)) (jf qT (dC (.int 10)) (dC (.int 30)))) jc))))) (jf jF (jf Qk (jb 0) (dC (.int 3))) (dC (.int 4)))))) JT) (j4 (jf yb (jf jF (jf Qk (jb 0) (dC (.int 3))) (dC (.int 9))) (dC (.int 4)))))
def XA:YG->Res D:=jE 2 1 ZN
def vD (c:Int):Int:=if c % 3=1 then(if c / 3 % 4=0 then c / 12*100000000000031 % 1000000000000000000000000000000 else if c / 3 % 4=1 then -(c / 12*100000000000031 % 1000000000000000000000000000000) else if c / 3 % 4=2 then 999999999999999999999999999999 else -999999999999999999999999999999) else c / 3 % 9-4
def sP (c:Int): -1000000000000000000000000000000<=vD c/\vD c<=1000000000000000000000000000000:=by
 unfold vD;have a:=U5 (c / 12*100000000000031) (show(1000000000000000000000000000000:Int)≠0 by lia);have b:=U6 (c / 12*100000000000031) (show(0:Int)<1000000000000000000000000000000 by lia);generalize c / 12*100000000000031 % 1000000000000000000000000000000=x at *
 split
 .split
  .omega
  .split
   .omega
   .split<;>lia
 .omega
def uR (x y z w:D):qh [x,y,z,w] 0=some x/\qh [x,y,z,w] 1=some y/\qh [x,y,z,w] 2=some z/\qh [x,y,z,w] 3=some w:=⟨rfl,rfl,rfl,rfl⟩
def gF (c:Int):XA [.int c]=.ok (.int (vD c)):=by
 have b:qD (.int (c / 12)) (.int 100000000000031)=some (.int (c / 12*100000000000031)):=WN (CI () ());have f:qT (.int 10) (.int 14)=some (.int 100000000000000):=rfl;have g:qT (.int 10) (.int 30)=some (.int 1000000000000000000000000000000):=rfl;unfold vD;by_cases c1:c % 3=1
 .have a:c / 3 % 4=0\/c / 3 % 4=1\/c / 3 % 4=2\/c / 3 % 4=3:=()
  rcases a with e|e|e|e<;>simp[XA,ZN,c1,e,b,f,g,uR]
 .simp[XA,ZN,c1,b,f,g]
def WY:FS:=(jj (jy 5 (J6 Q8 (J0 (jb 0) (J0 (jb 1) jc)))) (jj (jy 6 (jf j6 (qG (J0 (dC (.str "all")) (J0 (dC (.str "first")) jc))) (jf jF (jb 5) (dC (.int 2))))) (jj (jy 7 (jf ju (dC (.int 1)) (jf jF (jf Qk (jb 5) (dC (.int 2))) (dC (.int 3))))) (jj (qJ (Xl (JE (jf vF (jt jP (J0 (jb 4) jc)) (dC (.int 0)))) (JE (jf xK (jf jF (jf Qk (jb 5) (dC (.int 6))) (dC (.int 2))) (dC (.int 1))))) (jj (jy 8 (jf j6 (jb 4) (jf jF (jf Qk (jb 5) (dC (.int 12))) (jt jP (J0 (jb 4) jc))))) (jj (jy 6 (jf j6 (jb 8) (dC (.int 0)))) (jy 7 (jf j6 (jb 8) (dC (.int 1)))))) JT) (jj (qf 9 (qG jc)) (jj (jK (yB (J0 (jb 7) jc)) (.one 10) (jj (jy 11 (J6 Q8 (J0 (jb 0) (J0 (jf ju (jf ju (jb 1) (dC (.int 1))) (jb 10)) jc)))) (QL 9 (xh (J0 (jf jF (jb 11) (jb 3)) (J0 (J6 XA (J0 (jf Qk (jb 11) (jb 3)) jc)) jc)))))) (λsd=>(j4 (xh (J0 (J6 Kr (J0 (jb 0) (J0 (jf ju (dC (.int 20)) (jb 2)) jc))) (J0 (jb 6) (J0 (jt Wn (J0 (jb 9) jc)) jc))))) (jW [9] sd))))))))
def XB:YG->Res D:=jE 12 5 WY
def hD:FS:=(jj (jy 11 (J6 Q8 (J0 (jb 0) (J0 (jf ju (jf ju (jb 1) (dC (.int 1))) (jb 10)) jc)))) (QL 9 (xh (J0 (jf jF (jb 11) (jb 3)) (J0 (J6 XA (J0 (jf Qk (jb 11) (jb 3)) jc)) jc)))))
def mP:FS:=(jj (qf 9 (qG jc)) (jj (jK (yB (J0 (jb 7) jc)) (.one 10) hD) (λsd=>(j4 (xh (J0 (J6 Kr (J0 (jb 0) (J0 (jf ju (dC (.int 20)) (jb 2)) jc))) (J0 (jb 6) (J0 (jt Wn (J0 (jb 9) jc)) jc))))) (jW [9] sd))))
def Ly {ns:Yh}(r:ns.length<=1000){at_ k things n:Nat}(H:at_<=1000)(I:k<20)(J:1<=things)(K:things<=1000)(L:n<=10)(g:D)(how:Str)(h u8:Option SV):
 ∃its:Jy,its.length=n/\(∀p∈its,(0<=p.1/\p.1<(things:Int)) /\ -1000000000000000000000000000000<=p.2/\p.2<=1000000000000000000000000000000)/\mP [some (.val (.scr ns)),some (.val (.int at_)),some (.val (.int k)),some (.val (.int things)),some (.val g),h,some (.val (.str how)),some (.val (.int n)),u8,none,none,none]=.ok (.ret (jM (Qh (JP ns 60) (20+k),how,its))):=by
 have t:KN [.int (n:Nat)]=.ok (JV 0 n):=by rw[Wo () ()];rfl
 obtain⟨sd',e,its,a,f,o,l,ok⟩:=Kc (tg:=.one 10) (b:=hD) (ds:=JV 0 n) (sd:=[some (.val (.scr ns)),some (.val (.int at_)),some (.val (.int k)),some (.val (.int things)),some (.val g),h,some (.val (.str how)),some (.val (.int n)),u8,some (.own false (.lst [])),none,none])
  (P:=λi sd=>∃(its:Jy) (a f:Option SV),sd=[some (.val (.scr ns)),some (.val (.int at_)),some (.val (.int k)),some (.val (.int things)),some (.val g),h,some (.val (.str how)),some (.val (.int n)),u8,some (.own false (.lst (its.map qd))),a,f]/\its.length=i/\∀p∈its,(0<=p.1/\p.1<(things:Int)) /\ -1000000000000000000000000000000<=p.2/\p.2<=1000000000000000000000000000000)
  ⟨[],none,none,rfl,rfl,λp hp=>nomatch hp⟩ (by
   rintro i x sd u ⟨its,a,f,rfl,l,ok⟩;obtain⟨rfl,M⟩:=YN u;rw[Vs];have s:=WV ns (k:=(at_:Int)+1+i) () () r;generalize JP ns ((at_:Int)+1+i)=c at s;have v:=Xu (i:=c) (j:=(things:Int)) ();have y:=YM (i:=c) (j:=(things:Int)) () ();have A:=gF (c / (things:Int));have wi:=sP (c / (things:Int));have B:=U5 c (show(things:Int)≠0 by lia);have C:=U6 c (show(0:Int)<things by lia);generalize vD (c / (things:Int))=w at *;generalize c % (things:Int)=m at *;generalize c / (things:Int)=q at *;have E:=Qc (show its.length<=1000 from ());refine⟨[some (.val (.scr ns)),some (.val (.int at_)),some (.val (.int k)),some (.val (.int things)),some (.val g),h,some (.val (.str how)),some (.val (.int n)),u8,some (.own false (.lst ((its++[(m,w)]).map qd))),some (.val (.int i)),some (.val (.int c))],?_,_,_,_,rfl,by rw[Ub,l];rfl,λp hp=>?_⟩
   .rw[Uc];unfold hD;simp[s,v,y,A,E,qd]
   .rcases Jb.mp hp with z|z
    .exact ok p z
    .rw[Jd.mp z];exact⟨⟨B,C⟩,wi⟩)
 subst o;rw[V4] at l;refine⟨its,l,ok,?_⟩;have F:=(Bh r (k:=20+k) (x:=20+(k:Int)) () ()).1;have G:jM (Qh (JP ns 60) (20+k),how,its)=.tup [.str (Qh (JP ns 60) (20+k)),.str how,.tup (its.map qd)]:=rfl;rw[G];generalize Qh (JP ns 60) (20+k)=st at *;unfold mP;generalize hD=b at *;simp[t,e,F]
def gE {ns:Yh}(o:ns.length<=1000){ps:List Pl}(F:∀q∈ps,1<=q.givens.length/\q.givens.length<=4)(Q:ps.length<=4){at_ k things:Nat}(u:at_<=1000)(v:k<20)(w:1<=things)(y:things<=1000):
 ∃r:Rw,XB [.scr ns,.int at_,.int k,.int things,.lst (ps.map jo)]=.ok (jM r)/\RwP ps (things:Int) r:=by
 have A:=WV ns (k:=(at_:Int)) () () o;generalize JP ns (at_:Int)=c at A;have nm:=(Bh o (k:=20+k) (x:=20+(k:Int)) () ()).2;have s:jP [.lst (ps.map jo)]=some (.int (ps.length:Nat)):=by rw[CK,Zql]
 have two:∃a:Str,qh [D.str "all",.str "first"] (c % 2)=some (.str a)/\(a = "all" \/ a = "first"):=by
  have:c % 2=0\/c % 2=1:=()
  rcases this with e|e
  .exact⟨"all",by rw[e];rfl,.inl rfl⟩
  .exact⟨"first",by rw[e];rfl,.inr rfl⟩
 obtain⟨a,G,H⟩:=two;obtain⟨b,en⟩:∃b:Nat,1+c / 2 % 3=(b:Int):=⟨(1+c / 2 % 3).toNat,()⟩;have R:1<=b/\b<=3:=()
 have f:∀(how:Str) (n:Nat) (u8:Option SV) (X:Res Out),(qJ (Xl (JE (jf vF (jt jP (J0 (jb 4) jc)) (dC (.int 0)))) (JE (jf xK (jf jF (jf Qk (jb 5) (dC (.int 6))) (dC (.int 2))) (dC (.int 1))))) (jj (jy 8 (jf j6 (jb 4) (jf jF (jf Qk (jb 5) (dC (.int 12))) (jt jP (J0 (jb 4) jc))))) (jj (jy 6 (jf j6 (jb 8) (dC (.int 0)))) (jy 7 (jf j6 (jb 8) (dC (.int 1)))))) JT) [some (.val (.scr ns)),some (.val (.int at_)),some (.val (.int k)),some (.val (.int things)),some (.val (.lst (ps.map jo))),some (.val (.int c)),some (.val (.str a)),some (.val (.int b)),none,none,none,none]=.ok (.next [some (.val (.scr ns)),some (.val (.int at_)),some (.val (.int k)),some (.val (.int things)),some (.val (.lst (ps.map jo))),some (.val (.int c)),some (.val (.str how)),some (.val (.int n)),u8,none,none,none])->mP [some (.val (.scr ns)),some (.val (.int at_)),some (.val (.int k)),some (.val (.int things)),some (.val (.lst (ps.map jo))),some (.val (.int c)),some (.val (.str how)),some (.val (.int n)),u8,none,none,none]=X->WY [some (.val (.scr ns)),some (.val (.int at_)),some (.val (.int k)),some (.val (.int things)),some (.val (.lst (ps.map jo))),none,none,none,none,none,none,none]=X:=λhow n u8 X I J=>by
  unfold WY;refine yJ (sd':=[some (.val (.scr ns)),some (.val (.int at_)),some (.val (.int k)),some (.val (.int things)),some (.val (.lst (ps.map jo))),some (.val (.int c)),none,none,none,none,none,none]) (by generalize ps.map jo=PD;simp[A]) ?_;refine yJ (sd':=[some (.val (.scr ns)),some (.val (.int at_)),some (.val (.int k)),some (.val (.int things)),some (.val (.lst (ps.map jo))),some (.val (.int c)),some (.val (.str a)),none,none,none,none,none]) (by generalize ps.map jo=PD;simp[G]) ?_;refine yJ (sd':=[some (.val (.scr ns)),some (.val (.int at_)),some (.val (.int k)),some (.val (.int things)),some (.val (.lst (ps.map jo))),some (.val (.int c)),some (.val (.str a)),some (.val (.int b)),none,none,none,none]) (by generalize ps.map jo=PD;simp[en]) ?_;exact yJ I J
 have m:∀{d:D},WY [some (.val (.scr ns)),some (.val (.int at_)),some (.val (.int k)),some (.val (.int things)),some (.val (.lst (ps.map jo))),none,none,none,none,none,none,none]=.ok (.ret d)->XB [.scr ns,.int at_,.int k,.int things,.lst (ps.map jo)]=.ok d:=λ{d} h=>by
  unfold XB;rw[AB 12 5 _ [.scr ns,.int at_,.int k,.int things,.lst (ps.map jo)] rfl];show(WY [some (.val (.scr ns)),some (.val (.int at_)),some (.val (.int k)),some (.val (.int things)),some (.val (.lst (ps.map jo))),none,none,none,none,none,none,none]).bind xt=_;rw[h];rfl
 by_cases c1:ps.length=0\/c / 6 % 2≠1
 .obtain⟨its,l,ok,t⟩:=Ly o (n:=b) u v w y () (.lst (ps.map jo)) a (some (.val (.int c))) none;refine⟨(Qh (JP ns 60) (20+k),a,its),m (f a b none _ ?_ t),nm,?_,λz=>?_,by show its.length<=10;lia,λp hp=>(ok p hp).1,λp hp=>(ok p hp).2⟩
  .generalize ps.map jo=PD at *;rcases c1 with z|z
   .have g:¬ 0<ps.length:=()
    simp[s,g]
   .by_cases g:0<ps.length
    .simp[s,g,z]
    .simp[s,g]
  .exact H.elim .inl λz=>.inr (.inl z)
  .have z:its=[]:=z;rw[z] at l;have l:0=b:=l;lia
 .have K:0<ps.length:=()
  have c2:c / 6 % 2=1:=by
   rcases Decidable.em (c / 6 % 2=1) with z|z
   .exact z
   .exact Zn (.inr z) c1
  have B:=Xu (i:=c / 12) (j:=(ps.length:Int)) ();have L:Qk (.int c) (.int 12)=some (.int (c / 12)):=YM () ();have S:=U5 (c / 12) (show(ps.length:Int)≠0 by lia);have T:=U6 (c / 12) (show(0:Int)<ps.length by lia);obtain⟨j,hj⟩:∃j:Nat,c / 12 % (ps.length:Int)=(j:Int):=⟨(c / 12 % (ps.length:Int)).toNat,()⟩;have C:j<ps.length:=()
  rw[hj] at B;have M:ps[j]? = some ps[j]:=Zqg C;have E:=Uv C;generalize ps[j]=q at *;have N:=Bf M;have O:=zB q;have P:=wl q;have U:=F q E;obtain⟨its,l,ok,t⟩:=Ly o (n:=q.givens.length) u v w y () (.lst (ps.map jo)) q.name (some (.val (.int c))) (some (.val (jo q)));refine⟨(Qh (JP ns 60) (20+k),q.name,its),m (f q.name q.givens.length (some (.val (jo q))) _ ?_ t),nm,.inr (.inr ⟨q,E,rfl,l⟩),λz=>?_,by show its.length<=10;lia,λp hp=>(ok p hp).1,λp hp=>(ok p hp).2⟩
  .have g:0<ps.length:=K;generalize ps.map jo=PD at *;generalize jo q=tq at *;simp[s,g,c2,L,B,N,O,P]
  .have z:its=[]:=z;rw[z] at l;have l:0=q.givens.length:=l;lia
def B5:FS:=(jj (qf 1 (qG jc)) (jj (jK (yB (J0 (jf ju (dC (.int 1)) (jf jF (J6 Q8 (J0 (jb 0) (J0 (dC (.int 0)) jc))) (dC (.int 3)))) jc)) (.one 2) (jj (jy 3 (jf ju (dC (.int 3)) (jf qD (dC (.int 24)) (jb 2)))) (jj (jy 4 (jf ju (dC (.int 1)) (jf jF (J6 Q8 (J0 (jb 0) (J0 (jf ju (dC (.int 1)) (jb 2)) jc))) (dC (.int 3))))) (jj (qf 5 (qG jc)) (jj (jK (yB (J0 (jf ju (dC (.int 1)) (jf jF (jf Qk (J6 Q8 (J0 (jb 0) (J0 (jf ju (dC (.int 1)) (jb 2)) jc))) (dC (.int 3))) (dC (.int 4)))) jc)) (.one 6) (QL 5 (Ba [1] (J6 XB (J0 (jb 0) (J0 (jf ju (jb 3) (jf qD (dC (.int 5)) (jb 6))) (J0 (jb 6) (J0 (jf ju (jb 4) (jb 6)) (J0 (jb 1) jc))))))))) (λsd=>(QL 1 (xh (J0 (J6 Kr (J0 (jb 0) (J0 (jb 2) jc))) (J0 (jb 4) (J0 (jb 5) jc))))) (jW [5] sd))))))) (Kb 1)))
def B6:YG->Res D:=qc 7 1 B5
def uQ:FS:=(QL 5 (Ba [1] (J6 XB (J0 (jb 0) (J0 (jf ju (jb 3) (jf qD (dC (.int 5)) (jb 6))) (J0 (jb 6) (J0 (jf ju (jb 4) (jb 6)) (J0 (jb 1) jc))))))))
def df {ns:Yh}(s:ns.length<=1000){ps:List Pl}(B:BkP ps){p a m n:Nat}(F:a<=500)(G:1<=m)(H:m<=4)(I:n<=8)(u6:Option SV):
 ∃(c:List Rw) (f:Option SV),c.length=n/\(∀(k:Nat) r,c[k]? = some r->RwP ps ((m:Int)+k) r)/\qE (.one 6) uQ (JV 0 n) [some (.val (.scr ns)),some (.own false (.lst (ps.map jo))),some (.val (.int p)),some (.val (.int a)),some (.val (.int m)),some (.own false (.lst [])),u6]=.ok (.next [some (.val (.scr ns)),some (.own false (.lst (ps.map jo))),some (.val (.int p)),some (.val (.int a)),some (.val (.int m)),some (.own false (.lst (c.map jM))),f]):=by
 obtain⟨sd',e,c,f,j,g,ok⟩:=Kc (tg:=.one 6) (b:=uQ) (ds:=JV 0 n) (sd:=[some (.val (.scr ns)),some (.own false (.lst (ps.map jo))),some (.val (.int p)),some (.val (.int a)),some (.val (.int m)),some (.own false (.lst [])),u6])
  (P:=λi sd=>∃(c:List Rw) (f:Option SV),sd=[some (.val (.scr ns)),some (.own false (.lst (ps.map jo))),some (.val (.int p)),some (.val (.int a)),some (.val (.int m)),some (.own false (.lst (c.map jM))),f]/\c.length=i/\∀(k:Nat) r,c[k]? = some r->RwP ps ((m:Int)+k) r) ⟨[],u6,rfl,rfl,λk r h=>nomatch h⟩ (by
   rintro i x sd t ⟨c,f,rfl,g,ok⟩;obtain⟨rfl,J⟩:=YN t;rw[Vs];obtain⟨r,l,R⟩:=gE s B.giv B.len (at_:=a+5*i) (k:=i) (things:=m+i) () () () ();have u:qD (.int 5) (.int (i:Int))=some (.int (5*(i:Int))):=WN (CJ () ());have v:((a+5*i:Nat):Int)=(a:Int)+5*(i:Int):=()
   have o:((m+i:Nat):Int)=(m:Int)+(i:Int):=()
   rw[v,o] at l;rw[o] at R;have w:=Qc (show c.length<=1000 from ());refine⟨[some (.val (.scr ns)),some (.own false (.lst (ps.map jo))),some (.val (.int p)),some (.val (.int a)),some (.val (.int m)),some (.own false (.lst ((c++[r]).map jM))),some (.val (.int i))],?_,_,_,rfl,by rw[Ub,g];rfl,λk A h=>?_⟩
   .rw[Uc,List.map_singleton];have C:Wt 8 (jM r)=true:=by
     show[D.str r.1,D.str r.2.1,jq r.2.2].all (Wt 7)=true;rw[UH,UH,UH,Ib,Ib];show((r.2.2.map qd).all (Wt 6)&&true)=true;rw[Bool.and_true,List.all_map,Vc];intro q _;rfl
    generalize ps.map jo=PD at *;unfold uQ;generalize jM r=rd at *;simp[u,l,w,C,Res.bare]
   .rcases Vf k c.length with z|z
    .rw[UO z] at h;exact ok k A h
    .rw[US z] at h;have E:k-c.length=0:=by
      rcases Vn (k-c.length) with y|y
      .exact y
      .rw[Vq (by rw[Us];lia)] at h;cases h
     rw[E] at h;cases h;rw[show k=i by lia];exact R)
 subst j;rw[V4] at g;exact⟨c,f,g,ok,e⟩
def uP:FS:=(jj (jy 3 (jf ju (dC (.int 3)) (jf qD (dC (.int 24)) (jb 2)))) (jj (jy 4 (jf ju (dC (.int 1)) (jf jF (J6 Q8 (J0 (jb 0) (J0 (jf ju (dC (.int 1)) (jb 2)) jc))) (dC (.int 3))))) (jj (qf 5 (qG jc)) (jj (jK (yB (J0 (jf ju (dC (.int 1)) (jf jF (jf Qk (J6 Q8 (J0 (jb 0) (J0 (jf ju (dC (.int 1)) (jb 2)) jc))) (dC (.int 3))) (dC (.int 4)))) jc)) (.one 6) uQ) (λsd=>(QL 1 (xh (J0 (J6 Kr (J0 (jb 0) (J0 (jb 2) jc))) (J0 (jb 4) (J0 (jb 5) jc))))) (jW [5] sd))))))
def gD {ns:Yh}(s:ns.length<=1000):∃ps:List Pl,B6 [.scr ns]=.ok (.lst (ps.map jo))/\BkP ps/\rh (JP ns 60) ps/\1<=ps.length/\ps.length<=3:=by
 have I:=WV ns (k:=0) () () s;obtain⟨n,en⟩:∃n:Nat,1+JP ns 0 % 3=(n:Int):=⟨(1+JP ns 0 % 3).toNat,()⟩;have U:1<=n/\n<=3:=()
 have J:KN [.int (n:Nat)]=.ok (JV 0 n):=by rw[Wo () ()];rfl
 obtain⟨sd',e,ps,v,w,t,o,u6,A,C,B,N⟩:=Kc (tg:=.one 2) (b:=uP) (ds:=JV 0 n) (sd:=[some (.val (.scr ns)),some (.own false (.lst [])),none,none,none,none,none])
  (P:=λi sd=>∃(ps:List Pl) (v w t o u6:Option SV),sd=[some (.val (.scr ns)),some (.own false (.lst (ps.map jo))),v,w,t,o,u6]/\ps.length=i/\BkP ps/\rh (JP ns 60) ps) ⟨[],none,none,none,none,none,rfl,rfl,sL,λk q h=>nomatch h⟩ (by
   rintro i x sd K ⟨ps,v,w,t,o,u6,rfl,C,B,N⟩;obtain⟨rfl,X⟩:=YN K;rw[Vs];have L:qD (.int 24) (.int (i:Int))=some (.int (24*(i:Int))):=WN (CJ () ());have l:=WV ns (k:=1+(i:Int)) () () s;generalize JP ns (1+(i:Int))=c at l;obtain⟨a,ea⟩:∃a:Nat,3+24*(i:Int)=(a:Int):=⟨3+24*i,()⟩;obtain⟨m,em⟩:∃m:Nat,1+c % 3=(m:Int):=⟨(1+c % 3).toNat,()⟩;obtain⟨q,eq⟩:∃q:Nat,1+c / 3 % 4=(q:Int):=⟨(1+c / 3 % 4).toNat,()⟩;have M:KN [.int (q:Nat)]=.ok (JV 0 q):=by rw[Wo () ()];rfl
   obtain⟨f,F,Y,ok,u⟩:=df s B (p:=i) (a:=a) (m:=m) (n:=q) () () () () u6;obtain⟨G,O⟩:=Bh s (k:=i) (x:=(i:Int)) rfl ();obtain⟨j,eg⟩:∃j,j=(List.range m).map λk=>Qh (JP ns 60) (10+k):=⟨_,rfl⟩;have E:j.length=m:=by rw[eg,Zql,ZC]
   have P:PlP ps ⟨Qh (JP ns 60) i,j,f⟩:=⟨by show 1<=j.length;lia,by show j.length<=4;lia,by show 1<=f.length;lia,by show f.length<=8;lia,λk r h=>by show RwP ps ((j.length:Int)+k) r;rw[E];exact ok k r h⟩;have Q:jo (Pl.mk (Qh (JP ns 60) i) j f)=.tup [.str (Qh (JP ns 60) i),.int (m:Nat),.lst (f.map jM)]:=by show D.tup [_,.int (j.length:Nat),_]=_;rw[E]
   have R:=Qc (show ps.length<=1000 from ());refine⟨[some (.val (.scr ns)),some (.own false (.lst ((ps++[(⟨Qh (JP ns 60) i,j,f⟩:Pl)]).map jo))),some (.val (.int i)),some (.val (.int a)),some (.val (.int m)),some (.val (.lst (f.map jM))),F],?_,_,_,_,_,_,_,rfl,by rw[Ub,C];rfl,B.snoc () P ⟨O,II () (by decide +kernel),II () (by decide +kernel)⟩ (λq S z=>?_),λk q h=>?_⟩
   .rw[Uc,List.map_singleton,Q,PK,jz];generalize Qh (JP ns 60) i=st at G;generalize f.map jM=rd at u;have lt:(ps.map jo).length<sizeLine:=by rw[Zql];exact R
    generalize ps.map jo=PD at u lt;unfold uP;refine yJ (sd':=[some (.val (.scr ns)),some (.own false (.lst PD)),some (.val (.int i)),some (.val (.int a)),t,o,u6]) (by simp[L,ea]) ?_;refine yJ (sd':=[some (.val (.scr ns)),some (.own false (.lst PD)),some (.val (.int i)),some (.val (.int a)),some (.val (.int m)),o,u6]) (by simp[l,em]) ?_;refine yJ (sd':=[some (.val (.scr ns)),some (.own false (.lst PD)),some (.val (.int i)),some (.val (.int a)),some (.val (.int m)),some (.own false (.lst [])),u6]) () ?_;generalize uQ=b at u;refine yJ (sd':=[some (.val (.scr ns)),some (.own false (.lst PD)),some (.val (.int i)),some (.val (.int a)),some (.val (.int m)),some (.own false (.lst rd)),F]) (by simp[l,eq,M,u]) ?_;simp[G,lt]
   .obtain⟨k,H⟩:=Jm.mp S;have Z:=(Jc.mp H).1;have z:q.name=Qh (JP ns 60) i:=z;rw[(N k q H).1] at z;have:=du () () z;lia
   .rcases Vf k ps.length with z|z
    .rw[UO z] at h;exact N k q h
    .rw[US z] at h;have T:k-ps.length=0:=by
      rcases Vn (k-ps.length) with y|y
      .exact y
      .rw[Vq (by rw[Us];lia)] at h;cases h
     rw[T] at h;cases h;rw[show k=i by lia];exact⟨rfl,by show j=(List.range j.length).map _;rw[E];exact eg⟩)
 subst A;rw[V4] at C;refine⟨ps,?_,B,N,(),()⟩;generalize ps.map jo=PD at e;have e:qE (.one 2) uP (JV 0 n) [some (.val (.scr ns)),some (.own false (.lst [])),none,none,none,none,none]=_:=e;have g:B5=jj (qf 1 (qG jc)) (jj (jK (yB (J0 (jf ju (dC (.int 1)) (jf jF (J6 Q8 (J0 (jb 0) (J0 (dC (.int 0)) jc))) (dC (.int 3)))) jc)) (.one 2) uP) (Kb 1)):=rfl;unfold B6;rw[g];generalize uP=b at e;simp[I,en,J,e]
def B7:FS:=(jj (jy 3 (dC (.int 1))) (jj (jK (iS (jb 0)) (.one 4) (jK (iS (jb 4)) (.one 5) (jy 3 (jt Wm (J0 (jb 3) (J0 (jf ju (jf j6 (jb 5) (dC (.int 1))) (dC (.int 1))) jc)))))) (jj (qf 6 (Qr [none,some 3] (yB (J0 (jb 2) jc)) (.one 0) (jb 1))) (jj (jK (iS (jb 1)) (.one 5) (KO 6 (jf j6 (jb 5) (dC (.int 0))) (jf j6 (jb 5) (dC (.int 1))))) (Kb 6)))))
def ZO:YG->Res D:=qc 7 3 B7
def DH {hs:Yh}{k v t:Int}(k0:0<=k)(k1:k<(hs.length:Int))(a:0<=t):j9 (hs.set k.toNat v) t=if t=k then v else j9 hs t:=by
 unfold j9;rw[Ut,Ut,List.getElem?_set];by_cases c:t=k
 .subst c;rw[Zd rfl,Zd (),Zd rfl];rfl
 .rw[Ze (),Ze c]
def dc {n:Nat}{x t:Int}(a:0<=t)(b:t<(n:Int)):j9 (List.replicate n x) t=x:=by
 unfold j9;rw[Ut,Vt,Zd ()];rfl
def tZ (a:Int)(n:Nat):jQ (.one 0) (jb 1) [none,some (.val (.int a))] (JV 0 n)=.ok ((List.replicate n a).map .int):=by
 rw[List.map_replicate];have m:=YO (tg:=.one 0) (f:=jb 1) (c:=[none,some (.val (.int a))]) (lo:=0) (n:=n) (g:=λ_=>.int a) λi b=>by simp
 rw[m]
 congr 1
 apply VO;intro i;rw[Zv,Vt];by_cases c:i<n
 .rw[List.getElem?_range c,Zd c];rfl
 .rw[Vq (by rw[ZC];lia),Ze c];rfl
structure Corn (r:Jy)(far:Int)(n:Nat)(hs:Yh):Prop where
 len:hs.length=n
 at_:∀p∈r,j9 hs p.1 = -p.2
 oth:∀t,0<=t->t<(n:Int)->(∀p∈r,p.1≠t)->j9 hs t=far
def Lz {f:Jz}{r s:Jy}{b:Int}{n:Nat}{hs:Yh}{W:Int}(T:Tf n W f)(i:r∈f)(a:s∈f)(C:Corn r b n hs)(j:∀s∈f,∀p∈s,-p.2<b)(h:∀p∈s,j9 hs p.1+p.2<=0):s=r:=by
 have R:=T.cn.rows r i;refine T.cn.anti s a r i (yQ.mpr λp hp=>?_);have c:=((T.cn.rows s a).bnd p hp).1;have g:=(T.th s a p hp).1;have m:=h p hp;cases e:JB r p.1 with
 |some w =>
  have:=C.at_ (p.1,w) (Qi e);have this:j9 hs p.1 = -w:=this;exact⟨w,rfl,()⟩
 |none =>
  exfalso;have:=C.oth p.1 c g λx l z=>by
   have:=R.once.look (t:=x.1) (w:=x.2) l;rw[z,e] at this;cases this
  have:=j s a p hp;lia
def dJ {f:Jz}{r:Jy}{a:Int}{n:Nat}{hs:Yh}{W:Int}(T:Tf n W f)(c:r∈f)(C:Corn r a n hs)(h:∀s∈f,∀p∈s,-p.2<a):J7 f hs=0:=by
 have R:=T.cn.rows r c;have i:Ql r hs<=0:=(X3 R.ne).mpr λp hp=>by rw[C.at_ p hp];lia
 have j:=KD (hs:=hs) c;obtain⟨s,b,e⟩:=KQ (hs:=hs) T.cn.ne;rcases Int.lt_or_le (J7 f hs) 0 with z|z
 .exfalso;have S:=T.cn.rows s b;have g:=(X3 (x:=-1) S.ne).mp (show Ql s hs <= -1 from ());have es:=Lz T c b C h λp hp=>by have:=g p hp;lia
  subst es;obtain⟨p,hp⟩:=List.exists_mem_of_ne_nil _ S.ne;have:=g p hp;rw[C.at_ p hp] at this;lia
 .omega
def dm {f:Jz}{r:Jy}{b:Int}{n:Nat}{hs:Yh}{W:Int}(T:Tf n W f)(g:r∈f)(C:Corn r b n hs)(l:∀s∈f,∀p∈s,-p.2<b){p:Int×Int}(hp:p∈r):J7 f (hs.set p.1.toNat (j9 hs p.1+1))=1:=by
 have R:=T.cn.rows r g;have i:=(R.bnd p hp).1;have o:=(T.th r g p hp).1;have u:=C.len;obtain⟨ks,ek⟩:∃ks,ks=hs.set p.1.toNat (j9 hs p.1+1):=⟨_,rfl⟩;have h:∀t,0<=t->j9 ks t=if t=p.1 then j9 hs p.1+1 else j9 hs t:=λt m=>by rw[ek];exact DH i () m
 rw[<- ek];have v:Ql r ks<=1:=(X3 R.ne).mpr λq a=>by
  rw[h q.1 (R.bnd q a).1]
  split
  .rename_i z;rw[Dv R.once a hp z,C.at_ p hp];lia
  .rw[C.at_ q a];lia
 have w:=KD (hs:=ks) g;obtain⟨s,c,e⟩:=KQ (hs:=ks) T.cn.ne;rcases Int.lt_or_le (J7 f ks) 1 with z|z
 .exfalso;have S:=T.cn.rows s c;have j:=(X3 (x:=0) S.ne).mp (show Ql s ks<=0 from ());have es:=Lz T g c C l λq a=>by
   have:=j q a;rw[h q.1 (S.bnd q a).1] at this
   split at this
   .rename_i y;rw[y];lia
   .exact this
  subst es;have:=j p hp;rw[h p.1 i,Zd rfl,C.at_ p hp] at this;lia
 .omega
def gA {bs:Jz}{r:Jy}{n:Nat}(N:n<=1000)(G:JRow r)(O:∀p∈r,p.1<(n:Int)):∃(a:Int) (hs:Yh),ZO [ji bs,jq (jN r),.int n]=.ok (.lst (hs.map .int))/\Corn r a n hs/\∀b∈bs,∀p∈b,p.2<a:=by
 obtain⟨q,eq⟩:∃q,q=jN r:=⟨_,rfl⟩;rw[<- eq];have Q:KN [.int (n:Nat)]=.ok (JV 0 n):=by rw[Wo () ()];rfl
 have u:∀(s:Jy) (x:Int) (j f:Option SV),∃(y:Int) (g:Option SV),qE (.one 5) (jy 3 (jt Wm (J0 (jb 3) (J0 (jf ju (jf j6 (jb 5) (dC (.int 1))) (dC (.int 1))) jc)))) (s.map qd) [some (.val (ji bs)),some (.val (jq q)),some (.val (.int n)),some (.val (.int x)),f,j,none]=.ok (.next [some (.val (ji bs)),some (.val (jq q)),some (.val (.int n)),some (.val (.int y)),f,g,none])/\x<=y/\∀p∈s,p.2<y:=λs x j f=>by
  obtain⟨sd',e,y,g,H,E,l⟩:=Kc (tg:=.one 5) (b:=jy 3 (jt Wm (J0 (jb 3) (J0 (jf ju (jf j6 (jb 5) (dC (.int 1))) (dC (.int 1))) jc)))) (ds:=s.map qd) (sd:=[some (.val (ji bs)),some (.val (jq q)),some (.val (.int n)),some (.val (.int x)),f,j,none])
   (P:=λi sd=>∃(y:Int) (g:Option SV),sd=[some (.val (ji bs)),some (.val (jq q)),some (.val (.int n)),some (.val (.int y)),f,g,none]/\x<=y/\∀p∈s.take i,p.2<y) ⟨x,j,rfl,U4 _,λp hp=>by simp at hp⟩ (by
    rintro i d sd o ⟨y,g,rfl,E,l⟩;obtain⟨p,hp,rfl⟩:=QF o;have tk:s.take (i+1)=s.take i++[p]:=by rw[Vr,hp];rfl
    refine⟨[some (.val (ji bs)),some (.val (jq q)),some (.val (.int n)),some (.val (.int (if p.2+1 > y then p.2+1 else y))),f,some (.val (qd p)),none],?_,(if p.2+1 > y then p.2+1 else y),_,rfl,by split<;>lia,λz hz=>?_⟩
    .generalize jq q=rd;generalize ji bs=fd;simp
    .rw[tk] at hz;rcases Jb.mp hz with c|c
     .have:=l z c
      split<;>lia
     .rw[Jd.mp c]
      split<;>lia)
  rw[Zql,UU] at l;subst H;exact⟨y,g,e,E,l⟩
 obtain⟨R,S,a,f,j,v,E,l⟩:=Kc (tg:=.one 4) (b:=jK (iS (jb 4)) (.one 5) (jy 3 (jt Wm (J0 (jb 3) (J0 (jf ju (jf j6 (jb 5) (dC (.int 1))) (dC (.int 1))) jc))))) (ds:=bs.map jq) (sd:=[some (.val (ji bs)),some (.val (jq q)),some (.val (.int n)),some (.val (.int 1)),none,none,none])
  (P:=λi sd=>∃(y:Int) (f j:Option SV),sd=[some (.val (ji bs)),some (.val (jq q)),some (.val (.int n)),some (.val (.int y)),f,j,none]/\1<=y/\∀s∈bs.take i,∀p∈s,p.2<y) ⟨1,none,none,rfl,U4 _,λp hp=>by simp at hp⟩ (by
   rintro i d sd o ⟨y,f,j,rfl,E,l⟩;obtain⟨s,hs,rfl⟩:=QF o;have tk:bs.take (i+1)=bs.take i++[s]:=by rw[Vr,hs];rfl
   obtain⟨z,g,e,g1,T⟩:=u s y j (some (.val (jq s)));have U:Kf (jq s)=some (s.map qd):=rfl;refine⟨[some (.val (ji bs)),some (.val (jq q)),some (.val (.int n)),some (.val (.int z)),some (.val (jq s)),g,none],?_,z,_,_,rfl,(),λw L p hp=>?_⟩
   .generalize jq s=sd at *;generalize jq q=rd at *;generalize ji bs=fd at *;simp[U,e]
   .rw[tk] at L;rcases Jb.mp L with c|c
    .have:=l w c p hp;lia
    .rw[Jd.mp c] at hp;exact T p hp)
 rw[Zql,UU] at l;subst v;have k0:jQ (.one 0) (jb 1) [none,some (.val (.int a))] (JV 0 n)=.ok ((List.replicate n a).map .int):=tZ a n;obtain⟨X,Y,hs,g,A,C,m⟩:=Kc (tg:=.one 5) (b:=KO 6 (jf j6 (jb 5) (dC (.int 0))) (jf j6 (jb 5) (dC (.int 1)))) (ds:=q.map qd) (sd:=[some (.val (ji bs)),some (.val (jq q)),some (.val (.int n)),some (.val (.int a)),f,j,some (.own false (.lst ((List.replicate n a).map .int)))])
  (P:=λi sd=>∃(hs:Yh) (g:Option SV),sd=[some (.val (ji bs)),some (.val (jq q)),some (.val (.int n)),some (.val (.int a)),f,g,some (.own false (.lst (hs.map .int)))]/\(hs.length=n/\∀t,0<=t->t<(n:Int)->(∀p∈r,p.1≠t)->j9 hs t=a)/\∀p∈r.take i,j9 hs p.1 = -p.2)
  ⟨_,j,rfl,⟨List.length_replicate,λt F I _=>dc F I⟩,λp hp=>by simp at hp⟩ (by
   rintro i d sd o ⟨hs,g,rfl,⟨Z,J⟩,m⟩;rw[eq] at o;unfold jN at o;rw[Zw] at o;obtain⟨p,hp,rfl⟩:=QF o;have B:=Uf hp;have tk:r.take (i+1)=r.take i++[p]:=by rw[Vr,hp];rfl
   have K:=(G.bnd p B).1;have b1:=O p B;have ix:xJ hs.length p.1=some p.1.toNat:=by
    unfold xJ;rw[Zd K,Zd ()]
   refine⟨[some (.val (ji bs)),some (.val (jq q)),some (.val (.int n)),some (.val (.int a)),f,some (.val (qd (p.1,-p.2))),some (.own false (.lst ((hs.set p.1.toNat (-p.2)).map .int)))],?_,_,_,rfl,⟨by rw[UG];exact Z,λt F I h=>?_⟩,λz hz=>?_⟩
   .rw[List.map_set];show((JO (.one 5) (qd (p.1,-p.2)) _).bind _)=_;generalize jq q=rd;generalize ji bs=fd;simp[ix]
   .rw[DH K () F,Ze λz=>h p B z.symm];exact J t F I h
   .rw[tk] at hz;have M:z∈r:=by
     rcases Jb.mp hz with y|y
     .exact List.mem_of_mem_take y
     .rw[Jd.mp y];exact B
    rw[DH K () (G.bnd z M).1];by_cases c:z.1=p.1
    .rw[Zd c,Dv G.once M B c]
    .rw[Ze c];rcases Jb.mp hz with y|y
     .exact m z y
     .rw[Jd.mp y] at c;exact Zn rfl c)
 have ql:q.length=r.length:=by rw[eq];unfold jN;rw[Zql]
 rw[Zql,ql,UU] at m;subst A;have wr:Kf (jq q)=some (q.map qd):=rfl;have wf:Kf (ji bs)=some (bs.map jq):=rfl;have z1:=Qc N;refine⟨a,hs,?_,⟨C.1,m,C.2⟩,l⟩;generalize (List.replicate n a).map D.int=rp at *;generalize jq q=rd at *;generalize ji bs=fd at *;simp[ZO,B7,wf,S,Q,k0,V4,z1,wr,Y]
def B8 (a:YG->Res D):FS:=(jj (qJ (JE (jt jS (J0 (jb 1) (J0 (dC (.ty "str")) jc)))) (j4 (Y0 (jt jS (J0 (jb 0) (J0 (dC (.ty "str")) jc))) (jf xK (jb 0) (jb 1)))) JT) (jj (qJ (JE (jt jS (J0 (jb 1) (J0 (dC (.ty "int")) jc)))) (j4 (Y0 (jt jS (J0 (jb 0) (J0 (dC (.ty "int")) jc))) (Y0 (Cs (jt jS (J0 (jb 0) (J0 (dC (.ty "bool")) jc)))) (jf xK (jb 0) (jb 1))))) JT) (jj (qJ (wE (JE (jf zj (jt jS (J0 (jb 1) (J0 (dC (.ty "list")) jc))) (jt jS (J0 (jb 0) (J0 (dC (.ty "list")) jc))))) (JE (jf zj (jt jS (J0 (jb 1) (J0 (dC (.ty "tuple")) jc))) (jt jS (J0 (jb 0) (J0 (dC (.ty "tuple")) jc)))))) (j4 (dC (.bl false))) JT) (jj (qJ (JE (jf zj (jt jP (J0 (jb 0) jc)) (jt jP (J0 (jb 1) jc)))) (j4 (dC (.bl false))) JT) (jj (jK (yB (J0 (jt jP (J0 (jb 1) jc)) jc)) (.one 2) (qJ (Ku (JE (J6 a (J0 (jf j6 (jb 0) (jb 2)) (J0 (jf j6 (jb 1) (jb 2)) jc))))) (j4 (dC (.bl false))) JT)) (j4 (dC (.bl true))))))))
def KR:Nat->YG->Res D
 | 0=>λ_=>.no
 |n+1=>jE 3 2 (B8 (KR n))
def cv (n:Nat)(i j:Int):KR (n+1) [.int i,.int j]=.ok (.bl (decide (i=j))):=by
 simp[KR,B8]
def ZP (a:YG->Res D):FS:=(j4 (jf j6 (J6 a (J0 (jb 0) (J0 (jb 1) (J0 (jb 2) jc)))) (qX xy (dC (.int 1)))))
def WZ (a:YG->Res D):FS:=(jj (qJ (JE (jf xK (jb 1) (dC (.str "all")))) (j4 (jt Y7 (J0 (jb 2) jc))) JT) (jj (qJ (JE (jf xK (jb 1) (dC (.str "first")))) (j4 (jt Y8 (J0 (jb 2) jc))) JT) (j4 (J6 a (J0 (jb 0) (J0 (jb 1) (J0 (jb 2) jc)))))))
def ZQ (a:YG->Res D):FS:=(jj (qf 3 (jt Qu (J0 (jb 2) jc))) (jj (jK (iS (qX (qW "Plan" "rows") (J6 ZF (J0 (jb 0) (J0 (jb 1) jc))))) (.tup [4,5,6]) (QL 3 (ye [3] (J6 a (J0 (jb 0) (J0 (jb 5) (J0 (Qr [none,none,some 3] (iS (jb 6)) (.tup [0,1]) (jf ju (jf j6 (jb 2) (jb 0)) (jb 1))) jc))))))) (λsd=>(j4 (jb 3)) (jW [3] sd))))
def Wc:Nat->YG->Res D
 | 0=>λ_=>.no
 |n+1=>jE 7 3 (ZQ (jE 3 3 (WZ (jE 3 3 (ZP (Wc n))))))
def QP (n:Nat):YG->Res D:=jE 3 3 (ZP (Wc n))
def Ks (n:Nat):YG->Res D:=jE 3 3 (WZ (QP n))
def L0 {n:Nat}{bk nm hs:D}{ys:Yh}{x:Int}(h:Wc n [bk,nm,hs]=.ok (.lst ((ys++[x]).map .int))):QP n [bk,nm,hs]=.ok (.int x):=by
 have l:=D1 (f:=D.int) ys x
 simp_all [QP,ZP]
def dS (n:Nat)(b:D){hs:Yh}(a:hs ≠ []):Ks n [b,.str "all",.lst (hs.map .int)]=.ok (.int (qC hs)):=by
 simp[Ks,WZ,IC,(P8 a)]
def cb (n:Nat)(b:D){hs:Yh}(a:hs ≠ []):Ks n [b,.str "first",.lst (hs.map .int)]=.ok (.int (xc hs)):=by
 simp[Ks,WZ,ID,IE,(P9 a)]
def ca {n:Nat}{b d:D}{how:Str}{z:D}(a:asc how)(c:how ≠ "all")(e:how ≠ "first")(h:QP n [b,.str how,d]=.ok z):Ks n [b,.str how,d]=.ok z:=by
 have f:=Ky a WT;have g:=Ky a WU
 simp_all [Ks,WZ]
theorem L1 {ps:List Pl}(B:BkP ps):∀(n i:Nat) (p:Pl) (hs:Yh),ps[i]? = some p->i<n->hs.length=p.givens.length->Wc n [JD ps,.str p.name,.lst (hs.map .int)]=.ok (.lst ((qR ps n p hs).map .int))
 | 0,i,p,hs,_,h,_=>()
 |n+1,i,p,hs,hp,hi,hl=>by
  have P:=B.ok i p hp;have G:=P.g2;have H:=P.r2;have I:=IZ (B.at hp).2.2.1 B.ascs (B.find hp);show jE 7 3 (ZQ (Ks n)) _=_;rw[D4];obtain⟨sd',e,u,v,w,o⟩:=Kc (tg:=.tup [4,5,6]) (b:=QL 3 (ye [3] (J6 (Ks n) (J0 (jb 0) (J0 (jb 5) (J0 (Qr [none,none,some 3] (iS (jb 6)) (.tup [0,1]) (jf ju (jf j6 (jb 2) (jb 0)) (jb 1))) jc)))))) (ds:=p.rows.map jM) (sd:=[some (.val (JD ps)),some (.val (.str p.name)),some (.val (.lst (hs.map .int))),some (.own false (.lst (hs.map .int))),none,none,none])
   (P:=λi sd=>∃u v w,sd=[some (.val (JD ps)),some (.val (.str p.name)),some (.val (.lst (hs.map .int))),some (.own false (.lst ((qg (x9 ps n) (p.rows.take i) hs).map .int))),u,v,w]) ⟨none,none,none,rfl⟩ (by
    rintro k x sd s ⟨u,v,w,rfl⟩;obtain⟨r,a,rfl⟩:=QF s;obtain⟨t,J,K⟩:=P.at (rc:=x9 ps n) hl a;have R:=P.row k r a;have y:=tX t;have A:=R.sh;have c:=sK (found:=qg (x9 ps n) (p.rows.take k) hs) R.ne;have C:=tP (qg (x9 ps n) (p.rows.take k) hs) r.2.2;have E:Ks n [JD ps,.str r.2.1,.lst ((xq (qg (x9 ps n) (p.rows.take k) hs) r.2.2).map .int)]=.ok (.int (xF (x9 ps n) (qg (x9 ps n) (p.rows.take k) hs) r)):=by
     unfold xF;rcases B.how hp a with z|z|⟨z0,g,l,j,q,z3,z4,z5,z6⟩
     .rw[z,Zd rfl];exact dS n _ c
     .rw[z,Ze (by decide +kernel),Zd rfl];exact cb n _ c
     .rw[Ze g,Ze l];refine ca z0 g l ?_;obtain⟨f,rfl⟩:∃f,n=f+1:=⟨n-1,()⟩;obtain⟨ys,F⟩:=B.part (n:=f) z4 (xq (qg (x9 ps (f+1)) (p.rows.take k) hs) r.2.2);have m:=L1 B (f+1) j q _ z4 () (C.trans z6);rw[F,<- z5] at m;exact L0 m
    have g:=Qc (show r.2.2.length<=1000 from ());have l:=Qc (show(qg (x9 ps n) (p.rows.take k) hs).length<=1000 by lia);rw[IF a,dE,jz];simp[y,E,g,l])
  simp_all [ZQ]
def B9:FS:=(jj (jK (iS (jb 2)) (.one 4) (jj (jy 5 (J6 ZO (J0 (jb 2) (J0 (jb 4) (J0 (jf j6 (jb 1) (dC (.int 1))) jc))))) (jj (qJ (Ku (JE (J6 (KR 6) (J0 (J6 (QP 4) (J0 (jb 0) (J0 (jf j6 (jb 1) (dC (.int 0))) (J0 (jt Qu (J0 (jb 5) jc)) jc)))) (J0 (jb 3) jc))))) (j4 (dC (.bl false))) JT) (jK (iS (jb 4)) (.one 6) (jj (qf 7 (jt Qu (J0 (jb 5) jc))) (jj (KO 7 (jf j6 (jb 6) (dC (.int 0))) (jf ju (KM 7 (jf j6 (jb 6) (dC (.int 0)))) (dC (.int 1)))) (qJ (JE (jf wb (ye [7] (J6 (QP 4) (J0 (jb 0) (J0 (jf j6 (jb 1) (dC (.int 0))) (J0 (jb 7) jc))))) (jb 3))) (j4 (dC (.bl false))) JT))))))) (j4 (dC (.bl true))))
def ZR:YG->Res D:=jE 8 4 B9
def g0 {p:Pl}{bk:D}{t' bs:Jz}{V d:Int}(T:Tf p.givens.length V t')(X:BxO t' bs)(L:p.givens.length<=4)(v:∀hs:Yh,hs.length=p.givens.length->QP 4 [bk,.str p.name,.lst (hs.map .int)]=.ok (.int (J7 t' hs+d))):ZR [bk,jo p,ji bs,.int d]=.ok (.bl true):=by
 have w:=zB p;have B:=wl p;generalize jo p=tp at *;obtain⟨sd',e,j,l,u6,u7,c⟩:=D5 (tg:=.one 4) (b:=(jj (jy 5 (J6 ZO (J0 (jb 2) (J0 (jb 4) (J0 (jf j6 (jb 1) (dC (.int 1))) jc))))) (jj (qJ (Ku (JE (J6 (KR 6) (J0 (J6 (QP 4) (J0 (jb 0) (J0 (jf j6 (jb 1) (dC (.int 0))) (J0 (jt Qu (J0 (jb 5) jc)) jc)))) (J0 (jb 3) jc))))) (j4 (dC (.bl false))) JT) (jK (iS (jb 4)) (.one 6) (jj (qf 7 (jt Qu (J0 (jb 5) jc))) (jj (KO 7 (jf j6 (jb 6) (dC (.int 0))) (jf ju (KM 7 (jf j6 (jb 6) (dC (.int 0)))) (dC (.int 1)))) (qJ (JE (jf wb (ye [7] (J6 (QP 4) (J0 (jb 0) (J0 (jf j6 (jb 1) (dC (.int 0))) (J0 (jb 7) jc))))) (jb 3))) (j4 (dC (.bl false))) JT))))))) (ds:=bs.map jq)
  (sd:=[some (.val bk),some (.val tp),some (.val (ji bs)),some (.val (.int d)),none,none,none,none])
  (λsd=>∃j l u6 u7,sd=[some (.val bk),some (.val tp),some (.val (ji bs)),some (.val (.int d)),j,l,u6,u7]) ⟨none,none,none,none,rfl⟩ (by
   rintro k x sd g ⟨j,l,u6,u7,rfl⟩;obtain⟨b,m,rfl⟩:=QF g;obtain⟨r,h,rfl⟩:=(X.mem b).mp (Uf m);have R:=T.cn.rows r h;obtain⟨o,hs,E,C,t⟩:=gA (bs:=bs) (n:=p.givens.length) () R λq f=>(T.th r h q f).1;have y:∀s∈t',∀q∈s,-q.2<o:=λs hs q f=>t (jN s) ((X.mem _).mpr ⟨s,hs,rfl⟩) (q.1,-q.2) (Ja.mpr ⟨q,f,rfl⟩);have F:=dJ T h C y;have z:=v hs C.len;rw[F,Vs] at z;have G:=cv 5 d d;have H:=C.len;obtain⟨sd',e,u6,u7,c⟩:=D5 (tg:=.one 6) (b:=(jj (qf 7 (jt Qu (J0 (jb 5) jc))) (jj (KO 7 (jf j6 (jb 6) (dC (.int 0))) (jf ju (KM 7 (jf j6 (jb 6) (dC (.int 0)))) (dC (.int 1)))) (qJ (JE (jf wb (ye [7] (J6 (QP 4) (J0 (jb 0) (J0 (jf j6 (jb 1) (dC (.int 0))) (J0 (jb 7) jc))))) (jb 3))) (j4 (dC (.bl false))) JT)))) (ds:=(jN r).map qd)
    (sd:=[some (.val bk),some (.val tp),some (.val (ji bs)),some (.val (.int d)),some (.val (jq (jN r))),some (.val (.lst (hs.map .int))),u6,u7])
    (λsd=>∃u6 u7,sd=[some (.val bk),some (.val tp),some (.val (ji bs)),some (.val (.int d)),some (.val (jq (jN r))),some (.val (.lst (hs.map .int))),u6,u7]) ⟨u6,u7,rfl⟩ (by
     rintro k x sd g ⟨u6,u7,rfl⟩;unfold jN at g;rw[Zw] at g;obtain⟨q,u,rfl⟩:=QF g;have f:=Uf u;have c1:=dm T h C y f;have A:=(R.bnd q f).1;have M:=(T.th r h q f).1;have i:=v (hs.set q.1.toNat (j9 hs q.1+1)) (by rw[UG];exact H);rw[c1,List.map_set] at i;have ix:xJ hs.length q.1=some q.1.toNat:=by
      unfold xJ;rw[Zd A,Zd ()]
     have a:=Dt (hs:=hs) A ();have I:¬ 1+d<=d:=()
     refine⟨_,?_,some (.val (qd (q.1,-q.2))),some (.own false (.lst ((hs.map .int).set q.1.toNat (.int (j9 hs q.1+1))))),rfl⟩;show((JO (.one 6) (qd (q.1,-q.2)) _).bind _)=_;generalize jq (jN r)=rd;generalize ji bs=fd;simp[a,ix,w,i,I,Res.bare])
   subst c;have J:Kf (jq (jN r))=some ((jN r).map qd):=rfl;refine⟨[some (.val bk),some (.val tp),some (.val (ji bs)),some (.val (.int d)),some (.val (jq (jN r))),some (.val (.lst (hs.map .int))),u6,u7],?_,_,_,_,_,rfl⟩;generalize jq (jN r)=rd at *;generalize ji bs=fd at *;simp[w,B,E,z,G,J,e])
 subst c;have K:Kf (ji bs)=some (bs.map jq):=rfl;generalize ji bs=fd at *;simp[ZR,B9,K,e]
def XC:FS:=(jj (jy 1 (J6 B6 (J0 (jb 0) jc))) (jj (jy 2 (J6 Bj (J0 (jb 0) (J0 (jb 1) jc)))) (jj (jy 3 (Qr [none,some 0] (yB (J0 (jt jP (J0 (jb 1) jc)) jc)) (.one 0) (J6 Wb (J0 (J6 Q8 (J0 (jb 1) (J0 (jf ju (dC (.int 55)) (jb 0)) jc))) jc)))) (jj (jy 4 (Qr [none,some 1,some 2,some 3] (yB (J0 (jt jP (J0 (jb 1) jc)) jc)) (.one 0) (J6 KE (J0 (jb 2) (J0 (jf j6 (jf j6 (jb 1) (jb 0)) (dC (.int 0))) (J0 (jf j6 (jb 3) (jb 0)) jc)))))) (jj (jK (yB (J0 (jt jP (J0 (jb 1) jc)) jc)) (.one 5) (qJ (Xl (JE (qX (yc true) (jf j6 (jb 4) (jb 5)))) (Ku (JE (J6 ZR (J0 (jb 2) (J0 (jf j6 (jb 1) (jb 5)) (J0 (jf j6 (jb 4) (jb 5)) (J0 (jf j6 (jb 3) (jb 5)) jc)))))))) (j4 (dC (.bl false))) JT)) (jj (jy 6 (dC (.int 0))) (jj (jK (iS (jf ju (qG (J0 (dC (.int 0)) jc)) (jt Qu (J0 (jb 0) jc)))) (.one 7) (jj (jy 5 (jf jF (jb 6) (jt jP (J0 (jb 1) jc)))) (jj (qJ (JE (qX (yc true) (jf j6 (jb 4) (jb 5)))) (jj (jy 8 (J6 ZM (J0 (J6 ZJ (J0 (jb 0) (J0 (jb 7) (J0 (jb 6) (J0 (jf j6 (jf j6 (jb 1) (jb 5)) (dC (.int 1))) jc))))) (J0 (jf j6 (jb 4) (jb 5)) (J0 (jb 7) jc))))) (qJ (JE (jf zj (jf wb (J6 (QP 4) (J0 (jb 2) (J0 (jf j6 (jf j6 (jb 1) (jb 5)) (dC (.int 0))) (J0 (jt Qu (J0 (jb 8) jc)) jc)))) (jf j6 (jb 3) (jb 5))) (J6 ZL (J0 (jf j6 (jb 4) (jb 5)) (J0 (jb 8) jc))))) (j4 (dC (.bl false))) JT)) JT) (jy 6 (jf ju (jb 6) (dC (.int 1))))))) (j4 (dC (.bl true))))))))))
def vf:YG->Res D:=jE 9 1 XC
def bO (ps:List Pl)(p:Pl)(d:Int)(x:D):Prop:=x=.non\/∃t bs V,x=ji bs/\Tf p.givens.length V t/\BxO t bs/\∀hs:Yh,hs.length=p.givens.length->QP 4 [JD ps,.str p.name,.lst (hs.map .int)]=.ok (.int (J7 t hs+d))
def dy {ps:List Pl}(B:BkP ps){j:Nat}{p:Pl}(a:ps[j]? = some p)(d:Int):∃x,KE [JD ps,.str p.name,.int d]=.ok x/\bO ps p d x:=by
 have b:=(B.at a).2.1;rcases dz B a with z|⟨t,z1,z2,z3⟩
 .exact⟨.non,cu d z,.inl rfl⟩
 .rcases dM d z1 z2 with y|⟨t',bs,V,y1,y2,y3,y4⟩
  .exact⟨.non,y,.inl rfl⟩
  .refine⟨_,y1,.inr ⟨t',bs,V,rfl,y2,y4,λhs h=>?_⟩⟩;have e:=L1 B 4 j p hs a b h;obtain⟨ys,c⟩:=B.part (n:=3) a hs;rw[c] at e;have e:=L0 e;rw[B.rc a b,<- z3 hs h] at e;rw[e,y3]
   congr 2
   lia
def dh {t bs:Jz}{n:Nat}{V:Int}(T:Tf n V t)(X:BxO t bs)(hs:Yh):(bs.any λb=>xu b hs)=decide (J7 t hs<=0):=by
 have one:∀q∈t,xu (jN q) hs=true↔Ql q hs<=0:=λq a=>by
  rw[X3 (T.cn.rows q a).ne];unfold xu;rw[Vc];constructor
  .intro h p hp;have:=of_decide_eq_true (h (p.1,-p.2) (Ja.mpr ⟨p,hp,rfl⟩));have this:j9 hs p.1 <= -p.2:=this;lia
  .intro h p hp;obtain⟨y,f,rfl⟩:=Ja.mp hp;have:=h y f;exact Zp (by show j9 hs y.1 <= -y.2;lia)
 by_cases c:J7 t hs<=0
 .rw[Zp c,VB];obtain⟨q,a,e⟩:=KQ (hs:=hs) T.cn.ne;exact⟨jN q,(X.mem _).mpr ⟨q,a,rfl⟩,(one q a).mpr ()⟩
 .rw[Zo c,VE];intro b g i;obtain⟨q,a,rfl⟩:=(X.mem b).mp g;have:=(one q a).mp i;have:=KD (hs:=hs) a;lia
def c1:FS:=(qJ (Xl (JE (qX (yc true) (jf j6 (jb 4) (jb 5)))) (Ku (JE (J6 ZR (J0 (jb 2) (J0 (jf j6 (jb 1) (jb 5)) (J0 (jf j6 (jb 4) (jb 5)) (J0 (jf j6 (jb 3) (jb 5)) jc)))))))) (j4 (dC (.bl false))) JT)
def c2:FS:=(jj (jy 5 (jf jF (jb 6) (jt jP (J0 (jb 1) jc)))) (jj (qJ (JE (qX (yc true) (jf j6 (jb 4) (jb 5)))) (jj (jy 8 (J6 ZM (J0 (J6 ZJ (J0 (jb 0) (J0 (jb 7) (J0 (jb 6) (J0 (jf j6 (jf j6 (jb 1) (jb 5)) (dC (.int 1))) jc))))) (J0 (jf j6 (jb 4) (jb 5)) (J0 (jb 7) jc))))) (qJ (JE (jf zj (jf wb (J6 (QP 4) (J0 (jb 2) (J0 (jf j6 (jf j6 (jb 1) (jb 5)) (dC (.int 0))) (J0 (jt Qu (J0 (jb 8) jc)) jc)))) (jf j6 (jb 3) (jb 5))) (J6 ZL (J0 (jf j6 (jb 4) (jb 5)) (J0 (jb 8) jc))))) (j4 (dC (.bl false))) JT)) JT) (jy 6 (jf ju (jb 6) (dC (.int 1))))))
section
variable {ns:Yh}{ps:List Pl}{ds:Yh}{xs:YG}
structure Par (ps:List Pl)(ds:Yh)(xs:YG):Prop where
 ld:ds.length=ps.length
 lx:xs.length=ps.length
 ok:∀(i:Nat) p,ps[i]? = some p->∃d x,ds[i]? = some d/\xs[i]? = some x/\bO ps p d x
def L4 (R:Par ps ds xs){i:Nat}{p:Pl}(hp:ps[i]? = some p):∃d x,bO ps p d x/\qh (ds.map D.int) (i:Int)=some (.int d)/\qh xs (i:Int)=some x:=by
 obtain⟨d,x,b,c,e⟩:=R.ok i p hp;have a:=(Jc.mp hp).1;refine⟨d,x,e,?_,?_⟩
 .rw[Wu (by rw[Zql,R.ld];exact a),Zv,b];rfl
 .rw[Wu (by rw[R.lx];exact a),c]
def fA (B:BkP ps)(R:Par ps ds xs){i:Nat}(g:i<ps.length)(a b c e:Option SV):c1 [a,some (.val (.lst (ps.map jo))),some (.val (JD ps)),some (.val (.lst (ds.map .int))),some (.val (.lst xs)),some (.val (.int i)),b,c,e]=.ok (.next [a,some (.val (.lst (ps.map jo))),some (.val (JD ps)),some (.val (.lst (ds.map .int))),some (.val (.lst xs)),some (.val (.int i)),b,c,e]):=by
 have hp:ps[i]? = some ps[i]:=Zqg g;generalize ps[i]=p at hp;have P:=B.ok i p hp;obtain⟨d,x,h,j,f⟩:=L4 R hp;have l:=Bf hp;rcases h with rfl|⟨t,bs,V,rfl,T,X,fh⟩
 .generalize ds.map D.int=dd at *;generalize ps.map jo=PD at *;generalize JD ps=bk;unfold c1;simp[f,yc,CD]
 .have tg:=g0 (bk:=JD ps) T X P.g2 fh;have m:yc true (ji bs)=some (.bl true):=rfl;generalize ji bs=bd at *;generalize ds.map D.int=dd at *;generalize ps.map jo=PD at *;generalize jo p=tp at *;generalize JD ps=bk at *;unfold c1;simp[j,f,m,l,tg]
def f9 (H:ns.length<=1000)(B:BkP ps)(lp:1<=ps.length)(R:Par ps ds xs){t:Nat}(ht:t<=100)(a:Int)(I u8:Option SV):∃K L,c2 [some (.val (.scr ns)),some (.val (.lst (ps.map jo))),some (.val (JD ps)),some (.val (.lst (ds.map .int))),some (.val (.lst xs)),I,some (.val (.int t)),some (.val (.int a)),u8]=.ok (.next [some (.val (.scr ns)),some (.val (.lst (ps.map jo))),some (.val (JD ps)),some (.val (.lst (ds.map .int))),some (.val (.lst xs)),K,some (.val (.int ((t:Int)+1))),some (.val (.int a)),L]):=by
 have u:jP [.lst (ps.map jo)]=some (.int (ps.length:Nat)):=by rw[CK,Zql]
 have g:=Xu (i:=(t:Int)) (j:=(ps.length:Int)) ();have m0:=U5 (t:Int) (show(ps.length:Int)≠0 by lia);have m1:=U6 (t:Int) (show(0:Int)<ps.length by lia);obtain⟨i,ei⟩:∃i:Nat,(t:Int) % (ps.length:Int)=(i:Int):=⟨((t:Int) % (ps.length:Int)).toNat,()⟩;rw[ei] at g;have M:i<ps.length:=()
 have hp:ps[i]? = some ps[i]:=Zqg M;generalize ps[i]=p at hp;have P:=B.ok i p hp;have g2:=P.g2;obtain⟨d,x,N,O,v⟩:=L4 R hp;have Q:=Bf hp;have S:=zB p;have U:=wl p;rcases N with rfl|⟨f,bs,V,rfl,T,X,fh⟩
 .refine⟨some (.val (.int i)),u8,?_⟩;generalize ds.map D.int=dd at *;generalize ps.map jo=PD at *;generalize JD ps=bk;unfold c2;simp[u,g,v,yc,CD]
 .obtain⟨c,h,l⟩:=gB H a (at_:=t) (many:=p.givens.length) () ();have A:∀b∈bs,b.length<=1000/\∀q∈b,0<=q.1/\q.1<(p.givens.length:Int):=λb e=>by
   obtain⟨r,C,rfl⟩:=(X.mem b).mp e;have J:=T.cn.rows r C;refine⟨by unfold jN;rw[Zql];have:=J.len;lia,λq Y=>?_⟩;obtain⟨y,E,rfl⟩:=Ja.mp Y;exact⟨(J.bnd y E).1,(T.th r C y E).1⟩
  have m:bs ≠ []:=λz=>by
   have:=X.len;rw[z] at this;exact T.cn.ne (Jo.mp this.symm)
  obtain⟨hs,Z,F⟩:=gz (bs:=bs) (hs:=c) (n:=p.givens.length) a m (λb e=>(A b e).2) h;have G:=gy (bs:=bs) (hs:=hs) (λb e=>by rw[F];exact A b e);rw[dh T X hs] at G;have th:=fh hs F;have nn:yc true (ji bs)=some (.bl true):=rfl;have o:wb (.int (J7 f hs+d)) (.int d)=some (.bl (decide (J7 f hs<=0))):=by
   show some (D.bl (decide (J7 f hs+d<=d)))=_
   congr 2
   rw[decide_eq_decide];lia
  have s:∀b:Bool,zj (.bl b) (.bl b)=some (.bl false):=λb=>by cases b<;>rfl
  refine⟨some (.val (.int i)),some (.val (.lst (hs.map .int))),?_⟩;generalize decide (J7 f hs<=0)=z at *;generalize J7 f hs+d=w at *;have s:=s z;generalize ji bs=bd at *;generalize ds.map D.int=dd at *;generalize ps.map jo=PD at *;generalize jo p=tp at *;generalize JD ps=bk at *;generalize hs.map D.int=hd at *;generalize c.map D.int=hd0 at *;have gL:Qu [.lst hd]=some (.lst hd):=rfl;unfold c2;refine yJ (sd':=[some (.val (.scr ns)),some (.val (.lst PD)),some (.val bk),some (.val (.lst dd)),some (.val (.lst xs)),some (.val (.int i)),some (.val (.int t)),some (.val (.int a)),u8]) (by simp[u,g]) ?_;simp only[P5] at *;simp[v,nn,Q,S,U,l,Z,th,O,o,G,s]
end
def zG (ns:Yh)(h:ns.length<=63):vf [.scr ns]=.ok (.bl true):=by
 have q:ns.length<=1000:=()
 obtain⟨ps,E,B,N,F,l3⟩:=gD q;have H:=gC q B N;have z:=Qc (show ps.length<=1000 from ());have s:jP [.lst (ps.map jo)]=some (.int (ps.length:Nat)):=by rw[CK,Zql]
 have u:KN [.int (ps.length:Nat)]=.ok (JV 0 ps.length):=by rw[Wo () ()];rfl
 obtain⟨ds,eds⟩:∃ds,ds=(List.range ps.length).map λk:Nat=>xZ (JP ns (55+(k:Int))):=⟨_,rfl⟩;have v:jQ (.one 0) (J6 Wb (J0 (J6 Q8 (J0 (jb 1) (J0 (jf ju (dC (.int 55)) (jb 0)) jc))) jc)) [none,some (.val (.scr ns))] (JV 0 ps.length)=.ok (ds.map .int):=by
  rw[eds,Zw];exact YO λk hk=>by
   have I:=WV ns (k:=55+(k:Int)) () () q;have A:=dw ns (k:=55+(k:Int)) () ();have J:=Lx A.1 A.2;simp[I,J]
 have ld:ds.length=ps.length:=by rw[eds,Zql,ZC]
 have j:∀i,i<ps.length->ds[i]? = some (xZ (JP ns (55+(i:Int)))):=λi a=>by rw[eds,Zv,List.getElem?_range a];rfl
 have K:Inhabited D:=⟨.non⟩;obtain⟨G,w⟩:=TU (α:= D) (n:=ps.length) (P:=λi x=>∀p,ps[i]? = some p->KE [JD ps,.str p.name,.int (xZ (JP ns (55+(i:Int))))]=.ok x/\bO ps p (xZ (JP ns (55+(i:Int)))) x) λi a=>by
  obtain⟨x,L,M⟩:=dy B (Zqg a) (xZ (JP ns (55+(i:Int))));exact⟨x,λp hp=>by
   rw[Zqg a] at hp;cases hp;exact⟨L,M⟩⟩
 obtain⟨f,exs⟩:∃f,f=(List.range ps.length).map G:=⟨_,rfl⟩;have y:jQ (.one 0) (J6 KE (J0 (jb 2) (J0 (jf j6 (jf j6 (jb 1) (jb 0)) (dC (.int 0))) (J0 (jf j6 (jb 3) (jb 0)) jc)))) [none,some (.val (.lst (ps.map jo))),some (.val (JD ps)),some (.val (.lst (ds.map .int)))] (JV 0 ps.length)=.ok f:=by
  rw[exs];exact YO λi a=>by
   have hp:ps[i]? = some ps[i]:=Zqg a;generalize ps[i]=p at hp;have O:=Bf hp;have Q:=zB p;have S:=(w i a p hp).1;have T:qh (ds.map D.int) (i:Int)=some (.int (xZ (JP ns (55+(i:Int))))):=by
    rw[Wu (by rw[Zql,ld];exact a),Zv,j i a];rfl
   generalize xZ (JP ns (55+(i:Int)))=d at *;generalize ds.map D.int=dd at *;generalize ps.map jo=PD at *;generalize jo p=tp at *;generalize JD ps=bk at *;simp[O,Q,T,S]
 have R:Par ps ds f:=⟨ld,by rw[exs,Zql,ZC],λi p hp=>by
  have a:=(Jc.mp hp).1;exact⟨_,G i,j i a,by rw[exs,Zv,List.getElem?_range a];rfl,(w i a p hp).2⟩⟩
 have U:ju (.lst [.int 0]) (.lst (ns.map .int))=some (.lst ((0::ns).map .int)):=by
  show(if 1+(ns.map D.int).length<=sizeLine then _ else _)=_;rw[Zql,Zd (QK ())];rfl
 clear eds exs j w;have l:XC [some (.val (.scr ns)),none,none,none,none,none,none,none,none]=.ok (.ret (.bl true)):=by
  unfold XC;refine yJ (sd':=[some (.val (.scr ns)),some (.val (.lst (ps.map jo))),none,none,none,none,none,none,none]) (by
   generalize ps.map jo=PD at *;simp[E]) ?_
  refine yJ (sd':=[some (.val (.scr ns)),some (.val (.lst (ps.map jo))),some (.val (JD ps)),none,none,none,none,none,none]) (by
   generalize ps.map jo=PD at *;generalize JD ps=bk at *;simp[H]) ?_
  refine yJ (sd':=[some (.val (.scr ns)),some (.val (.lst (ps.map jo))),some (.val (JD ps)),some (.val (.lst (ds.map .int))),none,none,none,none,none]) (by
   generalize ds.map D.int=dd at *;generalize ps.map jo=PD at *;generalize JD ps=bk at *;simp[s,u,V4,z,v]) ?_
  refine yJ (sd':=[some (.val (.scr ns)),some (.val (.lst (ps.map jo))),some (.val (JD ps)),some (.val (.lst (ds.map .int))),some (.val (.lst f)),none,none,none,none]) (by
   generalize ds.map D.int=dd at *;generalize ps.map jo=PD at *;generalize JD ps=bk at *;simp[s,u,V4,z,y]) ?_
  obtain⟨X,C,g,m⟩:=D5 (tg:=.one 5) (b:=c1) (ds:=JV 0 ps.length) (sd:=[some (.val (.scr ns)),some (.val (.lst (ps.map jo))),some (.val (JD ps)),some (.val (.lst (ds.map .int))),some (.val (.lst f)),none,none,none,none])
   (λsd=>∃g,sd=[some (.val (.scr ns)),some (.val (.lst (ps.map jo))),some (.val (JD ps)),some (.val (.lst (ds.map .int))),some (.val (.lst f)),g,none,none,none]) ⟨none,rfl⟩ (by
    rintro i x sd r ⟨g,rfl⟩;obtain⟨rfl,a⟩:=YN r;rw[Vs];exact⟨_,fA B R a _ _ _ _,_,rfl⟩)
  subst m;refine yJ (sd':=[some (.val (.scr ns)),some (.val (.lst (ps.map jo))),some (.val (JD ps)),some (.val (.lst (ds.map .int))),some (.val (.lst f)),g,none,none,none]) ?_ ?_
  .show jK _ (.one 5) c1 _=_;generalize c1=b at C;generalize ds.map D.int=dd at *;generalize ps.map jo=PD at *;generalize JD ps=bk at *;simp[s,u,C]
  refine yJ (sd':=[some (.val (.scr ns)),some (.val (.lst (ps.map jo))),some (.val (JD ps)),some (.val (.lst (ds.map .int))),some (.val (.lst f)),g,some (.val (.int 0)),none,none]) () ?_;obtain⟨Y,Z,v5,v7,v8,o⟩:=Kc (tg:=.one 7) (b:=c2) (ds:=(0::ns).map .int) (sd:=[some (.val (.scr ns)),some (.val (.lst (ps.map jo))),some (.val (JD ps)),some (.val (.lst (ds.map .int))),some (.val (.lst f)),g,some (.val (.int 0)),none,none])
   (P:=λi sd=>∃g u7 u8,sd=[some (.val (.scr ns)),some (.val (.lst (ps.map jo))),some (.val (JD ps)),some (.val (.lst (ds.map .int))),some (.val (.lst f)),g,some (.val (.int (i:Int))),u7,u8]) ⟨g,none,none,rfl⟩ (by
    rintro i x sd r ⟨g,u7,u8,rfl⟩;have il:=(Jc.mp r).1;rw[Zql,Zu] at il;obtain⟨c,_,rfl⟩:=QF r;obtain⟨v5,v8,e⟩:=f9 q B F R (t:=i) () c g u8;exact⟨_,e,_,_,_,rfl⟩)
  subst o;refine yJ (sd':=_) (Eq.trans ?_ Z) ?_
  .show jK _ (.one 7) c2 _=_;have gL:Qu [.scr ns]=some (.lst (ns.map .int)):=rfl;generalize c2=b;generalize ds.map D.int=dd at *;generalize ps.map jo=PD at *;generalize JD ps=bk at *;generalize (0::ns).map D.int=cs at *;simp[gL,U]
  .simp
 unfold vf;rw[AB 9 1 _ [.scr ns] rfl];show(XC [some (.val (.scr ns)),none,none,none,none,none,none,none,none]).bind xt=_;rw[l];rfl
end My
set_option maxHeartbeats 4000000
namespace My
open PySem L2 L2.DL
def wm (i:Nat):Stmt:=PySem.Challenge.pw_allfirst_k66_whole_deadlines_by_runs.main.body.getD i (.Pass ⟨0,0,0,0⟩)
abbrev tbl:List (Str×Nat):=List.zip (List.map Str.ofString ["_law_cell", "_law_name", "_law_book", "fits_in", "is_covered", "joined", "each_joined", "lowest", "form_within", "all_of", "opposite", "opposites", "shifted", "waited", "latest", "first_of", "put_into_row", "put_into", "made_form", "plan_by", "thing_form", "forms_knowing", "forms_of", "told_form", "_law_boxes", "_law_number", "_law_hours", "keeps_latest", "_law_kept", "_law_near", "_law_wait", "_law_made", "_law_plans", "_law_corner", "_law_same", "told_hour", "made_hour", "hours_of", "_law_tight"]) [40,42,46,5,9,6,17,8,18,14,20,21,7,12,23,13,16,15,33,28,11,32,30,31,48,41,47,24,52,51,43,44,45,49,39,36,37,35,50]
abbrev bl:Yk:=List.map Str.ofString ["all", "bool", "dict", "int", "isinstance", "len", "list", "max", "min", "range", "set", "sorted", "str", "tuple", "zip"]
structure All (e:Ev):Prop extends Al e wm tbl bl where
 x_TooMany:Exc e.K e.mg "TooMany" (e.C 0)
 k_Book:ClsD e.K e.mg "Book" (e.C 1) ["plans"]
 l_Book:∃f fd,Mk e.K (e.C 1) f/\Fun e.K "__init__" "Book.__init__" (Aa (wm 27) 0) f fd
 k_Plan:ClsD e.K e.mg "Plan" (e.C 2) ["name", "givens", "rows"]
 l_Plan:∃f fd,Mk e.K (e.C 2) f/\Fun e.K "__init__" "Plan.__init__" (Aa (wm 26) 0) f fd
section
variable {e:Ev}{k j:Nat}
def t8 (a:All e):rj e.P e.w e.K e.mg e.base "Book" ["plans"] 1 ["self", "plans"] D6:=by
 obtain⟨f,h,c,b⟩:=a.l_Book;have m:=a.m;have k:=a.k_Book;exact⟨_,_,_,k,c,gq (k:=0) (N:=["plans"]) (g:=(J0 (jt Qu (J0 (jb 1) jc)) jc)) b (JM (N:=["self", "plans"])) (by decide) (by decide) λ_ _ _ _ _ _ i=>(AS k (by decide) (pv 0) (j3 (K6 (x:= "list") V3 rfl (JA m) K4 (J1 (qv 1) J2))) HF),b.binds λ_ _ _ _ _ _=>bX λ_ _=>rfl⟩
def t5 (a:All e):rj e.P e.w e.K e.mg e.base "Plan" ["name", "givens", "rows"] 1 ["self", "name", "givens", "rows"] Bg:=by
 obtain⟨f,h,c,b⟩:=a.l_Plan;have m:=a.m;have k:=a.k_Plan;exact⟨_,_,_,k,c,gq (k:=0) (N:=["name", "givens", "rows"]) (g:=(J0 (jb 1) (J0 (jt Qu (J0 (jb 2) jc)) (J0 (jt Qu (J0 (jb 3) jc)) jc)))) b (JM (N:=["self", "name", "givens", "rows"])) (by decide) (by decide) λ_ _ _ _ _ _ i=>(AS k (by decide) (pv 0) (qv 1) (AS k (by decide) (pv 0) (j3 (K6 (x:= "list") V3 rfl (JA m) K4 (J1 (qv 2) J2))) (AS k (by decide) (pv 0) (j3 (K6 (x:= "list") V3 rfl (JA m) K4 (J1 (qv 3) J2))) HF))),b.binds λ_ _ _ _ _ _=>bW λ_ _ _ _=>rfl⟩
def ZS (a:All e):Ca e "_law_cell" 1 ["script", "k"] (qH e.K Q8):=
 qU a.toAl 0 40 λF=>qy (N:=["script", "k", "turn"]) (g:=Z3) F JM λ_ _ _ _ _ _ b=>by
 have m:=a.m;unfold Z3;exact(J9 (Qp (Q6 (xG b.units) (Qb (x:= "len") QV rfl (JA m) QR (J1 (qv 0) J2)) J3 (Qs _)) (J8 (JN (qv 1))) Qo) (J9 (JR j5 rfl (.inl rfl) (jl QU (qv 1) (Qb (x:= "len") QV rfl (JA m) QR (J1 (qv 0) J2)))) (J8 (JN (jl JS (jl QU (jl Qg (JK (JI b) (qv 0) (jl Qg (qv 1) (Qb (x:= "len") QV rfl (JA m) QR (J1 (qv 0) J2))) (λ_ _=>rfl) (λ_ _=>rfl)) (jl Wj J3 J3)) (jl JS J3 (qv 2))) (jl WI (qv 2) (qv 1)))))))
def DI (a:All e):Ca e "_law_name" 2 ["script", "k"] (qH e.K Kr):=
 qU a.toAl 1 42 λF=>qy (N:=["script", "k", "cell", "letters", "one", "two"]) (g:=X5) F JM λ_ _ _ _ _ _ c=>by
 have m:=a.m;have b:=(ZS a).mono (k:=1) ();unfold X5;exact(J9 (JR j5 rfl (.inl rfl) (jI b c rfl (J1 (qv 0) (J1 J3 J2)))) (J9 (JR j5 rfl (.inl rfl) WA) (J9 (JR j5 rfl (.inl rfl) (JK (JI c) (qv 3) (jl Qg (jl QU (qv 2) J3) J3) (λ_ _=>rfl) (λ_ _=>rfl))) (J9 (JR j5 rfl (.inl rfl) (JK (JI c) (qv 3) (jl Qg (jl QU (qv 2) J3) J3) (λ_ _=>rfl) (λ_ _=>rfl))) (J8 (JN (JK (JI c) (j3 (Kj (J1 (jl JS (qv 4) (WE (x:= "str") Di rfl (JA m) XO (J1 (qv 1) J2))) (J1 (jl JS (jl JS (qv 4) (WE (x:= "str") Di rfl (JA m) XO (J1 (qv 1) J2))) (qv 5)) (J1 (jl JS (jl JS (qv 4) (qv 5)) (WE (x:= "str") Di rfl (JA m) XO (J1 (qv 1) J2))) J2))))) (jl Qg (qv 2) J3) (λ_ _=>rfl) (λ_ _=>rfl))))))))
def sM (a:All e):Ca e "_law_book" 3 ["script", "plans"] (zb e.K Bj):=
 qU a.toAl 2 46 λF=>yt (N:=["script", "plans", "made", "plan", "givens"]) (g:=Bi) F JM λ_ _ _ _ _ _ h=>by
 have m:=a.m;have f:=(DI a).mono (k:=2) ();have b:=t8 a;have c:=t5 a;unfold Bi;exact(J9 (Kk j5 rfl (.inl rfl) (Kj J2)) (J9 (Qq PassesOwn.never rfl (JY (qv 1)) (JW (JX j5 rfl (.inl rfl))) (J9 (CH ["k", "script"] [none,some 0] j5 rfl (.inl rfl) rfl rfl (K8 rfl (JA m) (J1 (JK (JI h) (qv 3) J3 (λ_ _=>rfl) (λ_ _=>rfl)) J2)) (λ_ _ _ _ _=>(JW (xA 0 j5))) (λ_ _ _ _ _=>(jI f h rfl (J1 (qv 1) (J1 (jl JS J3 (qv 0)) J2))))) (J8 (WH (pv 2) (j3 (HG c (h.mono ()) rfl (J1 (JK (JI h) (qv 3) J3 (λ_ _=>rfl) (λ_ _=>rfl)) (J1 (qv 4) (J1 (j3 (K6 (x:= "list") V3 rfl (JA m) K4 (J1 (JK (JI h) (qv 3) J3 (λ_ _=>rfl) (λ_ _=>rfl)) J2))) J2))))) (λi l=>KU Yy Yz YA Wd i l))))) (J8 (Xn [2] (WF (HG b (h.mono ()) rfl (J1 (qv 2) J2)))))))
def kq (a:All e):Ca e "fits_in" 1 ["row", "waits"] (qH e.K v6):=
 qU a.toAl 3 5 λF=>qy (N:=["row", "waits", "thing", "wait"]) (g:=v4) F JM λ_ _ _ _ _ _ b=>by
 unfold v4;exact(J9 (Qq PassesOwn.never rfl (JY (qv 0)) (K9 [2,3] (K3 rfl (Qm (JX j5 rfl (.inl rfl)) (Qm (JX j5 rfl (.inl rfl)) K2)))) (J8 (Qp (zc (F9 (FU b.units (qv 2) (qv 1)) (F7 (Q6 vt (qv 3) (JK (JI b) (qv 1) (qv 2) (λ_ _=>rfl) (λ_ _=>rfl)) (Qs _))))) (J8 (JN Ka)) Qo))) (J8 (JN Ka)))
def L5 (a:All e):Ca e "is_covered" 2 ["row", "kept"] (qH e.K xm):=
 qU a.toAl 4 9 λF=>qy (N:=["row", "kept", "waits", "other"]) (g:=wN) F JM λ_ _ _ _ _ _ c=>by
 have m:=a.m;have b:=(kq a).mono (k:=1) ();unfold wN;exact(J9 (JR j5 rfl (.inl rfl) (j3 (K6 (x:= "dict") (Ga rfl) rfl (JA m) EB (J1 (qv 0) J2)))) (J9 (Qq PassesOwn.never rfl (JY (qv 1)) (JW (JX j5 rfl (.inl rfl))) (J8 (Qp (K5 (jI b c rfl (J1 (qv 3) (J1 (qv 2) J2)))) (J8 (JN Ka)) Qo))) (J8 (JN Ka))))
def kn (a:All e):Ca e "joined" 1 ["row", "other"] (qH e.K zt):=
 qU a.toAl 5 6 λF=>qy (N:=["row", "other", "waits", "thing", "wait"]) (g:=wQ) F JM λ_ _ _ _ _ _ b=>by
 have m:=a.m;unfold wQ;exact(J9 (Kk j5 rfl (.inl rfl) (K6 (x:= "dict") (Ga rfl) rfl (JA m) EB (J1 (qv 0) J2))) (J9 (Qq PassesOwn.never rfl (JY (qv 1)) (K9 [3,4] (K3 rfl (Qm (JX j5 rfl (.inl rfl)) (Qm (JX j5 rfl (.inl rfl)) K2)))) (J8 (Pp (JI b) (pv 2) (qv 3) (Qb (x:= "max") (FV rfl) rfl (JA m) BZ (J1 (qv 4) (J1 (Y1 [2] (Po (JI b) (qv 2) (qv 3) (qv 4) ⟨rfl,rfl,rfl,rfl⟩)) J2)))))) (J8 (Xn [2] (JN (WE (x:= "tuple") A8 rfl (JA m) Xf (J1 (Px (λh=>ZY (O8 rfl) rfl (JA m) Ad (KS (Nq PySem.F.plainAttrs_dict PySem.F.slot_dict_items PySem.F.type_dict_items O7 h) W0)) (qv 2)) J2)))))))
def sE (a:All e):Ca e "each_joined" 3 ["form", "other"] (zb e.K Z5):=
 qU a.toAl 6 17 λF=>yt (N:=["form", "other", "rows", "rest", "row"]) (g:=Bk) F JM λ_ _ _ _ _ _ c=>by
 have m:=a.m;have b:=(L5 a).mono (k:=2) ();have f:=(kn a).mono (k:=2) ();unfold Bk;exact(J9 (Kk j5 rfl (.inl rfl) (uH SX (j3 (Ge ["row", "other"] [none,some 1] rfl rfl (JY (qv 0)) (λ_ _ _ _ _=>(JW (xA 0 j5))) (λ_ _ _ _ _=>(K5 (jI b c rfl (J1 (qv 0) (J1 (qv 1) J2))))) (λ_ _ _ _ _=>(qv 0)))) (j3 (Ge ["row", "form"] [none,some 0] rfl rfl (JY (qv 1)) (λ_ _ _ _ _=>(JW (xA 0 j5))) (λ_ _ _ _ _=>(K5 (jI b c rfl (J1 (qv 0) (J1 (qv 1) J2))))) (λ_ _ _ _ _=>(qv 0)))))) (J9 (P4 ["row", "form"] [none,some 0] j5 rfl (.inl rfl) rfl rfl (JY (qv 1)) (λ_ _ _ _ _=>(JW (xA 0 j5))) (λ_ _ _ _ _=>(Xm (K5 (jI b c rfl (J1 (qv 0) (J1 (qv 1) J2)))))) (λ_ _ _ _ _=>(qv 0))) (J9 (Qq PassesOwn.never rfl (JY (qv 0)) (JW (JX j5 rfl (.inr rfl))) (J8 (Qp (Xm (K5 (jI b c rfl (J1 (qv 4) (J1 (qv 1) J2))))) (J8 (OL (pv 2) (KI ["other_row", "row"] [none,some 4] rfl rfl (JY (qv 3)) (λ_ _ _ _ _=>(JW (xA 0 j5))) (λ_ _ _ _ _=>(jI f c rfl (J1 (qv 1) (J1 (qv 0) J2))))) (λh i=>KU Yy PySem.F.slot_list_extend PySem.F.type_list_extend Nt h i))) Qo))) (J8 (WG (pv 2))))))
def kl (a:All e):Ca e "lowest" 3 ["rows", "enough"] (zb e.K wS):=
 qU a.toAl 7 8 λF=>yt (N:=["rows", "enough", "kept", "row"]) (g:=wO) F JM λ_ _ _ _ _ _ c=>by
 have m:=a.m;have b:=(L5 a).mono (k:=2) ();unfold wO;exact(J9 (Kk j5 rfl (.inl rfl) (Kj J2)) (J9 (Qq PassesOwn.never rfl (JY (j3 (SE (λh=>L2.ST.pe_sortLen rfl (JA m) rfl (JA m) h) (J1 (j3 (S3 (λh=>ZY (L2.ST.call_sortedSet rfl c.units) rfl (JA m) Ad (KS (BJ (L2.ST.call_setRows rfl c.units) rfl (JA m) L2.bt_set h) W0)) (J1 (qv 0) J2))) J2)))) (JW (JX j5 rfl (.inl rfl))) (J9 (Qp (Q6 (xG c.units) (Y1 [2] (Qb (x:= "len") QV rfl (JA m) QR (J1 (qv 2) J2))) (qv 1) (Qs _)) (J8 OK) Qo) (J8 (Qp (Xm (K5 (Y1 [2] (jI b c rfl (J1 (qv 3) (J1 (qv 2) J2)))))) (J8 (WH (pv 2) (qv 3) (λf i=>KU Yy Yz YA Wd f i))) Qo)))) (J8 (WG (pv 2)))))
def L6 (a:All e):yO e "form_within" 4 ["rows", "most"] (xQ e.K Q9):=
 xP a.toAl 8 18 λF=>AN (N:=["rows", "most", "kept"]) (g:=Z7) F JM λ_ _ _ _ _ _ f=>by
 have m:=a.m;have c:=(kl a).mono (k:=3) ();have b:=a.x_TooMany;unfold Z7;exact(J9 (JR j5 rfl (.inl rfl) (j3 (WP c f rfl (J1 (qv 0) (J1 (jl JS (qv 1) J3) J2))))) (J9 (Qp (Q6 vt (Qb (x:= "len") QV rfl (JA m) QR (J1 (qv 2) J2)) (qv 1) (Qs _)) (J8 (SO SG b rfl rfl (uL (by decide) (qv 1)))) Qo) (J8 (WF (FB (x:= "sorted") (Gv f.units) rfl (JA m) Ad (J1 (qv 2) J2))))))
def DJ (a:All e):yO e "all_of" 5 ["forms", "most"] (x5 e.K xl):=
 xP a.toAl 9 14 λF=>AM (N:=["forms", "most", "told", "form"]) (g:=zU) F JM λ_ _ _ _ _ _ f=>by
 have c:=(sE a).mono (k:=4) ();have b:=(L6 a).mono (k:=4) ();unfold zU;exact(J9 (JR j5 rfl (.inl rfl) (j3 (Xy b Kh f rfl (J1 (JK (JI f) (qv 0) J3 (λ_ _=>rfl) (λ_ _=>rfl)) (J1 (qv 1) J2))))) (J9 (Qq Dg rfl (JY (j3 (Gu (qv 0) (Gs J3) AE AE))) (JW (JX j5 rfl (.inl rfl))) (J8 (JR j5 rfl (.inl rfl) (j3 (Xy b Kh f rfl (J1 (j3 (WP c f rfl (J1 (qv 2) (J1 (qv 3) J2)))) (J1 (qv 1) J2))))))) (J8 (JN (qv 2)))))
def sZ (a:All e):Ca e "opposite" 1 ["column"] (qH e.K Z8):=
 qU a.toAl 10 20 λF=>qy (N:=["column"]) (g:=Bn) F JM λ_ _ _ _ _ _ b=>by
 have m:=a.m;unfold Bn;exact(J8 (JN (WE (x:= "tuple") A8 rfl (JA m) Xf (J1 (j3 (KI ["thing", "wait"] [none,none] rfl rfl (JY (qv 0)) (λ_ _ _ _ _=>(K9 [0,1] (K3 rfl (Qm (xA 0 j5) (Qm (xA 1 j5) K2))))) (λ_ _ _ _ _=>(WD (J1 (qv 0) (J1 (yT WJ (qv 1)) J2)))))) J2))))
def sV (a:All e):Ca e "opposites" 2 ["columns"] (zb e.K Bp):=
 qU a.toAl 11 21 λF=>yt (N:=["columns"]) (g:=Bo) F JM λ_ _ _ _ _ _ c=>by
 have b:=(sZ a).mono (k:=1) ();unfold Bo;exact(J8 (WF (KI ["column"] [none] rfl rfl (JY (qv 0)) (λ_ _ _ _ _=>(JW (xA 0 j5))) (λ_ _ _ _ _=>(jI b c rfl (J1 (qv 0) J2))))))
def km (a:All e):Ca e "shifted" 1 ["row", "wait"] (qH e.K zW):=
 qU a.toAl 12 7 λF=>qy (N:=["row", "wait"]) (g:=wP) F JM λ_ _ _ _ _ _ b=>by
 have m:=a.m;unfold wP;exact(J8 (JN (WE (x:= "tuple") A8 rfl (JA m) Xf (J1 (j3 (KI ["thing", "own", "wait"] [none,none,some 1] rfl rfl (JY (qv 0)) (λ_ _ _ _ _=>(K9 [0,1] (K3 rfl (Qm (xA 0 j5) (Qm (xA 1 j5) K2))))) (λ_ _ _ _ _=>(WD (J1 (qv 0) (J1 (jl JS (qv 1) (qv 2)) J2)))))) J2))))
def DK (a:All e):Ca e "waited" 2 ["form", "wait"] (zb e.K xR):=
 qU a.toAl 13 12 λF=>yt (N:=["form", "wait"]) (g:=wM) F JM λ_ _ _ _ _ _ c=>by
 have b:=(km a).mono (k:=1) ();unfold wM;exact(J8 (WF (KI ["row", "wait"] [none,some 1] rfl rfl (JY (qv 0)) (λ_ _ _ _ _=>(JW (xA 0 j5))) (λ_ _ _ _ _=>(jI b c rfl (J1 (qv 0) (J1 (qv 1) J2)))))))
def sY (a:All e):yO e "latest" 6 ["forms", "deadlines", "most"] (xQ e.K Ww):=
 xP a.toAl 14 23 λF=>AN (N:=["forms", "deadlines", "most", "ahead"]) (g:=ZE) F JM λ_ _ _ _ _ _ h=>by
 have m:=a.m;have c:=(DJ a).mono (k:=5) ();have b:=(sV a).mono (k:=5) ();have f:=(DK a).mono (k:=5) ();unfold ZE;exact(J9 (CH ["form", "deadline"] [none,none] j5 rfl (.inl rfl) rfl rfl (Rh rfl (JA m) (J1 (qv 0) (J1 (qv 1) J2))) (λ_ _ _ _ _=>(K9 [0,1] (K3 rfl (Qm (xA 0 j5) (Qm (xA 1 j5) K2))))) (λ_ _ _ _ _=>(j3 (WP f h rfl (J1 (qv 0) (J1 (yT WJ (qv 1)) J2)))))) (J8 (WF (FB (x:= "sorted") (Gv h.units) rfl (JA m) Ad (J1 (j3 (WP b h rfl (J1 (YU c Kh h rfl (J1 (qv 3) (J1 (qv 2) J2))) J2))) J2)))))
def L8 (a:All e):yO e "first_of" 5 ["forms", "most"] (xQ e.K yi):=
 xP a.toAl 15 13 λF=>AN (N:=["forms", "most", "told", "form"]) (g:=zV) F JM λ_ _ _ _ _ _ c=>by
 have b:=(L6 a).mono (k:=4) ();unfold zV;exact(J9 (Kk j5 rfl (.inl rfl) (Xy b Kh c rfl (J1 (JK (JI c) (qv 0) J3 (λ_ _=>rfl) (λ_ _=>rfl)) (J1 (qv 1) J2)))) (J9 (Qq Dg rfl (JY (j3 (Gu (qv 0) (Gs J3) AE AE))) (JW (JX j5 rfl (.inl rfl))) (J8 (Xn [2] (Kk j5 rfl (.inl rfl) (Xy b Kh c rfl (J1 (jl JS (qv 2) (qv 3)) (J1 (qv 1) J2))))))) (J8 (WG (pv 2)))))
def sH (a:All e):yO e "put_into_row" 6 ["row", "forms", "most"] (x5 e.K Ki):=
 xP a.toAl 16 16 λF=>AM (N:=["row", "forms", "most"]) (g:=Br) F JM λ_ _ _ _ _ _ f=>by
 have b:=(DJ a).mono (k:=5) ();have c:=(DK a).mono (k:=5) ();unfold Br;exact(J8 (JN (YU b Kh f rfl (J1 (j3 (KI ["thing", "wait", "forms"] [none,none,some 1] rfl rfl (JY (qv 0)) (λ_ _ _ _ _=>(K9 [0,1] (K3 rfl (Qm (xA 0 j5) (Qm (xA 1 j5) K2))))) (λ_ _ _ _ _=>(j3 (WP c f rfl (J1 (JK (JI f) (qv 2) (qv 0) (λ_ _=>rfl) (λ_ _=>rfl)) (J1 (qv 1) J2))))))) (J1 (qv 2) J2)))))
def ki (a:All e):yO e "put_into" 7 ["form", "forms", "most"] (xQ e.K xI):=
 xP a.toAl 17 15 λF=>AN (N:=["form", "forms", "most"]) (g:=zr) F JM λ_ _ _ _ _ _ f=>by
 have c:=(L8 a).mono (k:=6) ();have b:=(sH a).mono (k:=6) ();unfold zr;exact(J8 (WF (Xy c Kh f rfl (J1 (j3 (Ti ["row", "forms", "most"] [none,some 1,some 2] rfl rfl (JY (qv 0)) (λ_ _ _ _ _=>(JW (xA 0 j5))) (λ_ _ _ _ _ h=>(YU b (Th rfl rfl rfl Te h) f rfl (J1 (qv 0) (J1 (qv 1) (J1 (qv 2) J2))))))) (J1 (qv 2) J2)))))
def L9 (a:All e):Ca e "plan_by" 1 ["book", "name"] (qH e.K ZF):=
 qU a.toAl 19 28 λF=>qy (N:=["book", "name", "plan"]) (g:=Bu) F JM λ_ _ _ _ _ _ f=>by
 have b:=a.k_Book;have c:=a.k_Plan;unfold Bu;exact(J9 (Qq PassesOwn.never rfl (JY (YW b (by decide) (qv 0))) (JW (JX j5 rfl (.inl rfl))) (J8 (Qp (Q6 (xG f.units) (YW c (by decide) (qv 2)) (qv 1) (Qs _)) (J8 (JN (qv 2))) Qo))) (J8 uF))
def kj (a:All e):Ca e "thing_form" 1 ["thing"] (zb e.K wR):=
 qU a.toAl 20 11 λF=>yt (N:=["thing"]) (g:=v3) F JM λ_ _ _ _ _ _ b=>by
 unfold v3;exact(J8 (WF (Kj (J1 (WD (J1 (WD (J1 (qv 0) (J1 J3 J2))) J2)) J2))))
def LA (a:All e)(c:yO e "forms_knowing" (7+k) ["book", "name", "most", "known"] (Kp e.K (QM j))):yO e "made_form" (7+k+1) ["book", "how", "forms", "most", "known"] (Kp e.K (Qx j)):=
 xP a.toAl 18 33 λF=>HV (N:=["book", "how", "forms", "most", "known"]) (g:=(VZ (QM j))) F JM λ_ _ _ _ _ _ b=>by
 have f:=(DJ a).mono (k:=(7+k)) ();have h:=(L8 a).mono (k:=(7+k)) ();have i:=(ki a).mono (k:=(7+k)) ();unfold VZ;exact(HS (HX (Q6 (xG b.units) (qv 1) WA (Qs _))) (AW (X1 (YU f Kh b rfl (J1 (qv 2) (J1 (qv 3) J2))))) (HS (HX (Q6 (xG b.units) (qv 1) WA (Qs _))) (AW (X1 (j3 (Xy h Kh b rfl (J1 (qv 2) (J1 (qv 3) J2)))))) (AX (m:=none) (uM (T8 [4] (FU b.units (qv 1) (qv 4))) (HN (TC (JI b) (qv 4) (qv 1) (Tu kE (HW c Kh b rfl (J1 (qv 0) (J1 (qv 1) (J1 (qv 3) (J1 (qv 4) J2))))) (X1 (yT WJ J3)) (λ_ _=>rfl)))) Tn) (AW (T7 (xV.d i) Kh b rfl (Dn (T9 (JI b) (qv 4) (qv 1) (λ_ _=>rfl)) (Dn (X1 (qv 2)) (Dn (X1 (qv 3)) Tw))))))))
def tO (a:All e)(c:yO e "made_form" (7+k) ["book", "how", "forms", "most", "known"] (Kp e.K (Qx j))):yO e "forms_knowing" (7+k+1) ["book", "name", "most", "known"] (Kp e.K (QM (j+1))):=
 xP a.toAl 21 32 λF=>HV (N:=["book", "name", "most", "known", "plan", "told", "made", "how", "items", "forms"]) (g:=(ZG (Qx j))) F JM λ_ _ _ _ _ _ h=>by
 have m:=a.m;have f:=(L9 a).mono (k:=(7+k)) ();have i:=(kj a).mono (k:=(7+k)) ();have l:=(DK a).mono (k:=(7+k)) ();have b:=a.k_Plan;unfold ZG;exact(AX (m:=none) (Dl (JR j5 rfl (.inl rfl) (uK f h rfl (J1 (qv 0) (J1 (qv 1) J2))))) (AX (m:=none) (Dl (Kk j5 rfl (.inr rfl) (KI ["thing"] [none] rfl rfl (K8 rfl (JA m) (J1 (Qb (x:= "len") QV rfl (JA m) QR (J1 (YW b (by decide) (qv 4)) J2)) J2)) (λ_ _ _ _ _=>(JW (xA 0 j5))) (λ_ _ _ _ _=>(j3 (WP i h rfl (J1 (qv 0) J2))))))) (AX (m:=none) (Tr Dg rfl (JY (YW b (by decide) (qv 4))) (K9 [6,7,8] (K3 rfl (Qm (JX j5 rfl (.inl rfl)) (Qm (JX j5 rfl (.inl rfl)) (Qm (JX j5 rfl (.inl rfl)) K2))))) (Tp (Dl (T6 ["thing", "wait", "told"] [none,none,some 5] 2 j5 rfl (.inl rfl) rfl rfl (JY (qv 8)) (λ_ _ _ _ _=>(K9 [0,1] (K3 rfl (Qm (xA 0 j5) (Qm (xA 1 j5) K2))))) (λ_ _ _ _ _=>(j3 (WP l h rfl (J1 (Gh (JI h) (pv 2) (qv 0) (λ_ _=>rfl) (λ_ _=>rfl)) (J1 (qv 1) J2))))))) (HN (Tz (pv 5) (HW c Kh h rfl (J1 (qv 0) (J1 (qv 7) (J1 (qv 9) (J1 (qv 2) (J1 (qv 3) J2)))))) (λn o=>KU Yy Yz YA Wd n o))))) (T2 (AW (X1 (qv 5)))))))
theorem LB (a:All e):∀j,yO e "forms_knowing" (7+2*j) ["book", "name", "most", "known"] (Kp e.K (QM j))
 | 0=>xP a.toAl 21 32 λ_=>TJ
 |j+1=>tO (k:=2*j+1) a (LA (k:=2*j+0) a (LB a j))
def LC (a:All e):yO e "forms_knowing" 15 ["book", "name", "most", "known"] (Kp e.K (QM 4)):=LB a 4
def mI (a:All e):yO e "made_form" 16 ["book", "how", "forms", "most", "known"] (Kp e.K (Qx 4)):=LA (k:=8) a (LC a)
def sR (a:All e):yO e "forms_of" 16 ["book", "name", "most"] (x5 e.K Bx):=
 xP a.toAl 22 30 λF=>AM (N:=["book", "name", "most"]) (g:=Bw) F JM λ_ _ _ _ _ _ c=>by
 have b:=(LC a).mono (k:=15) ();unfold Bw;exact(J8 (JN (uJ b Kh c rfl (Dr (qv 0) (Dr (qv 1) (Dr (qv 2) (TH (d0:=.dct [] []) Pn)))))))
def sS (a:All e):yO e "told_form" 17 ["book", "name", "most"] (x5 e.K Wx):=
 xP a.toAl 23 31 λF=>AM (N:=["book", "name", "most"]) (g:=ZI) F JM λ_ _ _ _ _ _ c=>by
 have b:=(sR a).mono (k:=16) ();unfold ZI;exact(J8 (JN (JK (JI c) (YU b Kh c rfl (J1 (qv 0) (J1 (qv 1) (J1 (qv 2) J2)))) (yT WJ J3) (λ_ _=>rfl) (λ_ _=>rfl))))
def sF (a:All e):Ca e "_law_boxes" 18 ["book", "name", "deadline"] (qH e.K KE):=
 qU a.toAl 24 48 λF=>qy (N:=["book", "name", "deadline", "found"]) (g:=X8) F JM λ_ _ _ _ _ _ h=>by
 have c:=(sY a).mono (k:=17) ();have f:=(sS a).mono (k:=17) ();have b:=a.x_TooMany;unfold X8;exact(J9 (JR j5 rfl (.inl rfl) Fz) (J9 (Ta rfl rfl (TM j5 rfl (.inl rfl) (xV.d c) f h h rfl rfl (J1 (qv 0) (J1 (qv 1) (J1 J3 J2))) (J1 (j3 (Kj (J1 (qv 2) J2))) (J1 J3 J2))) b rfl (λ_=>(J8 (JR j5 rfl (.inl rfl) Fz)))) (J8 (JN (qv 3)))))
def LD (a:All e):Ca e "_law_number" 1 ["cell"] (qH e.K Wb):=
 qU a.toAl 25 41 λF=>qy (N:=["cell", "far"]) (g:=X9) F JM λ_ _ _ _ _ _ b=>by
 unfold X9;exact(J9 (Qp (Q6 (xG b.units) (jl Qg (qv 0) J3) J3 (Qs _)) (J9 (JR j5 rfl (.inl rfl) (jl Qg (jl WI (jl QU (qv 0) J3) (jl JS (jl Wj J3 J3) J3)) (jl Wj J3 J3))) (J8 (JN (JK (JI b) (j3 (Kj (J1 (qv 1) (J1 (yT WJ (qv 1)) J2)))) (jl Qg (jl QU (qv 0) J3) J3) (λ_ _=>rfl) (λ_ _=>rfl))))) Qo) (J8 (JN (jl Y6 (jl Qg (jl QU (qv 0) J3) J3) J3))))
def sG (a:All e):Ca e "_law_hours" 2 ["script", "cell", "at", "many"] (zb e.K ZJ):=
 qU a.toAl 26 47 λF=>yt (N:=["script", "cell", "at", "many", "hours", "k", "own"]) (g:=Bz) F JM λ_ _ _ _ _ _ f=>by
 have m:=a.m;have b:=(ZS a).mono (k:=1) ();have c:=(LD a).mono (k:=1) ();unfold Bz;exact(J9 (Kk j5 rfl (.inl rfl) (Kj J2)) (J9 (Qq PassesOwn.never rfl (K8 rfl (JA m) (J1 (qv 3) J2)) (JW (JX j5 rfl (.inl rfl))) (J9 (JR j5 rfl (.inl rfl) (jI b f rfl (J1 (qv 0) (J1 (jl JS (jl JS (qv 2) J3) (qv 5)) J2)))) (J8 (WH (pv 4) (jI c f rfl (J1 (jl Qg (jl JS (jl WI (jl JS (qv 1) (qv 6)) J3) (jl WI J3 (qv 5))) (jl JS (jl Wj J3 J3) J3)) J2)) (λh i=>KU Yy Yz YA Wd h i))))) (J8 (WG (pv 4)))))
def sN (a:All e):Ca e "keeps_latest" 1 ["box", "hours"] (qH e.K ZK):=
 qU a.toAl 27 24 λF=>qy (N:=["box", "hours"]) (g:=B0) F JM λ_ _ _ _ _ _ b=>by
 have m:=a.m;unfold B0;exact(J8 (JN (Qb (x:= "all") (fB rfl) rfl (JA m) Rb (J1 (j3 (KI ["thing", "hour", "hours"] [none,none,some 1] rfl rfl (JY (qv 0)) (λ_ _ _ _ _=>(K9 [0,1] (K3 rfl (Qm (xA 0 j5) (Qm (xA 1 j5) K2))))) (λ_ _ _ _ _=>(Aw vr (JK (JI b) (qv 2) (qv 0) (λ_ _=>rfl) (λ_ _=>rfl)) (qv 1) (Qs _))))) J2))))
def tj (a:All e):Ca e "_law_kept" 2 ["boxes", "hours"] (qH e.K ZL):=
 qU a.toAl 28 52 λF=>qy (N:=["boxes", "hours", "own", "box"]) (g:=B2) F JM λ_ _ _ _ _ _ c=>by
 have b:=(sN a).mono (k:=1) ();unfold B2;exact(J9 (JR j5 rfl (.inl rfl) Ka) (J9 (Qq PassesOwn.never rfl (JY (qv 0)) (JW (JX j5 rfl (.inl rfl))) (J8 (JR j5 rfl (.inl rfl) (mF (qv 2) (Ct (jI b c rfl (J1 (qv 3) (J1 (qv 1) J2)))))))) (J8 (JN (qv 2)))))
def sD (a:All e):Ca e "_law_near" 1 ["hours", "boxes", "cell"] (wG e.K 0 ZM):=
 qU a.toAl 29 51 λF=>gp (j:=0) (N:=["hours", "boxes", "cell", "box", "pair"]) (g:=B4) F JM λ_ _ _ _ _ _ b=>by
 have m:=a.m;unfold B4;exact(J9 (JR j5 rfl (.inl rfl) (JK (JI b) (qv 1) (jl Qg (qv 2) (Qb (x:= "len") QV rfl (JA m) QR (J1 (qv 1) J2))) (λ_ _=>rfl) (λ_ _=>rfl))) (J9 (Qq PassesOwn.never rfl (JY (qv 3)) (JW (JX j5 rfl (.inl rfl))) (J9 (JR j5 rfl (.inl rfl) (jl QU (qv 2) J3)) (J8 (Qp (Q6 mJ (jl Qg (qv 2) J3) J3 (Qs _)) (J8 (CO (pv 0) (JK (JI b) (qv 4) J3 (λ_ _=>rfl) (λ_ _=>rfl)) (jl Y6 (jl JS (JK (JI b) (qv 4) J3 (λ_ _=>rfl) (λ_ _=>rfl)) (jl Qg (qv 2) J3)) J3))) Qo)))) (J8 (WG (pv 0)))))
def sO (a:All e):Ca e "_law_wait" 1 ["cell"] (qH e.K XA):=
 qU a.toAl 30 43 λF=>qy (N:=["cell", "far"]) (g:=ZN) F JM λ_ _ _ _ _ _ b=>by
 unfold ZN;exact(J9 (Qp (Q6 (xG b.units) (jl Qg (qv 0) J3) J3 (Qs _)) (J9 (JR j5 rfl (.inl rfl) (jl Qg (jl WI (jl QU (qv 0) J3) (jl JS (jl Wj J3 J3) J3)) (jl Wj J3 J3))) (J8 (JN (JK (JI b) (j3 (Kj (J1 (qv 1) (J1 (yT WJ (qv 1)) (J1 (jl Y6 (jl Wj J3 J3) J3) (J1 (jl Y6 J3 (jl Wj J3 J3)) J2)))))) (jl Qg (jl QU (qv 0) J3) J3) (λ_ _=>rfl) (λ_ _=>rfl))))) Qo) (J8 (JN (jl Y6 (jl Qg (jl QU (qv 0) J3) J3) J3))))
def sC (a:All e):Ca e "_law_made" 3 ["script", "at", "k", "things", "plans"] (qH e.K XB):=
 qU a.toAl 31 44 λF=>qy (N:=["script", "at", "k", "things", "plans", "cell", "how", "size", "part", "items", "j", "own"]) (g:=WY) F JM λ_ _ _ _ _ _ c=>by
 have m:=a.m;have b:=(ZS a).mono (k:=2) ();have f:=(DI a).mono (k:=2) ();have h:=(sO a).mono (k:=2) ();unfold WY
 exact(J9 (JR j5 rfl (.inl rfl) (jI b c rfl (J1 (qv 0) (J1 (qv 1) J2)))) (J9 (JR j5 rfl (.inl rfl) (JK (JI c) (j3 (Kj (J1 WA (J1 WA J2)))) (jl Qg (qv 5) J3) (λ_ _=>rfl) (λ_ _=>rfl))) (J9 (JR j5 rfl (.inl rfl) (jl JS J3 (jl Qg (jl QU (qv 5) J3) J3))) (J9 (Qp (zc (F8 (Q6 vt (Qb (x:= "len") QV rfl (JA m) QR (J1 (qv 4) J2)) J3 (Qs _)) (F6 (Q6 (xG c.units) (jl Qg (jl QU (qv 5) J3) J3) J3 (Qs _))))) (J9 (JR j5 rfl (.inl rfl) (JK (JI c) (qv 4) (jl Qg (jl QU (qv 5) J3) (Qb (x:= "len") QV rfl (JA m) QR (J1 (qv 4) J2))) (λ_ _=>rfl) (λ_ _=>rfl))) (J9 (JR j5 rfl (.inl rfl) (JK (JI c) (qv 8) J3 (λ_ _=>rfl) (λ_ _=>rfl))) (J8 (JR j5 rfl (.inl rfl) (JK (JI c) (qv 8) J3 (λ_ _=>rfl) (λ_ _=>rfl)))))) Qo) (J9 (Kk j5 rfl (.inl rfl) (Kj J2)) (J9 (Qq PassesOwn.never rfl (K8 rfl (JA m) (J1 (qv 7) J2)) (JW (JX j5 rfl (.inl rfl))) (J9 (JR j5 rfl (.inl rfl) (jI b c rfl (J1 (qv 0) (J1 (jl JS (jl JS (qv 1) J3) (qv 10)) J2)))) (J8 (WH (pv 9) (WD (J1 (jl Qg (qv 11) (qv 3)) (J1 (jI h c rfl (J1 (jl QU (qv 11) (qv 3)) J2)) J2))) (λi l=>KU Yy Yz YA Wd i l))))) (J8 (Xn [9] (JN (WD (J1 (jI f c rfl (J1 (qv 0) (J1 (jl JS J3 (qv 2)) J2))) (J1 (qv 6) (J1 (WE (x:= "tuple") A8 rfl (JA m) Xf (J1 (qv 9) J2)) J2)))))))))))))
def tm (a:All e):Ca e "_law_plans" 4 ["script"] (zb e.K B6):=
 qU a.toAl 32 45 λF=>yt (N:=["script", "plans", "p", "at", "many", "rows", "k"]) (g:=B5) F JM λ_ _ _ _ _ _ h=>by
 have m:=a.m;have b:=(ZS a).mono (k:=3) ();have c:=(sC a).mono (k:=3) ();have f:=(DI a).mono (k:=3) ();unfold B5;exact(J9 (Kk j5 rfl (.inl rfl) (Kj J2)) (J9 (Qq PassesOwn.never rfl (K8 rfl (JA m) (J1 (jl JS J3 (jl Qg (jI b h rfl (J1 (qv 0) (J1 J3 J2))) J3)) J2)) (JW (JX j5 rfl (.inl rfl))) (J9 (JR j5 rfl (.inl rfl) (jl JS J3 (jl WI J3 (qv 2)))) (J9 (JR j5 rfl (.inl rfl) (jl JS J3 (jl Qg (jI b h rfl (J1 (qv 0) (J1 (jl JS J3 (qv 2)) J2))) J3))) (J9 (Kk j5 rfl (.inl rfl) (Kj J2)) (J9 (Qq PassesOwn.never rfl (K8 rfl (JA m) (J1 (jl JS J3 (jl Qg (jl QU (jI b h rfl (J1 (qv 0) (J1 (jl JS J3 (qv 2)) J2))) J3) J3)) J2)) (JW (JX j5 rfl (.inl rfl))) (J8 (WH (pv 5) (TK [1] (jI c h rfl (J1 (qv 0) (J1 (jl JS (qv 3) (jl WI J3 (qv 6))) (J1 (qv 6) (J1 (jl JS (qv 4) (qv 6)) (J1 (qv 1) J2))))))) (λi l=>KU Yy Yz YA Wd i l)))) (J8 (Xn [5] (WH (pv 1) (WD (J1 (jI f h rfl (J1 (qv 0) (J1 (qv 2) J2))) (J1 (qv 4) (J1 (qv 5) J2)))) (λi l=>KU Yy Yz YA Wd i l))))))))) (J8 (WG (pv 1)))))
def sQ (a:All e):Ca e "_law_corner" 1 ["boxes", "box", "many"] (zb e.K ZO):=
 qU a.toAl 33 49 λF=>yt (N:=["boxes", "box", "many", "far", "one", "pair", "hours"]) (g:=B7) F JM λ_ _ _ _ _ _ b=>by
 have m:=a.m;unfold B7;exact(J9 (JR j5 rfl (.inr rfl) J3) (J9 (Qq PassesOwn.never rfl (JY (qv 0)) (JW (JX j5 rfl (.inl rfl))) (J8 (Qq PassesOwn.never rfl (JY (qv 4)) (JW (JX j5 rfl (.inl rfl))) (J8 (JR j5 rfl (.inr rfl) (Qb (x:= "max") (FV rfl) rfl (JA m) BZ (J1 (qv 3) (J1 (jl JS (JK (JI b) (qv 5) J3 (λ_ _=>rfl) (λ_ _=>rfl)) J3) J2)))))))) (J9 (P3 ["k", "far"] [none,some 3] j5 rfl (.inl rfl) rfl rfl (K8 rfl (JA m) (J1 (qv 2) J2)) (λ_ _ _ _ _=>(JW (xA 0 j5))) (λ_ _ _ _ _=>(qv 1))) (J9 (Qq PassesOwn.never rfl (JY (qv 1)) (JW (JX j5 rfl (.inl rfl))) (J8 (CO (pv 6) (JK (JI b) (qv 5) J3 (λ_ _=>rfl) (λ_ _=>rfl)) (JK (JI b) (qv 5) J3 (λ_ _=>rfl) (λ_ _=>rfl))))) (J8 (WG (pv 6)))))))
def tU (a:All e)(c:Ca e "_law_same" (0+k) ["found", "due"] (qH e.K (KR j))):Ca e "_law_same" (0+k+1) ["found", "due"] (qH e.K (KR (j+1))):=
 qU a.toAl 34 39 λF=>qy (N:=["found", "due", "k"]) (g:=(B8 (KR j))) F JM λ_ _ _ _ _ _ b=>by
 have m:=a.m;unfold B8
 exact(J9 (Qp (K5 (Qb (x:= "isinstance") V1 rfl (JA m) KW (J1 (qv 1) (J1 (V2 (n:= "str") (x:= "str") rfl (JA m) XO rfl) J2)))) (J8 (JN (Cu (Qb (x:= "isinstance") V1 rfl (JA m) KW (J1 (qv 0) (J1 (V2 (n:= "str") (x:= "str") rfl (JA m) XO rfl) J2))) (Ct (Aw (xG b.units) (qv 0) (qv 1) (Qs _)))))) Qo) (J9 (Qp (K5 (Qb (x:= "isinstance") V1 rfl (JA m) KW (J1 (qv 1) (J1 (V2 (n:= "int") (x:= "int") rfl (JA m) EA rfl) J2)))) (J8 (JN (Cu (Qb (x:= "isinstance") V1 rfl (JA m) KW (J1 (qv 0) (J1 (V2 (n:= "int") (x:= "int") rfl (JA m) EA rfl) J2))) (Cu (uI (Qb (x:= "isinstance") V1 rfl (JA m) KW (J1 (qv 0) (J1 (V2 (n:= "bool") (x:= "bool") rfl (JA m) NS rfl) J2)))) (Ct (Aw (xG b.units) (qv 0) (qv 1) (Qs _))))))) Qo) (J9 (Qp (zc (F9 (Q6 (ww b.units) (Qb (x:= "isinstance") V1 rfl (JA m) KW (J1 (qv 1) (J1 (V2 (n:= "list") (x:= "list") rfl (JA m) K4 rfl) J2))) (Qb (x:= "isinstance") V1 rfl (JA m) KW (J1 (qv 0) (J1 (V2 (n:= "list") (x:= "list") rfl (JA m) K4 rfl) J2))) (Qs _)) (F7 (Q6 (ww b.units) (Qb (x:= "isinstance") V1 rfl (JA m) KW (J1 (qv 1) (J1 (V2 (n:= "tuple") (x:= "tuple") rfl (JA m) Xf rfl) J2))) (Qb (x:= "isinstance") V1 rfl (JA m) KW (J1 (qv 0) (J1 (V2 (n:= "tuple") (x:= "tuple") rfl (JA m) Xf rfl) J2))) (Qs _))))) (J8 (JN Ka)) Qo) (J9 (Qp (Q6 (ww b.units) (Qb (x:= "len") QV rfl (JA m) QR (J1 (qv 0) J2)) (Qb (x:= "len") QV rfl (JA m) QR (J1 (qv 1) J2)) (Qs _)) (J8 (JN Ka)) Qo) (J9 (Qq PassesOwn.never rfl (K8 rfl (JA m) (J1 (Qb (x:= "len") QV rfl (JA m) QR (J1 (qv 1) J2)) J2)) (JW (JX j5 rfl (.inl rfl))) (J8 (Qp (Xm (K5 (jI c b rfl (J1 (JK (JI b) (qv 0) (qv 2) (λ_ _=>rfl) (λ_ _=>rfl)) (J1 (JK (JI b) (qv 1) (qv 2) (λ_ _=>rfl) (λ_ _=>rfl)) J2))))) (J8 (JN Ka)) Qo))) (J8 (JN Ka)))))))
theorem LF (a:All e):∀j,Ca e "_law_same" (0+j) ["found", "due"] (qH e.K (KR j))
 | 0=>qU a.toAl 34 39 λ_=>Gf
 |j+1=>tU (k:=j) a (LF a j)
def tu (a:All e):Ca e "_law_same" 6 ["found", "due"] (qH e.K (KR 6)):=LF a 6
def LG (a:All e)(b:Ca e "hours_of" (1+k) ["book", "name", "hours"] (qH e.K (Wc j))):Ca e "told_hour" (1+k+1) ["book", "name", "hours"] (qH e.K (QP j)):=
 qU a.toAl 35 36 λF=>qy (N:=["book", "name", "hours"]) (g:=(ZP (Wc j))) F JM λ_ _ _ _ _ _ c=>by
 unfold ZP;exact(J8 (JN (JK (JI c) (jI b c rfl (J1 (qv 0) (J1 (qv 1) (J1 (qv 2) J2)))) (yT WJ J3) (λ_ _=>rfl) (λ_ _=>rfl))))
def LH (a:All e)(b:Ca e "told_hour" (1+k) ["book", "name", "hours"] (qH e.K (QP j))):Ca e "made_hour" (1+k+1) ["book", "how", "hours"] (qH e.K (Ks j)):=
 qU a.toAl 36 37 λF=>qy (N:=["book", "how", "hours"]) (g:=(WZ (QP j))) F JM λ_ _ _ _ _ _ c=>by
 have m:=a.m;unfold WZ;exact(J9 (Qp (Q6 (xG c.units) (qv 1) WA (Qs _)) (J8 (JN (Qb (x:= "max") (Pc rfl) rfl (JA m) BZ (J1 (qv 2) J2)))) Qo) (J9 (Qp (Q6 (xG c.units) (qv 1) WA (Qs _)) (J8 (JN (Qb (x:= "min") (Pd rfl) rfl (JA m) NR (J1 (qv 2) J2)))) Qo) (J8 (JN (jI b c rfl (J1 (qv 0) (J1 (qv 1) (J1 (qv 2) J2))))))))
def tR (a:All e)(c:Ca e "made_hour" (1+k) ["book", "how", "hours"] (qH e.K (Ks j))):Ca e "hours_of" (1+k+1) ["book", "name", "hours"] (qH e.K (Wc (j+1))):=
 qU a.toAl 37 35 λF=>qy (N:=["book", "name", "hours", "told", "made", "how", "items"]) (g:=(ZQ (Ks j))) F JM λ_ _ _ _ _ _ h=>by
 have m:=a.m;have f:=(L9 a).mono (k:=(1+k)) ();have b:=a.k_Plan;unfold ZQ;exact(J9 (Kk j5 rfl (.inr rfl) (K6 (x:= "list") V3 rfl (JA m) K4 (J1 (qv 2) J2))) (J9 (Qq PassesOwn.never rfl (JY (YW b (by decide) (jI f h rfl (J1 (qv 0) (J1 (qv 1) J2))))) (K9 [4,5,6] (K3 rfl (Qm (JX j5 rfl (.inl rfl)) (Qm (JX j5 rfl (.inl rfl)) (Qm (JX j5 rfl (.inl rfl)) K2))))) (J8 (WH (pv 3) (Y1 [3] (jI c h rfl (J1 (qv 0) (J1 (qv 5) (J1 (j3 (KI ["thing", "wait", "told"] [none,none,some 3] rfl rfl (JY (qv 6)) (λ_ _ _ _ _=>(K9 [0,1] (K3 rfl (Qm (xA 0 j5) (Qm (xA 1 j5) K2))))) (λ_ _ _ _ _=>(jl JS (JK (JI h) (qv 2) (qv 0) (λ_ _=>rfl) (λ_ _=>rfl)) (qv 1))))) J2))))) (λi l=>KU Yy Yz YA Wd i l)))) (J8 (Xn [3] (JN (qv 3))))))
theorem LJ (a:All e):∀j,Ca e "hours_of" (1+3*j) ["book", "name", "hours"] (qH e.K (Wc j))
 | 0=>qU a.toAl 37 35 λ_=>Gf
 |j+1=>tR (k:=3*j+2) a (LH (k:=3*j+1) a (LG (k:=3*j+0) a (LJ a j)))
def t7 (a:All e):Ca e "hours_of" 13 ["book", "name", "hours"] (qH e.K (Wc 4)):=LJ a 4
def DM (a:All e):Ca e "told_hour" 14 ["book", "name", "hours"] (qH e.K (QP 4)):=LG (k:=12) a (t7 a)
def mH (a:All e):Ca e "made_hour" 15 ["book", "how", "hours"] (qH e.K (Ks 4)):=LH (k:=13) a (DM a)
def sJ (a:All e):Ca e "_law_tight" 15 ["book", "plan", "boxes", "deadline"] (qH e.K ZR):=
 qU a.toAl 38 50 λF=>qy (N:=["book", "plan", "boxes", "deadline", "box", "hours", "pair", "later"]) (g:=B9) F JM λ_ _ _ _ _ _ c=>by
 have m:=a.m;have f:=(sQ a).mono (k:=14) ();have h:=(tu a).mono (k:=14) ();have b:=(DM a).mono (k:=14) ();unfold B9;exact(J9 (Qq PassesOwn.never rfl (JY (qv 2)) (JW (JX j5 rfl (.inl rfl))) (J9 (JR j5 rfl (.inl rfl) (j3 (Ax f c rfl (J1 (qv 2) (J1 (qv 4) (J1 (JK (JI c) (qv 1) J3 (λ_ _=>rfl) (λ_ _=>rfl)) J2)))))) (J9 (Qp (Xm (K5 (jI h c rfl (J1 (jI b c rfl (J1 (qv 0) (J1 (JK (JI c) (qv 1) J3 (λ_ _=>rfl) (λ_ _=>rfl)) (J1 (j3 (K6 (x:= "list") V3 rfl (JA m) K4 (J1 (qv 5) J2))) J2)))) (J1 (qv 3) J2))))) (J8 (JN Ka)) Qo) (J8 (Qq PassesOwn.never rfl (JY (qv 4)) (JW (JX j5 rfl (.inl rfl))) (J9 (Kk j5 rfl (.inl rfl) (K6 (x:= "list") V3 rfl (JA m) K4 (J1 (qv 5) J2))) (J9 (CO (pv 7) (JK (JI c) (qv 6) J3 (λ_ _=>rfl) (λ_ _=>rfl)) (jl JS (Gh (JI c) (pv 7) (JK (JI c) (qv 6) J3 (λ_ _=>rfl) (λ_ _=>rfl)) (λ_ _=>rfl) (λ_ _=>rfl)) J3)) (J8 (Qp (Q6 vr (Y1 [7] (jI b c rfl (J1 (qv 0) (J1 (JK (JI c) (qv 1) J3 (λ_ _=>rfl) (λ_ _=>rfl)) (J1 (qv 7) J2))))) (qv 3) (Qs _)) (J8 (JN Ka)) Qo))))))))) (J8 (JN Ka)))
def sI (a:All e){f:Addr}{t:FuncData}(F:Fun e.K "law" "law" (wm 53) f t):FnOk e.P e.w e.K e.mg e.base yj 19 f t ["script"] (qH e.K vf):=
 qy (N:=["script", "plans", "book", "deadlines", "told", "p", "turn", "cell", "hours"]) (g:=XC) F JM λ_ _ _ _ _ _ b=>by
 have m:=a.m;have c:=(sM a).mono (k:=18) ();have h:=(sF a).mono (k:=18) ();have i:=(ZS a).mono (k:=18) ();have l:=(sG a).mono (k:=18) ();have n:=(tj a).mono (k:=18) ();have o:=(sD a).mono (k:=18) ();have p:=(LD a).mono (k:=18) ();have q:=(tm a).mono (k:=18) ();have r:=(sJ a).mono (k:=18) ();have s:=(DM a).mono (k:=18) ();unfold XC
 exact(J9 (JR j5 rfl (.inr rfl) (j3 (Ax q b rfl (J1 (qv 0) J2)))) (J9 (JR j5 rfl (.inr rfl) (j3 (Ax c b rfl (J1 (qv 0) (J1 (qv 1) J2))))) (J9 (JR j5 rfl (.inr rfl) (j3 (KI ["p", "script"] [none,some 0] rfl rfl (K8 rfl (JA m) (J1 (Qb (x:= "len") QV rfl (JA m) QR (J1 (qv 1) J2)) J2)) (λ_ _ _ _ _=>(JW (xA 0 j5))) (λ_ _ _ _ _=>(jI p b rfl (J1 (jI i b rfl (J1 (qv 1) (J1 (jl JS J3 (qv 0)) J2))) J2)))))) (J9 (CH ["p", "plans", "book", "deadlines"] [none,some 1,some 2,some 3] j5 rfl (.inl rfl) rfl rfl (K8 rfl (JA m) (J1 (Qb (x:= "len") QV rfl (JA m) QR (J1 (qv 1) J2)) J2)) (λ_ _ _ _ _=>(JW (xA 0 j5))) (λ_ _ _ _ _=>(jI h b rfl (J1 (qv 2) (J1 (JK (JI b) (JK (JI b) (qv 1) (qv 0) (λ_ _=>rfl) (λ_ _=>rfl)) J3 (λ_ _=>rfl) (λ_ _=>rfl)) (J1 (JK (JI b) (qv 3) (qv 0) (λ_ _=>rfl) (λ_ _=>rfl)) J2)))))) (J9 (Qq PassesOwn.never rfl (K8 rfl (JA m) (J1 (Qb (x:= "len") QV rfl (JA m) QR (J1 (qv 1) J2)) J2)) (JW (JX j5 rfl (.inl rfl))) (J8 (Qp (zc (F8 (Gg (JK (JI b) (qv 4) (qv 5) (λ_ _=>rfl) (λ_ _=>rfl))) (F6 (Xm (K5 (jI r b rfl (J1 (qv 2) (J1 (JK (JI b) (qv 1) (qv 5) (λ_ _=>rfl) (λ_ _=>rfl)) (J1 (JK (JI b) (qv 4) (qv 5) (λ_ _=>rfl) (λ_ _=>rfl)) (J1 (JK (JI b) (qv 3) (qv 5) (λ_ _=>rfl) (λ_ _=>rfl)) J2)))))))))) (J8 (JN Ka)) Qo))) (J9 (JR j5 rfl (.inl rfl) J3) (J9 (Qq PassesOwn.never rfl (JY (jl JS (j3 (Kj (J1 J3 J2))) (j3 (K6 (x:= "list") V3 rfl (JA m) K4 (J1 (qv 0) J2))))) (JW (JX j5 rfl (.inl rfl))) (J9 (JR j5 rfl (.inl rfl) (jl Qg (qv 6) (Qb (x:= "len") QV rfl (JA m) QR (J1 (qv 1) J2)))) (J9 (Qp (Gg (JK (JI b) (qv 4) (qv 5) (λ_ _=>rfl) (λ_ _=>rfl))) (J9 (JR j5 rfl (.inl rfl) (j3 (SW o b rfl (Ax l b rfl (J1 (qv 0) (J1 (qv 7) (J1 (qv 6) (J1 (JK (JI b) (JK (JI b) (qv 1) (qv 5) (λ_ _=>rfl) (λ_ _=>rfl)) J3 (λ_ _=>rfl) (λ_ _=>rfl)) J2))))) (J1 (JK (JI b) (qv 4) (qv 5) (λ_ _=>rfl) (λ_ _=>rfl)) (J1 (qv 7) J2))))) (J8 (Qp (Q6 (ww b.units) (Aw vr (jI s b rfl (J1 (qv 2) (J1 (JK (JI b) (JK (JI b) (qv 1) (qv 5) (λ_ _=>rfl) (λ_ _=>rfl)) J3 (λ_ _=>rfl) (λ_ _=>rfl)) (J1 (j3 (K6 (x:= "list") V3 rfl (JA m) K4 (J1 (qv 8) J2))) J2)))) (JK (JI b) (qv 3) (qv 5) (λ_ _=>rfl) (λ_ _=>rfl)) (Qs _)) (jI n b rfl (J1 (JK (JI b) (qv 4) (qv 5) (λ_ _=>rfl) (λ_ _=>rfl)) (J1 (qv 8) J2))) (Qs _)) (J8 (JN Ka)) Qo))) Qo) (J8 (JR j5 rfl (.inl rfl) (jl JS (qv 6) J3)))))) (J8 (JN Ka)))))))))
end
def BA (K:W.Frag):Sp:=λb H Q _=>∃(a:Addr) (ns:Yh),b=[.ref a]/\qs K H a (ns.map V.int)/\ns.length<=63/\∀c,Q (.bl true) c
def tM (K:W.Frag)(b:YE)(H:Hp)(Q:VK)(E:XK)(h:BA K b H Q E):qH K vf b H Q E:=by
 obtain⟨a,ns,rfl,c,f,q⟩:=h;refine⟨H,[.scr ns],jk.refl _,jd.mk (qo.mpr ⟨a,rfl,c⟩) .nil,?_⟩;rw[zG ns f];intro v j g e i;rw[jn.mp i];exact q g
def all_mk {l:W.OpenLaw}{w:World}{K:W.Frag}{h:Heap}{mg:Ye}{N:Addr}(X:K.In h)(G:h.Ns mainGlobals mg)(L:mg "law" = some (.ref N))
 {a:Addr}
 (d:vG K wm tbl) (z:Nn K bl) (dl:wT K "law" (wm 53))
 (b:W.nsIn K mainGlobals "TooMany" = some (some (.ref a))) (i:W.excIn K a [.type "ValueError",.type "Exception",.type "BaseException",.type "object"] "ValueError.__new__" = true)
 (x:HH K "Book" "Book.__init__" ["plans"] (Aa (wm 27) 0))
 (y:HH K "Plan" "Plan.__init__" ["name", "givens", "rows"] (Aa (wm 26) 0)):
 ∃O:FuncData,(∀(s:Shared) (v:Value),BindsTo s O ⟨[v],[]⟩ [("script",v)])/\∀c:Heap,K.In c->c.Ns mainGlobals mg->FnOk l.prog w K mg c yj 19 N O ["script"] (BA K):=by
 obtain⟨M,A,E,vf⟩:=dl;cases L.symm.trans (W.mg_of X G E);obtain⟨B,I,F,f,j,m,o,p⟩:=x;obtain⟨C,J,H,g,q,r,t,u⟩:=y;exact⟨A,(by obtain⟨_,_,_,_,_,_,_,_,_,rfl,_,_⟩:=id vf.ex;exact λs v=>.of_eq rfl),λc _ _=>(sI (e:=⟨l.prog,w,K,mg,c,λn=>[a,B,C].getD n 0,λn=>[].getD n default⟩) ⟨⟨⟨h,X,G⟩,d,HZ X G z⟩,⟨b,W.mg_of X G b,i⟩,⟨f,W.mg_of X G f,j,m⟩,⟨_,_,o,p⟩,⟨g,W.mg_of X G g,q,r⟩,⟨_,_,t,u⟩⟩ vf).imp (tM K)⟩
def walk {l:W.OpenLaw}{q:Program}{c:Yk}{m:(Ye)->Heap->Prop}{g:World->Heap->Prop}{d:DefRec}{K:Params->W.Frag}(o:l.most=some 63)(e:d.params.defaults=[])
 (p:∀(w:World) (h:Heap),g w h->(K w.params).In h)
 (F:∀(w:World) (mg:Ye) (i:Addr) (h:Heap),(K w.params).In h->h.Ns mainGlobals mg->mg d.name=some (.ref i) ->
  ∃j:FuncData,(∀(s:Shared) (u:Value),BindsTo s j ⟨[u],[]⟩ [("script",u)])/\∀b:Heap,(K w.params).In b->b.Ns mainGlobals mg->FnOk l.prog w (K w.params) mg b yj 19 i j ["script"] (BA (K w.params))):
 W.WalkO q c m g l.row.toRowW d [] (λf r=>PySem.call f r):=
 L2.walk_of (n:=63) (k:=19) (x:= "script") (CX:=λ_=>yj) (sp:=λw=>BA (K w.params)) o (by decide) e ⟨rfl,by decide,by decide⟩ p F (λ_ _ a ns t _ v=>⟨a,ns,rfl,v,t,λ_=>rfl⟩) λ_ _ _ _ _ z=>z
end My
end
open PySem PySem.W PyProof.Rows
def PySem.W.Fast.tw16748625213952726116:=()
def PySem.W.Fast.tw4325868079082149097:=()
def PySem.W.Fast.tw9215255494829085397:=()
def PySem.W.Fast.tw15506446097153075577:=()
def PySem.W.Fast.tw15624642464102170692:=()
def PySem.W.Fast.tw17150957822179953226:=()
def PySem.W.Fast.tw17451654495094707678:=()
def PySem.W.Fast.tw7970885105281195419:=()
def PySem.W.Fast.tw10547549984643601689:=()
def PySem.W.Fast.tw14610110764819692729:=()
def PySem.W.Fast.tw18403086772162572590:=()
def PySem.W.Fast.tw9366189697036580289:=()
def PySem.W.Fast.tw6395142131105037940:=()
def PySem.W.Fast.tw1569497270082605758:=()
def PySem.W.Fast.tw1719457208008794630:=()
def PySem.W.Fast.tw17962261819362687098:=()
def PySem.W.Fast.tw12331987345122200000:=()
def PySem.W.Fast.tw5242854332943041682:=()
def PySem.W.Fast.tw6319741199954193659:=()
def PySem.W.Fast.tw18338370128015853750:=()
def PySem.W.Fast.tw1991650681458816809:=()
def PySem.W.Fast.tw412373786276066787:=()
def PySem.W.Fast.tw1994361685390495622:=()
def PySem.W.Fast.tw4429469562459129511:=()
def PySem.W.Fast.tw2639773531570946145:=()
def PySem.W.Fast.tw15356606896631010364:=()
def PySem.W.Fast.tw15494324139217570368:=()
def PySem.W.Fast.tw5770000175635427389:=()
def PySem.W.Fast.tw8969439282784732608:=()
def PySem.W.Fast.tw15837322657103956910:=()
def PySem.W.Fast.tw6298084221463476099:=()
def PySem.W.Fast.tw7831387184881302863:=()
def PySem.W.Fast.tw4612326057878473974:=()
def PySem.W.Fast.tw16117941995676593853:=()
def PySem.W.Fast.tw8912230235317592165:=()
def PySem.W.Fast.tw6841072551741480722:=()
def PySem.W.Fast.tw7216766214879410336:=()
def PySem.W.Fast.tw15622310325469592502:=()
def PySem.W.Fast.tw5587644429394559981:=()
def PySem.W.Fast.tw5853466024983664477:=()
def PySem.W.Fast.tw14726465795651952127:=()
def PySem.W.Fast.tw8149148298811261:=()
def PySem.W.Fast.tw1260985812516287660:=()
def PySem.W.Fast.tw12542228845445791133:=()
def PySem.W.Fast.tw10219306185161836026:=()
def PySem.W.Fast.tw9287207775630303562:=()
def PySem.W.Fast.tw9761451887385815804:=()
def PySem.W.Fast.tw15320937296006114221:=()
def PySem.W.Fast.tw15308535629180922042:=()
def PySem.W.Fast.tw8038369333355540892:=()
def PySem.W.Fast.tw12348060428102678714:=()
def PySem.W.Fast.tw15521374661813222650:=()
def PySem.W.Fast.tw6638502870619964359:=()
def PySem.W.Fast.tw4128195993964119912:=()
def PySem.W.Fast.tw1258367330143493162:=()
def PySem.W.Fast.tw10962706996032987280:=()
def PySem.W.Fast.tw7474642575857233220:=()
def PySem.W.Fast.tw10429646193079753674:=()
def PySem.W.Fast.tw16151587951063498816:=()
def PySem.W.Fast.tw18133626890408503980:=()
def PySem.W.Fast.tw11534826373432641090:=()
def PySem.W.Fast.tw3514405805962172145:=()
def PySem.W.Fast.tw12820266358944968334:=()
def PySem.W.Fast.tw5012582221539737802:=()
def PySem.W.Fast.tw13843493030933655954:=()
def PySem.W.Fast.tw9519123239964824315:=()
def PySem.W.Fast.tw3830355744764449960:=()
def PySem.W.Fast.tw3521551658618925396:=()
def PySem.W.Fast.tw12604855509669423412:=()
def PySem.W.Fast.tw14171385914768126033:=()
def PySem.W.Fast.tw3877427505397605434:=()
def PySem.W.Fast.tw6776024156980597699:=()
def PySem.W.Fast.tw9300629522361381581:=()
def PySem.W.Fast.tw8102274778670990473:=()
def PySem.W.Fast.tw10494181406654460417:=()
def PySem.W.Fast.tw6445522289835454840:=()
def PySem.W.Fast.tw17504239683133297569:=()
def PySem.W.Fast.tw17070415482709361338:=()
def PySem.W.Fast.tw8754564453752551079:=()
def PySem.W.Fast.tw4054305011180065992:=()
def PySem.W.Fast.tw15068140214919659877:=()
def PySem.W.Fast.tw6708167017848341312:=()
def PySem.W.Fast.tw14205410377364876380:=()
def PySem.W.Fast.tw10737519698405747260:=()
def PySem.W.Fast.tw11715299449657378870:=()
def PySem.W.Fast.tw5517075191359146091:=()
def PySem.W.Fast.tw14933072802764637353:=()
def PySem.W.Fast.tw5839933782120853152:=()
def PySem.W.Fast.tw15256538699209264985:=()
def PySem.W.Fast.tw12148207606433136736:=()
def PySem.W.Fast.tw12074755732927818716:=()
def PySem.W.Fast.tw1440319770499600972:=()
def PySem.W.Fast.tw3805794133782566955:=()
def PySem.W.Fast.tw10312925462576505673:=()
def PySem.W.Fast.tw6356030581128913619:=()
def PySem.W.Fast.tw8181421708043162938:=()
def PySem.W.Fast.tw11167097745730992179:=()
def PySem.W.Fast.tw13345744203087739354:=()
def PySem.W.Fast.tw651201135033341375:=()
def PySem.W.Fast.tw8106643266863031607:=()
def PySem.W.Fast.tw7902290397412646773:=()
def PySem.W.Fast.tw7303077513388230392:=()
def PySem.W.Fast.tw4124069254337597824:=()
def PySem.W.Fast.tw126835806247300910:=()
def PySem.W.Fast.tw7634312638734754816:=()
def PySem.W.Fast.tw7090239107243830846:=()
def PySem.W.Fast.tw270217712181014644:=()
def PySem.W.Fast.tw14995158842850323536:=()
def PySem.W.Fast.tw16027394643846241802:=()
def PySem.W.Fast.tw13026494015914348081:=()
def PySem.W.Fast.tw4181552868474622709:=()
def PySem.W.Fast.tw14213076860683271500:=()
def PySem.W.Fast.tw6127451068366265998:=()
def PySem.W.Fast.tw7448996832045308092:=()
def PySem.W.Fast.tw2794564712875908373:=()
def PySem.W.Fast.tw9407868545986190327:=()
def PySem.W.Fast.tw12948805138741336597:=()
def PySem.W.Fast.tw12534830968760845393:=()
def PySem.W.Fast.tw2457589965695343577:=()
def PySem.W.Fast.tw3304587194613751022:=()
def PySem.W.Fast.tw5210291045157364669:=()
def PySem.W.Fast.tw12983641630741317050:=()
def PySem.W.Fast.tw16408980775666331693:=()
def PySem.W.Fast.tw3487889870002955576:=()
def PySem.W.Fast.tw2825807400905086800:=()
def PySem.W.Fast.tw6825756025024658685:=()
def PySem.W.Fast.tw2403788307918255268:=()
def PySem.W.Fast.tw6573009284534740586:=()
def PySem.W.Fast.tw10985888996482462901:=()
def PySem.W.Fast.tw14364691153767345152:=()
def PySem.W.Fast.tw3097778926876696510:=()
def PySem.W.Fast.tw15576821139003731783:=()
def PySem.W.Fast.tw7332346728141477922:=()
def PySem.W.Fast.tw1961400910883756553:=()
def PySem.W.Fast.tw23762983429933961:=()
def PySem.W.Fast.tw18392494408497934554:=()
def PySem.W.Fast.tw4602640496256916566:=()
def PySem.W.Fast.tw16186775141138009959:=()
def PySem.W.Fast.tw13274918037286460796:=()
def PySem.W.Fast.tw12896020669510673153:=()
def PySem.W.Fast.tw5946522625533117362:=()
def PySem.W.Fast.tw9635122485213187652:=()
def PySem.W.Fast.tw1956263775594902838:=()
def PySem.W.Fast.tw9229814231406441239:=()
def PySem.W.Fast.tw6742770953317627640:=()
def PySem.W.Fast.tw6279443873233045974:=()
def PySem.W.Fast.tw6019307831344448634:=()
def PySem.W.Fast.tw3529705689784243461:=()
def PySem.W.Fast.tw10250557490534312705:=()
def PySem.W.Fast.tw4408823103454981118:=()
def PySem.W.Fast.tw11004082865997705265:=()
def PySem.W.Fast.tw15370484424819128472:=()
def PySem.W.Fast.tw14614454104324063129:=()
def PySem.W.Fast.tw12857732371625842617:=()
def PySem.W.Fast.tw1965156821454930071:=()
def PySem.W.Fast.tw10865860935578590913:=()
def PySem.W.Fast.tw17797087786864882325:=()
def PySem.W.Fast.tw10382371084688816409:=()
def PySem.W.Fast.tw12164081264939979860:=()
def PySem.W.Fast.tw415191235953911796:=()
def PySem.W.Fast.tw4562808525348069358:=()
def PySem.W.Fast.tw17371152334037969873:=()
def PySem.W.Fast.tw17178759774477455170:=()
def PySem.W.Fast.tw8709476485923806841:=()
def PySem.W.Fast.tw15831548052724674469:=()
def PySem.W.Fast.tw4112784784991461972:=()
def PySem.W.Fast.tw10725191035308820431:=()
def PySem.W.Fast.tw9794023618187143356:=()
def PySem.W.Fast.tw8372446627077202143:=()
def PySem.W.Fast.tw5103596389731806393:=()
def PySem.W.Fast.tw14225735302330391394:=()
def PySem.W.Fast.tw10787768110322415917:=()
def PySem.W.Fast.tw1480753753007283250:=()
def PySem.W.Fast.tw14837724236861392491:=()
def PySem.W.Fast.tw16036682289769172123:=()
def PySem.W.Fast.tw12862716440639872857:=()
def PySem.W.Fast.tw3978454848253717164:=()
def PySem.W.Fast.tw10738877325266320015:=()
def PySem.W.Fast.tw4408307488420575272:=()
def PySem.W.Fast.tw6843479987659283862:=()
def PySem.W.Fast.tw3617247496279930494:=()
def PySem.W.Fast.tw14364032498951168406:=()
def PySem.W.Fast.tw6846091315520084778:=()
def PySem.W.Fast.tw16905642008718755570:=()
def PySem.W.Fast.tw3167254807214543156:=()
def PySem.W.Fast.tw14204961964295580524:=()
def PySem.W.Fast.tw14447654104130519598:=()
def PySem.W.Fast.tw13376458483139033990:=()
def PySem.W.Fast.tw15785321564068598926:=()
def PySem.W.Fast.tw4344452272914809638:=()
def PySem.W.Fast.tw316544998526227851:=()
def PySem.W.Fast.tw5873686089313714644:=()
set_option maxRecDepth 100000 in
set_option maxHeartbeats 0 in
theorem PySem.Challenge.cw_allfirst_k66_whole_deadlines_by_runs_holds : PySem.Challenge.rw_allfirst_k66_whole_deadlines_by_runs.Holds := by
 w_on;o_law;k_head;(case hw=>w_witness2)
 k_fill
 refine My.walk (l:=PySem.Challenge.rw_allfirst_k66_whole_deadlines_by_runs) rfl rfl (fun w h Y=>PySem.W.kIn_of Y) ?F
 case F =>
  intro w mg fa h KX G hmg;refine' My.all_mk KX G hmg ?d ?z ?dl ?a_TooMany ?q_TooMany ?l_Book ?l_Plan
  (case d =>
   repeat (apply L2.DL.dfs_cons;focus (refine' ⟨_,_,?a,L2.fun_mk ?l ?c ?k⟩;(case a=>k_is);(case l=>k_is);(case c=>k_is);(case k=>k_is)))
   exact True.intro)
  (case z =>
   repeat (apply L2.DL.nn_cons;focus k_is)
   exact True.intro)
  (case dl=>refine' ⟨_,_,?a,L2.fun_mk ?l ?c ?k⟩;(case a=>k_is);(case l=>k_is);(case c=>k_is);(case k=>k_is))
  (case a_TooMany=>k_is)
  (case q_TooMany=>k_exc)
  (case l_Book=>refine' ⟨_,_,_,?ua,⟨?up,?uh,?uo,?us⟩,List.forall_mem_cons.mpr ⟨?uf0,List.forall_mem_nil _⟩,⟨?um,?ui,?un,?ue⟩,L2.fun_mk ?ul ?uc ?uk⟩;(case ua=>k_is);(case ui=>k_is);(case ul=>k_is);(case uc=>k_is);(case uk=>k_is);(case up=>k_is);(case uh=>k_is);(case uo=>k_is);(case us=>k_is);(case um=>k_is);(case un=>k_is);(case ue=>k_is);(case uf0=>show PySem.W.findIn _ _ _=_;k_is))
  (case l_Plan=>refine' ⟨_,_,_,?ua,⟨?up,?uh,?uo,?us⟩,List.forall_mem_cons.mpr ⟨?uf0,List.forall_mem_cons.mpr ⟨?uf1,List.forall_mem_cons.mpr ⟨?uf2,List.forall_mem_nil _⟩⟩⟩,⟨?um,?ui,?un,?ue⟩,L2.fun_mk ?ul ?uc ?uk⟩;(case ua=>k_is);(case ui=>k_is);(case ul=>k_is);(case uc=>k_is);(case uk=>k_is);(case up=>k_is);(case uh=>k_is);(case uo=>k_is);(case us=>k_is);(case um=>k_is);(case un=>k_is);(case ue=>k_is);(case uf0=>show PySem.W.findIn _ _ _=_;k_is);(case uf1=>show PySem.W.findIn _ _ _=_;k_is);(case uf2=>show PySem.W.findIn _ _ _=_;k_is))
