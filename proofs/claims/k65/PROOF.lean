import PyProof.Rows.All
import Wide.All
import OpenK.AllK
import Wide.FinOn
import Lean
import PyProof.EqAt
import PyProof.EqKinds
import PyProof.TupleCall
import PyProof.P3Eq
import PyProof.NeData
import PySem.Challenge.RW_allfirst_k65_whole_two_plans_judged
set_option autoImplicit true
set_option relaxedAutoImplicit true
set_option Elab.async false
set_option linter.all false
set_option maxRecDepth 100000
open PySem PySem.Spec PyProof.Rows
theorem Zqi.{u} {α:Type u}{a b:α}(h:some a=some b):a=b:=Option.some.inj h
theorem Zqg.{u} {α:Type u}{l:List α}{i:Nat}(h:i<l.length):l[i]? = some l[i]:=List.getElem?_eq_getElem h
theorem Zqs.{u} {α:Type u}{a:α}{l:List α}:a∈a::l:=List.mem_cons_self
theorem Zqm.{u} {α:Type u}(y:α){a:α}{l:List α}(h:a∈l):a∈y::l:=List.mem_cons_of_mem y h
theorem Zql.{u,v} {α:Type u}{β:Type v}{l:List α}(f:α->β):(l.map f).length=l.length:=List.length_map f
abbrev Za:=@wpAny_bind
abbrev Zb:=@wpAny_pure
abbrev Zc:=@wpAny_mono
abbrev Zd:=@if_pos
abbrev Ze:=@if_neg
abbrev Zf:=@Nat.le_refl
abbrev Zg:=@Nat.lt_of_lt_of_le
abbrev Zh:=@Nat.le_trans
abbrev Zi:=@Nat.ne_of_lt
abbrev Zj:=@Bool.false_ne_true
abbrev Zk:=@Heap.lt_size
abbrev Zl:=@List.map_cons
abbrev Zm:=@List.size_toArray
abbrev Zn:=@absurd
abbrev Zo:=@decide_eq_false
abbrev Zp:=@decide_eq_true
abbrev Zq:=@Heap.get?_push_of_some
abbrev Zr:=@Heap.get?_push_size
abbrev Zs:=@iff_of_false
abbrev Zt:=@congrArg
abbrev Zu:=@List.length_cons
abbrev Zv:=@List.getElem?_map
abbrev Zw:=@List.map_map
abbrev Zx:=@List.getElem?_set_ne
abbrev Zy:=@Nat.lt_irrefl
abbrev Zz:=@Nat.le_of_lt
abbrev ZA:=@List.append_nil
abbrev ZB:=@List.length_range
abbrev ZC:=@List.length_nil
set_option maxHeartbeats 4000000
abbrev Ya:=PySem.Value->PySem.Shared->Prop
abbrev Yb:=List (PySem.Addr×PySem.Obj)
abbrev Yc:=List (Nat×Nat×Nat)
abbrev Yd:=Nat->Nat->Bool
abbrev Ye:=PySem.Str->Option PySem.Value
abbrev Yf:=List PySem.Value
abbrev Yg:=Option PySem.Value
abbrev Yh:=List Int
abbrev Yi:=Array Nat
abbrev Yj:=List Nat
abbrev Yk:=List PySem.Str
abbrev Yl:=List PySem.Addr
abbrev Ym:=List PySem.Expr
abbrev Yn:=Array PySem.Value
abbrev Yo:=@PyProof.Rows.wpS_bind
abbrev Yp:=@PyProof.Rows.wpS_pure
abbrev Yq:=@PyProof.Rows.wpS_mono
abbrev Yr:=@PyProof.Rows.wpS_forRange
abbrev Ys:=@beq_iff_eq
abbrev Yt:=@Unit.unit
abbrev Yu:=@Bool.eq_false_iff
abbrev Yv:=@Nat.lt_of_not_le
abbrev Yw:=@Nat.one_pos
abbrev Yx:=@Nat.le_of_eq
abbrev Yy:=@PySem.F.plainAttrs_list
abbrev Yz:=@PySem.F.slot_list_append
abbrev YA:=@PySem.F.type_list_append
abbrev YB:=PyProof.Rows.SortSt->Prop
abbrev YC:=PySem.Shared->Prop
abbrev YD:=PySem.SetTable
noncomputable section
local macro_rules | `(tactic| trivial) => `(tactic| first|exact .inl rfl|exact .inr rfl|assumption)
local macro_rules | `(()) => `(by first|lia|omega|(simp;done)|grind|simp_all)
local macro_rules | `(~~~$x) => `(some (.val $x))
abbrev Ua:=@Nat.zero_le
abbrev Ub:=@List.length_append
abbrev Uc:=@List.map_append
abbrev Ud:=@Bool.and_eq_true
abbrev Ue:=@Sum.inl
abbrev Uf:=@List.mem_of_getElem?
abbrev Ug:=@List.append_assoc
abbrev Uh:=@Nat.lt_trans
abbrev Ui:=@Nat.le_add_right
abbrev Uj:=@Array.size_map
abbrev Ul:=@Array.length_toList
abbrev Uo:=@Nat.le_of_lt_succ
abbrev Uq:=@List.getD_eq_getElem?_getD
abbrev Ur:=@List.drop_eq_getElem_cons
abbrev Us:=@Array.getElem?_eq_getElem
abbrev Ut:=@List.mem_append_right
abbrev Uu:=@List.length_singleton
abbrev Uv:=@List.take_of_length_le
abbrev Uw:=@List.length_take
abbrev Uy:=@Nat.ble
abbrev Uz:=@List.getElem_of_mem
abbrev UA:=@Nat.le_of_succ_le
abbrev UB:=@Bool.false_eq_true
abbrev UC:=@List.getElem_mem
abbrev UD:=@Nat.mod_lt
abbrev UE:=@Nat.lt_of_le_of_ne
abbrev UF:=@Nat.lt_succ_of_lt
abbrev UG:=@Nat.blt
abbrev UH:=@Nat.blt_eq
abbrev UI:=@List.mem_cons
abbrev UJ:=@Nat.ne_of_gt
abbrev UK:=@Nat.lt_succ_self
abbrev UL:=@Nat.lt_of_le_of_lt
abbrev UM:=@List.take_append_drop
abbrev UN:=@Nat.succ.inj
abbrev UO:=@Nat.ble_eq
abbrev UP:=@Sum.inr
abbrev UQ:=@List.getElem?_set_self
abbrev UR:=@Array.getElem?_map
abbrev US:=@Nat.not_lt_zero
abbrev UT:=@List.not_mem_nil
abbrev UU:=@List.all_eq_true
abbrev UV:=@Nat.mod_eq_of_lt
abbrev UW:=@Int.le_refl
abbrev UX:=@List.filterMap_cons
abbrev UY:=@Nat.lt_of_succ_lt
abbrev UZ:=@List.getElem?_append_left
abbrev U0:=@List.map_congr_left
abbrev U4:=@List.pairwise_map
abbrev U5:=@List.take_length
abbrev U6:=@List.replicate_succ
abbrev U7:=@List.foldl_cons
abbrev U8:=@Bool.or_eq_true
abbrev U9:=@Nat.sub_le
abbrev Va:=@Nat.exists_eq_add_of_le
abbrev Vb:=@Array.getElem?_toList
abbrev Vc:=@List.getElem?_append_right
abbrev Vd:=@List.length_set
abbrev Ve:=@List.drop_length
abbrev Vf:=@List.all_cons
abbrev Vg:=@Nat.succ_pos
abbrev Vh:=@Nat.lt_trichotomy
abbrev Vi:=@Bool.eq_iff_iff
abbrev Vj:=@List.flatten_cons
abbrev Vk:=@List.drop_eq_nil_of_le
abbrev Vl:=@Nat.min_eq_left
abbrev Vm:=@Array.ext'
abbrev Vn:=@Nat.le_succ_of_le
abbrev Vo:=@List.any_eq_true
abbrev Vp:=@Array.forIn_toList
abbrev Vq:=@List.foldl_append
abbrev Vr:=@List.getElem?_eq_none
abbrev Vs:=@Nat.lt_or_ge
abbrev Vt:=@List.zip_cons_cons
abbrev Vu:=@List.take_succ
abbrev Vv:=@Nat.add_sub_of_le
abbrev Vw:=@List.Perm.trans
abbrev Vx:=@Nat.succ_le_succ
abbrev Vy:=@List.Perm.refl
abbrev Vz:=@List.reverse_cons
abbrev VA:=@Nat.lt_of_add_lt_add_left
abbrev VB:=@List.nodup_nil
abbrev VC:=@Nat.eq_zero_or_pos
abbrev VD:=@Nat.mul_le_mul
abbrev VE:=@Int.toNat_natCast
abbrev VF:=@List.ext_getElem?
abbrev VG:=@List.length_filter_le
abbrev VH:=@List.mem_append_left
abbrev VI:=@Array.swapIfInBounds_def
abbrev VJ:=@List.pairwise_append
abbrev VL:=@Array.size_extract
abbrev VM:=@Nat.add_sub_cancel_left
abbrev VN:=@List.getElem_map
abbrev VO:=@Array.mem_toList_iff
abbrev VP:=@Array.getElem_mem
abbrev VQ:=@List.map_singleton
abbrev VR:=@List.getElem?_take_of_lt
abbrev VS:=@List.getElem?_zip_eq_some
abbrev VT:=@List.extract_eq_drop_take
abbrev VU:=@Nat.le_of_add_le_add_left
abbrev VV:=@Array.getElem?_eq_none
abbrev VW:=@List.pairwise_singleton
abbrev VX:=@Array.getD_eq_getD_getElem?
abbrev VY:=@List.Nodup.length_le_of_subset
abbrev Ja:=@List.mem_map
abbrev Jb:=@List.mem_append
abbrev Jc:=@List.mem_singleton
abbrev Jd:=@List.map_eq_nil_iff
abbrev Je:=@List.getElem?_eq_some_iff
abbrev Jf:=@Option.bind_eq_some_iff
abbrev Jg:=@List.mem_filter
abbrev Jh:=@List.mem_range
abbrev Ji:=@List.pairwise_cons
abbrev Jj:=@Option.map_eq_some_iff
abbrev Jk:=@List.pairwise_iff_getElem
abbrev Jl:=@List.nodup_cons
abbrev Jm:=@Nat.lt_succ_iff
abbrev Jn:=@List.mem_iff_getElem?
abbrev Jo:=@List.getElem?_eq_none_iff
abbrev Jp:=@Array.perm_iff_toList_perm
abbrev Jq:=@List.length_eq_zero_iff
abbrev Jr:=@List.mem_filterMap
abbrev Js:=@Option.isSome_iff_exists
abbrev Jt:=@Bool.and_eq_true_iff
abbrev Ju:=@List.mem_iff_getElem
abbrev Jv:=@Array.getElem?_eq_some_iff
abbrev Jw:=@List.find?_range_eq_none
abbrev Jx:=@List.append_eq_nil_iff
abbrev Jy:=List (Int×Int)
abbrev Jz:=List Jy
namespace L2
abbrev j6:=Sum Int Str
def WD:j6->Value->Bool
 | .inl k,v=>Value.isInt k v
 | .inr x,v=>Value.isStrOf x v
def mR (w:World):j6->Int
 | .inl k=>hashInt k
 | .inr x=>hashStr w x
def KL:∀{k:j6} {v:Value},WD k v=true->(∃i t,k=Ue i/\v=Value.int i t)\/(∃x t,k=UP x/\v=Value.str x t)
 | .inl i,v,h=>by
  obtain⟨t,e⟩:=Value.isInt_shape h;exact .inl ⟨i,t,rfl,e⟩
 | .inr x,v,h=>by
  obtain⟨t,e⟩:=Value.isStrOf_shape h;exact .inr ⟨x,t,rfl,e⟩
def Ei (i)(t):WD (.inl i) (.int i t)=true:=by simp[WD,Value.isInt]
def Mf (x)(t):WD (.inr x) (.str x t)=true:=by simp[WD,Value.isStrOf]
def Mg (a b):decide ((Ue a:j6)=Ue b)=(a == b):=()
def Mh (a b):decide ((UP a:j6)=UP b)=decide (a=b):=()
def Mi (a)(b):decide ((Ue a:j6)=UP b)=false:=rfl
def Mj (a)(b):decide ((UP a:j6)=Ue b)=false:=rfl
def Q0 (prog:Program)(w:World):PySem.KeyKind prog w j6 where
 is:=WD
 hash:=mR w
 inj:=λv a b g f=>by
  rcases KL g with ⟨i,t,rfl,rfl⟩|⟨x,t,rfl,rfl⟩
  .rcases KL f with ⟨j,u,rfl,e⟩|⟨y,u,rfl,e⟩
   .injection e with e1 _;rw[e1]
   .exact nomatch e
  .rcases KL f with ⟨j,u,rfl,e⟩|⟨y,u,rfl,e⟩
   .exact nomatch e
   .injection e with e1 _;rw[e1]
 byValue:=λk v h=>by
  rcases KL h with ⟨i,t,rfl,rfl⟩|⟨x,t,rfl,rfl⟩<;>rfl
 pyHash:=λc h=>by
  rcases KL c with ⟨i,t,rfl,rfl⟩|⟨x,t,rfl,rfl⟩
  .exact wpAny_pyHash_int h
  .exact wpAny_pyHash_str h
 eqBool:=λl c h=>by
  rcases KL l with ⟨i,t,rfl,rfl⟩|⟨x,t,rfl,rfl⟩
  .rcases KL c with ⟨j,u,rfl,rfl⟩|⟨y,u,rfl,rfl⟩
   .rw[Mg] at h;exact wpAny_eqBool_int h
   .rw[Mi] at h;exact SeqAt.EqAt.int_str i t y u _ _ _ _ h
  .rcases KL c with ⟨j,u,rfl,rfl⟩|⟨y,u,rfl,rfl⟩
   .rw[Mj] at h;exact SeqAt.EqAt.str_int x t j u _ _ _ _ h
   .rw[Mh] at h;exact wpAny_eqBool_str h
 «strs»:=λk x t v h=>by
  rcases KL h with ⟨i,u,rfl,e⟩|⟨y,u,rfl,e⟩
  .exact nomatch e
  .injection e with e1 _
   subst e1;cases v<;>rfl
def Ml (prog)(w)(i)(t):(Q0 prog w).is (.inl i) (.int i t)=true:=Ei i t
def Mm (prog)(w)(x)(t):(Q0 prog w).is (.inr x) (.str x t)=true:=Mf x t
inductive V where
 |non|bl (b:Bool)|int (i:Int)|str (x:Str)|byt (b:Array UInt8)|flt (b:UInt64)|ref (a:Addr)|ty (n:String)
 deriving DecidableEq
abbrev _root_.YE:=List V
abbrev _root_.YF:=Option V
def jy:V->Value->Prop
 | .non,u=>u=Value.none
 | .bl b,u=>u=Value.bool b
 | .int i,u=>∃t,u=Value.int i t
 | .str x,u=>∃t,u=Value.str x t
 | .byt b,u=>∃t,u=Value.bytes b t
 | .flt b,u=>∃t,u=Value.float b t
 | .ref a,u=>u=Value.ref a
 | .ty n,u=>u=Value.type n
abbrev jq:YE->List Value->Prop:=Paired jy
theorem jq.length {a:YE}{b:Yf}(r:jq a b):a.length=b.length:=Paired.length r
theorem jq.get:∀{a:YE} {b:Yf} {i:Nat} {x:V},jq a b->a[i]? = some x->∃u,b[i]? = some u/\jy x u
 |_,_,_,_,.nil,e=>by simp at e
 |_,_,0,_,.cons r _,e=>by simp_all
 |_,_,i+1,x,.cons _ t,e=>by
  obtain⟨u,c,f⟩:=jq.get t (by simpa using e)
  simp_all
theorem jq.set {x:V}{u:Value}(r:jy x u):∀{a:YE} {b:Yf} i,jq a b->jq (a.set i x) (b.set i u)
 |_,_,_,.nil=>.nil
 |_,_,0,.cons _ t=>.cons r t
 |_,_,i+1,.cons q t=>.cons q (jq.set r i t)
def jq.append:∀{a ys:YE} {b c:Yf},jq a b->jq ys c->jq (a++ys) (b++c):=λh s=>by
 induction h with
 |nil=>exact s
 |cons r _ e=>exact .cons r e
def jq.none_of:∀{a:YE} {b:Yf} {i:Nat},jq a b->a[i]? = none->b[i]? = none:=λ{a b i} r e=>by
 have c:=r.length
 simp_all
def xm:YF->Option Value->Prop
 |some v,some u=>jy v u
 |none,none=>True
 |_,_=>False
def KV {κ: Type}:List (κ × V)->List (κ × Value)->Prop:=Paired λ(p:κ × V) (q:κ × Value)=>p.1=q.1/\jy p.2 q.2
def kV:j6->V
 | .inl i=>.int i
 | .inr x=>.str x
inductive HO where
 |lst (xs:YE)
 |tup (xs:YE)
 |dK (kvs:List (j6×V))|dT (kvs:List (List j6×V))
 |set (S:Int->Bool) (n:Nat)
 |ins (C dx:Addr) (fs:List (Str×V))
 |own (x:Addr)
 |xd (fs:List (Str×V))
 |met (f x:Addr)
 |rng (lo hi:Int)
 |frz (o:Obj) (u:HO)
 |tbl (ps:Yn)
 |ext (φ: Heap->Prop)
abbrev Hp:=Addr->Option HO
def upd (H:Hp)(a:Addr)(o:HO):Hp:=λb=>if b=a then some o else H b
def JK {H:Hp}{a:Addr}{o:HO}:upd H a o a=some o:=by simp_all [upd]
def JG {H:Hp}{a b:Addr}{o:HO}(h:b≠a):upd H a o b=H b:=by simp_all [upd]
def Kb {H:Hp}{a b:Addr}{o:HO}(h:H a=some o)(h':H b=none):a≠b:=()
section
variable (P:Program)(w:World)
def xL (H:Hp)(h:Heap)(a:Addr):HO->Prop
 | .lst b=>b.length<=sizeLine/\∃(its:Yf) (n:Nat),jq b its/\h.get? a=some { cls:=.type "list",data:=.seq its.toArray n }
 | .tup b=>(b.length<=sizeLine/\∃o,h.get? a=some o/\o.dict=none)/\∃its:Yf,jq b its/\IsTup h a its.toArray
 | .dK kvs=>kvs.length<=sizeLine/\(a == sysModules)=false/\∃c,KV kvs c/\h.DictOf (Q0 P w) a c
 | .dT kvs=>kvs.length<=sizeLine/\(a == sysModules)=false/\∃b:List (List j6×Addr×Value),
  Paired (λ(p:List j6×V) (q:List j6×Addr×Value)=>p.1=q.1/\H q.2.1=some (.tup (p.1.map kV))/\jy p.2 q.2.2) kvs b /\
  ∃o es ep,h.get? a=some o/\o.ExactDict/\o.data=.dict es ep/\es.toList=b.map (entryOfKey (tupleKind (Q0 P w)))/\(b.map (·.1)).Nodup
 | .set S n=>h.SetOf (intKind P w) a S n
 | .ins C dx fs=>H dx=some (.own a)/\fs.length<=1000/\dx≠a/\h.get? a=some (W.instObj C dx) /\
  ∃mA,h.Ns1 dx mA/\(∀f,xm (fs.lookup f) (mA f))/\PySem.Within mA (fs.map (·.1))
 | .own _=>∃o,h.get? a=some o
 | .xd fs=>∃mA,h.Ns1 a mA/\∀f,xm (fs.lookup f) (mA f)
 | .rng lo hi=>∃t u v,h.get? a=some { cls:=.type "range",data:=.fields #[.int lo t,.int hi u,.int 1 v] }
 | .frz o u=>h.get? a=some o/\xL H h a u
 | .tbl ps=>h.get? a=some { cls:=.none,data:=.fields ps }
 | .met f x=>h.get? a=some (W.methodObj (.ref f) (.ref x))
 | .ext φ => φ h/\(∃o,h.get? a=some o)/\∀e g:Heap,φ e->(∀o,e.get? a=some o->g.get? a=some o) -> φ g
def qP (H:Hp)(h:Heap):Prop:=∀a o,H a=some o->xL P w H h a o
end
section
variable {P:Program}{w:World}{H H':Hp}{h h':Heap}{a:Addr}{o:HO}
theorem xL.lt (x:xL P w H h a o):a<h.objs.size:=by
 cases o with
 |lst c=>obtain⟨_,_,_,_,e⟩:=x;exact Zk e
 |tup c=>obtain⟨_,_,_,p⟩:=x;exact p.lt
 |dK b=>obtain⟨_,_,_,_,o,_,_,e,_⟩:=x;exact Zk e
 |dT b=>obtain⟨_,_,_,_,o,_,_,e,_⟩:=x;exact Zk e
 |set S n=>obtain⟨o,_,_,_,e,_⟩:=x;exact Zk e
 |ins C g fs=>exact Zk x.2.2.2.1
 |own y=>obtain⟨_,e⟩:=x;exact Zk e
 |xd fs=>obtain⟨_,⟨_,_,_,e,_⟩,_⟩:=x;exact Zk e
 |rng lo i=>obtain⟨_,_,_,e⟩:=x;exact Zk e
 |frz j u=>exact Zk x.1
 |tbl ps=>exact Zk (x)
 |met f y=>exact Zk (x)
 |ext φ => obtain⟨_,⟨_,e⟩,_⟩:=x;exact Zk e
def xB {α β: Type}{F G:α -> β -> Prop}:∀{l₁:List α} {l₂:List β},Paired F l₁ l₂->(∀a b,F a b->G a b)->Paired G l₁ l₂:=λh f=>by
 induction h with
 |nil=>exact .nil
 |cons r _ c=>exact .cons (f _ _ r) c
def xL.stay (x:xL P w H h a o)(k:∀b u,(b=a\/H b=some (.own a))->h.get? b=some u->h'.get? b=some u)
 (m:∀b,H b=some (.own a)->H' b=some (.own a)) (E:∀b i,H b=some (.tup i)->H' b=some (.tup i)):xL P w H' h' a o:=by
 induction o with
 |lst i=>obtain⟨z,its,n,r,e⟩:=x;exact⟨z,its,n,r,k _ _ (.inl rfl) e⟩
 |tup i=>obtain⟨⟨z,j,F,dd⟩,its,r,g,e,c⟩:=x;exact⟨(),its,r,g,k _ _ (.inl rfl) e,c⟩
 |dK l=>have ⟨z,y,s,r,g,es,ep,e,c⟩:=x;exact⟨z,y,s,r,g,es,ep,k _ _ (.inl rfl) e,c⟩
 |dT l =>
  obtain⟨z,y,i,r,g,es,ep,e,c⟩:=x;exact⟨z,y,i,xB r (),g,es,ep,k _ _ (.inl rfl) e,c⟩
 |set S n=>have ⟨g,es,ep,t,e,c⟩:=x;exact⟨g,es,ep,t,k _ _ (.inl rfl) e,c⟩
 |ins C G fs =>
  obtain⟨d,z,ne,e,mA,⟨j,es,ep,A,c⟩,r⟩:=x;exact⟨m _ d,z,ne,k _ _ (.inl rfl) e,mA,⟨j,es,ep,k _ _ (.inr d) A,c⟩,r⟩
 |own y=>have ⟨g,e⟩:=x;exact⟨g,k _ _ (.inl rfl) e⟩
 |xd fs=>obtain⟨mA,⟨j,es,ep,e,c⟩,r⟩:=x;exact⟨mA,⟨j,es,ep,k _ _ (.inl rfl) e,c⟩,r⟩
 |rng lo I=>have ⟨t,u,v,e⟩:=x;exact⟨t,u,v,k _ _ (.inl rfl) e⟩
 |frz g u B=>exact⟨k _ _ (.inl rfl) x.1,B x.2⟩
 |tbl ps =>
  exact k a _ (.inl rfl) x
 |met f y =>
  exact k a _ (.inl rfl) x
 |ext φ => have ⟨p,⟨o,e⟩,st⟩:=x;exact⟨st _ _ p λo q=>k _ _ (.inl rfl) q,⟨o,k _ _ (.inl rfl) e⟩,st⟩
theorem qP.lt (x:qP P w H h)(e:H a=some o):a<h.objs.size:=(x a o e).lt
def qP.fresh (x:qP P w H h)(e:h.objs.size<=a):H a=none:=by
 cases q:H a with
 |none=>rfl
 |some u=>exact Zn (Zg (x.lt q) e) (Zy _)
def qP.kept (x:qP P w H h)(k:∀b u,h.get? b=some u->h'.get? b=some u):qP P w H h':=λa o e =>
 (x a o e).stay () (λ_ q=>q) λ_ _ q=>q
def qP.laid (x:qP P w H h)(k:∀b u,h.get? b=some u->h'.get? b=some u)(hp:h.objs.size<=a)(new:xL P w (upd H a o) h' a o):qP P w (upd H a o) h':=λb u e=>by
 have f:=x.fresh hp;by_cases g:b=a
 .simp_all [JK]
 .rw[JG g] at e;exact(x b u e).stay () (λc q=>by rwa [JG (Kb q f)]) λc i q=>by rwa [JG (Kb q f)]
end
def Rd (H:Hp)(a:Addr)(u:HO):Prop:=H a=some u\/∃o,H a=some (.frz o u)
def Rd.ok {P:Program}{w:World}{H:Hp}{h:Heap}{a:Addr}{u:HO}(r:Rd H a u)(x:qP P w H h):xL P w H h a u:=by
 rcases r with r|⟨o,r⟩
 .exact x a u r
 .obtain⟨_,q⟩:=x a _ r;exact q
def fL:Option HO->Prop
 |some (.lst _)=>True
 |some (.dK _)=>True
 |some (.dT _)=>True
 |some (.set _ _)=>True
 |some (.ins _ _ _)=>True
 |some (.ext _)=>True
 |_=>False
section
variable {P:Program}{w:World}{H:Hp}{h h':Heap}{x e:Addr}{o':HO}
def qP.write (ok:qP P w H h)(l:fL (H x))(o:e=x\/H e=some (.own x))(k:∀b u,b≠e->h.get? b=some u->h'.get? b=some u)(i:∃u,h'.get? e=some u)
 (new:xL P w (upd H x o') h' x o'):qP P w (upd H x o') h':=λb u q=>by
 have a:∀c y,H c=some (.own y)->c≠x:=λc y r z=>by subst z;rwa [r] at l
 have f:∀c g,H c=some (.tup g)->c≠x:=λc g r z=>by subst z;rwa [r] at l
 by_cases n:b=x
 .simp_all [JK]
 .rw[JG n] at q;by_cases j:b=e
  .have m:H b=some (.own x):=by
    simp_all
   rw[q] at m;cases m;obtain⟨v,p⟩:=i;exact⟨v,by rwa [j]⟩
  .refine(ok b u q).stay (λc v s r=>k c v ?_ r) (λc r=>by rwa [JG (a c b r)]) λc g r=>by rwa [JG (f c g r)]
   grind
end
structure Un (fs ex:Yl)(H H':Hp)(h h':Heap):Prop where
 keep:∀b o,h.get? b=some o->H b=none->b∉fs->b∉ex->h'.get? b=some o
 slot:∀b o,h.get? b=some o->H b=none->b∈fs->b∉ex->∃sl,h'.get? b=some { o with slots:=sl }
 free:∀b o,h.get? b=some o->H b=none->b∉ex->H' b=none
 there:∀b o,h.get? b=some o->b∉ex->∃o',h'.get? b=some o'
 tups:∀b xs,H b=some (.tup xs)->H' b=some (.tup xs)
 frzs:∀b o u,H b=some (.frz o u)->H' b=some (.frz o u)
 tbls:∀b ps,H b=some (.tbl ps)->∃more,H' b=some (.tbl (ps++more))
section
variable {fs fs' ex ex':Yl}{H H1 H2:Hp}{h h1 h2 h':Heap}{a x e:Addr}{o:HO}
def Un.any (u:Un fs ex H H1 h h1){b:Addr}{c:Obj}(q:h.get? b=some c)(n:H b=none)(f:b∉ex):∃i,h1.get? b=some { c with slots:=i }:=by
 by_cases g:b∈fs
 .exact u.slot b c q n g f
 .exact⟨c.slots,u.keep b c q n g f⟩
def Un.kept (k:∀b u,h.get? b=some u->h'.get? b=some u):Un fs ex H H h h':=
 ⟨(),λb c q _ _ _=>⟨c.slots,k b c q⟩,λ_ _ _ n _=>n,(),λ_ _ q=>q,λ_ _ _ q=>q,λ_ ps q=>⟨#[],by rw[q];simp⟩⟩
theorem Un.refl:Un fs ex H H h h:=Un.kept λ_ _ q=>q
def Un.laid (k:∀b u,h.get? b=some u->h'.get? b=some u)(hp:h.objs.size<=a)(c:H a=none):Un fs ex H (upd H a o) h h' where
 keep:=by grind
 slot:=λb u q _ _ _=>⟨u.slots,k b u q⟩
 free:=λb u q n _=>by rwa [JG (Zi (Zg (Zk q) hp))]
 there:=by grind
 tups:=λb f q=>by rwa [JG (Kb q c)]
 frzs:=λb u f q=>by rwa [JG (Kb q c)]
 tbls:=λb ps q=>⟨#[],by rw[JG (Kb q c),q];simp⟩
def Un.write (f:fL (H x))(m:e=x\/H e=some (.own x))(k:∀b u,b≠e->h.get? b=some u->h'.get? b=some u)(g:∃u,h'.get? e=some u):Un fs ex H (upd H x o) h h':=by
 have i:∀b,H b=none->b≠x:=λb n z=>by subst z;rwa [n] at f
 have j:∀b,H b=none->b≠e:=by grind
 have c:∀b u,H b=some u->¬fL (some u)->b≠x:=by grind
 refine⟨(),λb u q n _ _=>⟨u.slots,k b u (j b n) q⟩,λb u q n _=>by rwa [JG (i b n)],λb u q _=>?_,
  λb l q=>by rwa [JG (c b _ q λz=>z)],λb u l q=>by rwa [JG (c b _ q λz=>z)],λb ps q=>⟨#[],by rw[JG (c b _ q λz=>z),q];simp⟩⟩
 grind
end
def trk (h:Heap)(H:Hp):Yl:=(List.range h.objs.size).filter λa=>(H a).isSome
def yi (h:Heap)(H:Hp):Heap:=W.hideAll h (trk h H)
def Mn (h)(H):(yi h H).objs.size=h.objs.size:=W.hideAll_size _ _
def Mo {h:Heap}{H:Hp}{b:Addr}{o:Obj}(e:h.get? b=some o)(n:H b=none):(yi h H).get? b=some o:=
 W.hideAll_get _ e λa=>by
  have q:=(Jg.mp a).2
  simp_all
def Mp {h:Heap}{H:Hp}{b:Addr}{o:Obj}(e:(yi h H).get? b=some o):h.get? b=some o/\H b=none:=by
 have a:=W.of_hideAll (trk h H) e;refine⟨a,?_⟩;cases q:H b with
 |none=>rfl
 |some x =>
  have c:b∈trk h H:=Jg.mpr ⟨Jh.mpr (Zk a),by simp[q]⟩;have z:(yi h H).get? b=none:=W.hideAll_none (trk h H) c
  simp_all
structure Mod (K:W.Frag)(mg:Ye)(base:Heap):Prop where
 kin:K.In base
 glob:base.Ns mainGlobals mg
 blt:∃mb,base.Ns builtinsNs mb/\∀x:Str,x ≠ "__name__" -> mb x=bootBuiltins x
 nolimit:base.NoLimit
structure Cx where
 prog:Program
 w:World
 K:W.Frag
 mg:Ye
 base:Heap
 A:Around
 N:Yk
 s₀:Shared
 H₀:Hp
 env:Env
 outer:List Env
 stack:List Env
 ex:Yl
 fn:Str->Bool
 calm:Bool
 pn:Yb
 xe:Ya
abbrev _root_.YI(X:Cx){α:Type}(m:Sem α):=wpAny (model X.prog X.w) X.A m
abbrev _root_.YJ(P:Program)(w:World)(A:Around){α:Type}(m:Sem α):=wpAny (model P w) A m
abbrev _root_.YK(P:Program)(w:World)(A:Around)(E:Value->Shared->Prop)(s:Shared){α:Type}(m:StateT PyProof.Rows.SortSt Sem α):=PyProof.Rows.wpS (model P w) A E s m
def xh (l:List Env):Yl:=l.filterMap (·.frame)
abbrev Cx.fs (X:Cx):Yl:=xh X.outer
def bK (a:Scope)(x:Str):Prop:=a.names.lookup x=some .local\/a.names.lookup x=some .cell\/a.names.lookup x=some .free
def yR (a:Scope)(x:Str):Prop:=a.names.lookup x=some .local\/a.names.lookup x=some .cell
def rh (env:Env)(h:Heap)(m:Ye)(x:Str)(u:Value):Prop:=
 (env.kindOf x=some .local/\m x=some u)\/((env.kindOf x=some .cell\/env.kindOf x=some .free)/\∃c,env.cells.lookup x=some c/\h.IsCell c (some u))
structure Cx.Ok (X:Cx):Prop where
 mod:Mod X.K X.mg X.base
 kind:X.env.scope.kind=.function
 glob:X.env.globals=mainGlobals
 blt:X.env.builtins=builtinsNs
 above:X.s₀.heap.objs.size<=X.env.locals
 inj:∀x y c,X.env.cells.lookup x=some c->X.env.cells.lookup y=some c->x=y
 has:∀x,(X.env.kindOf x=some .cell\/X.env.kindOf x=some .free)->∃c,X.env.cells.lookup x=some c
 cab:∀x c,X.fn x=true->X.env.cells.lookup x=some c->X.s₀.heap.objs.size<=c
 hd:X.calm=true->X.A.handled=none
 frames:X.A.frames=some X.stack
 stk:X.stack=X.outer\/(X.stack=X.env::X.outer/\X.env.frame=some X.env.locals)
 exf:∀b∈X.ex,b≠X.env.locals/\∀x c,X.env.cells.lookup x=some c->c≠b
 bs:∀b o,X.base.get? b=some o->X.s₀.heap.get? b=some o/\X.H₀ b=none
 bsz:X.base.objs.size<=X.s₀.heap.objs.size
 noex:∀b o,X.base.get? b=some o->b∉X.ex
 exfs:∀b∈X.ex,b∉X.fs
 funs:X.s₀.heap.FunFrames X.base X.outer
 frf:∀b∈X.fs,X.H₀ b=none
structure Inv (X:Cx)(Y:Yb)(Z: List YF)(H:Hp)(s:Shared):Prop where
 ok:X.Ok
 os:s.os=X.s₀.os
 bare:AllBare s.gens
 base:Un X.fs X.ex X.H₀ H X.s₀.heap s.heap
 loc:∃m,s.heap.Ns X.env.locals m/\∀(i:Nat) (x:Str) (v:V),X.N[i]? = some x -> Z[i]? = some (some v)->bK X.env.scope x->∃u,jy v u/\rh X.env s.heap m x u
 cell:∀x c,X.env.cells.lookup x=some c->∃v,s.heap.IsCell c v
 free:H X.env.locals=none
 freeC:∀x c,X.env.cells.lookup x=some c->H c=none
 pin:∀p∈X.pn++Y,s.heap.get? p.1=some p.2/\H p.1=none/\p.1≠X.env.locals/\p.1∉X.fs/\∀v,p.2.data ≠ .cell v
 hok:qP X.prog X.w H s.heap
 len:Z.length=X.N.length
section
variable {X:Cx}{Y:Yb}{Z: List YF}{H H':Hp}{s:Shared}{h':Heap}
def Cx.Ok.nofr (ok:X.Ok){b:Addr}{o:Obj}(e:X.base.get? b=some o):b∉X.fs:=λa=>by
 have:=(ok.funs.mem a).1
 simp_all
theorem Inv.bs (I:Inv X Y Z H s):∀b o,X.base.get? b=some o->s.heap.get? b=some o/\H b=none:=λb o e =>
 ⟨I.base.keep b o (I.ok.bs b o e).1 (I.ok.bs b o e).2 (I.ok.nofr e) (I.ok.noex b o e),I.base.free b o (I.ok.bs b o e).1 (I.ok.bs b o e).2 (I.ok.noex b o e)⟩
def Inv.bk (I:Inv X Y Z H s):∀b o,X.base.get? b=some o->s.heap.get? b=some o:=λb o e=>(I.bs b o e).1
theorem Inv.mod (I:Inv X Y Z H s):Mod X.K X.mg X.base:=I.ok.mod
def Inv.kIn (I:Inv X Y Z H s):X.K.In s.heap:=I.ok.mod.kin.keeps I.bk
theorem Inv.lt (I:Inv X Y Z H s):X.env.locals<s.heap.objs.size:=let ⟨_,hn,_⟩:=I.loc;hn.lt
theorem Inv.sz (I:Inv X Y Z H s):X.s₀.heap.objs.size<=s.heap.objs.size:=Zh I.ok.above (Zz I.lt)
def Inv.nofs (I:Inv X Y Z H s){a:Addr}(h:s.heap.objs.size<=a):a∉X.fs:=λb=>by
 obtain⟨_,o,c,_⟩:=I.ok.funs.mem b;exact Zn (Zg (Zk c) (Zh I.sz h)) (Zy _)
def Inv.cne (I:Inv X Y Z H s):∀x c,X.env.cells.lookup x=some c->c≠X.env.locals:=λx c e z=>by
 obtain⟨v,o,f,g⟩:=I.cell x c e;obtain⟨m,⟨h,es,ep,a,b,_⟩,_⟩:=I.loc
 simp_all
theorem Inv.funs (I:Inv X Y Z H s):s.heap.FunFrames X.base X.outer:=by
 have all:∀l,(∀b∈xh l,b∈X.fs)->X.s₀.heap.FunFrames X.base l->s.heap.FunFrames X.base l:=by
  intro l
  induction l with
  |nil=>intro _ _;trivial
  |cons env r f =>
   intro hs g;obtain⟨h,⟨L,o,i,j,m,n⟩,p⟩:=g;have a:L∈X.fs:=hs L (by simp_all [xh,UX]);obtain⟨q,e⟩:=I.base.slot L o m (I.ok.frf L a) a λz=>I.ok.exfs L z a;exact⟨h,⟨L,_,i,j,e,n⟩,f (λb c=>hs b (by simp_all [xh,UX])) p⟩
 exact all X.outer (λ_ c=>c) I.ok.funs
theorem Inv.stack (I:Inv X Y Z H s):s.heap.FunFrames X.base X.stack:=by
 rcases I.ok.stk with e|⟨e,hf⟩
 .rw[e];exact I.funs
 .rw[e];have ⟨m,a,_⟩:=I.loc;exact .cons (by rw[I.ok.kind];decide) hf a (Heap.get?_none_of_le (Zh I.ok.bsz I.ok.above)) I.funs
def Inv.stkSub (I:Inv X Y Z H s):∀b∈xh X.stack,b∈X.env.locals::X.fs:=λb a=>by
 rcases I.ok.stk with e|⟨e,hf⟩
 .simp_all
 simp_all [xh]
def Inv.stkFree (I:Inv X Y Z H s):∀b∈xh X.stack,H b=none:=λb hb=>by
 rcases UI.mp (I.stkSub b hb) with e|hb
 .rw[e];exact I.free
 .obtain⟨_,o,a,_⟩:=I.ok.funs.mem hb;exact I.base.free b o a (I.ok.frf b hb) λz=>I.ok.exfs b z hb
def Inv.step {g':Array GenState}{t':Nat}{d':Drawn}{ch:Yl}(I:Inv X Y Z H s)
 (y:∀b∈ch,(b∈X.ex\/X.s₀.heap.objs.size<=b)/\b≠X.env.locals/\(∀x c,X.env.cells.lookup x=some c->c≠b)/\∀p∈X.pn++Y,p.1≠b)
 (keep:∀b o,b≠X.env.locals->b∉X.fs->b∉ch->s.heap.get? b=some o->H b=none->h'.get? b=some o)
 (j:∀b o,b≠X.env.locals->b∈X.fs->b∉ch->s.heap.get? b=some o->H b=none->∃K,h'.get? b=some { o with slots:=K }) (free:∀b o,b∉ch->s.heap.get? b=some o->H b=none->H' b=none)
 (A:∀b o,b∉ch->s.heap.get? b=some o->∃E,h'.get? b=some E)
 (F:∀b t,H b=some (.tup t)->H' b=some (.tup t)) (G:∀b o u,H b=some (.frz o u)->H' b=some (.frz o u)) (P:∀b ps,H b=some (.tbl ps)->∃more,H' b=some (.tbl (ps++more)))
 (ns:∀m,s.heap.Ns X.env.locals m->h'.Ns X.env.locals m) (L:qP X.prog X.w H' h') (S:AllBare g'):
 Inv X Y Z H' { s with heap:=h',gens:=g',drawn:=d',toks:=t' }:=by
 have J:∀b o,X.s₀.heap.get? b=some o->b≠X.env.locals:=λb o e=>Zi (Zg (Zk e) I.ok.above);have h:∀b o,X.s₀.heap.get? b=some o->b∉X.ex->b∉ch:=λb o e a B=>by
  rcases(y b B).1 with z|z
  .exact a z
  .exact Zn (Zg (Zk e) z) (Zy _)
 have f:∀x c,X.env.cells.lookup x=some c->∀v,s.heap.IsCell c v->h'.IsCell c v:=λx c e v T=>by
  obtain⟨o,C,M⟩:=T;have g:c∉ch:=by grind
  by_cases Q:c∈X.fs
  .obtain⟨K,q⟩:=j c o (I.cne x c e) Q g C (I.freeC x c e);exact⟨_,q,M⟩
  .exact⟨o,keep c o (I.cne x c e) Q g C (I.freeC x c e),M⟩
 refine⟨I.ok,I.os,S,⟨λb o e n B a=>?_,λb o e n B a=>?_,λb o e n a=>?_,λb o e a=>?_,λb t e=>F b t (I.base.tups b t e),λb o t e=>G b o t (I.base.frzs b o t e),λb ps e=>?_⟩,?_,λx c e=>?_,?_,λx c e=>?_,λp hp=>?_,L,I.len⟩
 .exact keep b o (J b o e) B (h b o e a) (I.base.keep b o e n B a) (I.base.free b o e n a)
 .obtain⟨K,w⟩:=I.base.slot b o e n B a;obtain⟨N,O⟩:=j b _ (J b o e) B (h b o e a) w (I.base.free b o e n a);exact⟨N,O⟩
 .obtain⟨E,w⟩:=I.base.there b o e a;exact free b E (h b o e a) w (I.base.free b o e n a)
 .obtain⟨E,w⟩:=I.base.there b o e a;exact A b E (h b o e a) w
 .obtain⟨m1,w⟩:=I.base.tbls b ps e
  grind
 .obtain⟨m,U,hl⟩:=I.loc;refine⟨m,ns m U,λi x v w O e3=>?_⟩;obtain⟨u,r,l⟩:=hl i x v w O e3;refine⟨u,r,?_⟩;rcases l with l|⟨k,c,e,z⟩
  .exact .inl l
  .exact .inr ⟨k,c,e,f x c e _ z⟩
 .obtain⟨v,z⟩:=I.cell x c e;exact⟨v,f x c e v z⟩
 .obtain⟨m,⟨o,_,_,C,_⟩,_⟩:=I.loc;exact free _ o (λz=>(y _ z).2.1 rfl) C I.free
 .obtain⟨v,o,C,M⟩:=I.cell x c e;exact free c o () C (I.freeC x c e)
 .obtain⟨e,n,ne,R,d⟩:=I.pin p hp;have g:=λz=>(y p.1 z).2.2.2 p hp rfl;exact⟨keep p.1 p.2 ne R g e n,free p.1 p.2 g e n,ne,R,d⟩
def Inv.un {t':Nat}(I:Inv X Y Z H s)(u:Un X.fs [] H H' s.heap h')(c:qP X.prog X.w H' h'):Inv X Y Z H' { s with heap:=h',toks:=t' }:=have ⟨m,⟨o,es,ep,h,r⟩,_⟩:=id I.loc;have ⟨p,i⟩:=u.any h I.free ();I.step (ch:=[]) () (λb o _ f _ e n=>u.keep b o e n f ()) (λb o _ f _ e n=>u.slot b o e n f ()) (λb o _ e n=>u.free b o e n ()) (λb o _ e=>u.there b o e ()) u.tups u.frzs u.tbls (λq j=>by
 obtain⟨t,es',g,a,l⟩:=j;rw[h] at a;cases a;exact⟨_,es',g,i,l⟩) c I.bare
def Inv.call {g':Array GenState}{t':Nat}{d':Drawn}{ch:Yl}(I:Inv X Y Z H s)(u:Un (xh X.stack) ch H H' s.heap h')(g:qP X.prog X.w H' h')(q:AllBare g')
 (h:∀b∈ch,(b∈X.ex\/X.s₀.heap.objs.size<=b)/\b≠X.env.locals/\(∀x c,X.env.cells.lookup x=some c->c≠b)/\∀p∈X.pn++Y,p.1≠b):
 Inv X Y Z H' { s with heap:=h',gens:=g',drawn:=d',toks:=t' }:=have ⟨m,⟨o,es,ep,l,r⟩,_⟩:=id I.loc;have ⟨y,i⟩:=u.any l I.free ();I.step h (λb o i t a e n=>u.keep b o e n (λz=>(UI.mp (I.stkSub b z)).elim i t) a) (λb o _ _ a e n=>u.any e n a) (λb o a e n=>u.free b o e n a) (λb o a e=>u.there b o e a) u.tups u.frzs u.tbls (λA v=>by
 obtain⟨B,es',j,f,w⟩:=v;rw[l] at f;cases f;exact⟨_,es',j,i,w⟩) g q
def Inv.turned {t':Nat}{it:Addr}(I:Inv X Y Z H s)(k:∀b o,b≠it->s.heap.get? b=some o->h'.get? b=some o)(i:H it=none)(f:it≠X.env.locals)
 (j:it∈X.ex\/X.s₀.heap.objs.size<=it) (l:∀x c,X.env.cells.lookup x=some c->c≠it) (t:∀p∈X.pn++Y,p.1≠it):Inv X Y Z H { s with heap:=h',toks:=t' }:=by
 refine I.step (ch:=[it]) (λb w=>?_) () (λb o _ _ a e _=>⟨o.slots,k b o (λz=>a (by simp[z])) e⟩) (λ_ _ _ _ n=>n)
  () (λ_ _ e=>e) (λ_ _ _ e=>e) (λb ps e=>⟨#[],by rw[e];simp⟩) (λm g=>?_) (λb u e=>?_) I.bare
 .grind
 .have ⟨o,es,ep,h,r⟩:=g;exact⟨o,es,ep,k _ o (Ne.symm f) h,r⟩
 .refine(I.hok b u e).stay (λc v a q=>k c v ?_ q) (λ_ q=>q) λ_ _ q=>q
  grind
def Inv.tok (I:Inv X Y Z H s)(t):Inv X Y Z H { s with toks:=t }:=I.un Un.refl I.hok
theorem Inv.kept {t':Nat}(I:Inv X Y Z H s)(k:∀b u,s.heap.get? b=some u->h'.get? b=some u):Inv X Y Z H { s with heap:=h',toks:=t' }:=I.un (Un.kept k) (I.hok.kept k)
theorem Inv.laid {a:Addr}{o:HO}{t':Nat}(I:Inv X Y Z H s)(k:∀b u,s.heap.get? b=some u->h'.get? b=some u)(hp:s.heap.objs.size<=a)(new:xL X.prog X.w (upd H a o) h' a o):
 Inv X Y Z (upd H a o) { s with heap:=h',toks:=t' }:=I.un (Un.laid k hp (I.hok.fresh hp)) (I.hok.laid k hp new)
theorem Inv.write {x e:Addr}{o:HO}{t':Nat}(I:Inv X Y Z H s)(c:fL (H x))(f:e=x\/H e=some (.own x))(k:∀b u,b≠e->s.heap.get? b=some u->h'.get? b=some u)(a:∃u,h'.get? e=some u)
 (new:xL X.prog X.w (upd H x o) h' x o):Inv X Y Z (upd H x o) { s with heap:=h',toks:=t' }:=I.un (Un.write c f k a) (I.hok.write c f k a new)
def Inv.pins_of {Y':Yb}(I:Inv X Y Z H s)(h:∀p∈Y',s.heap.get? p.1=some p.2/\H p.1=none/\p.1≠X.env.locals/\p.1∉X.fs/\∀v,p.2.data ≠ .cell v):Inv X Y' Z H s:=
 ⟨I.ok,I.os,I.bare,I.base,I.loc,I.cell,I.free,I.freeC,λp hp=>(Jb.mp hp).elim (λz=>I.pin p ()) (h p),I.hok,I.len⟩
def Ej {N:Yk}(c:N.Nodup){i j:Nat}{x:Str}(a:N[i]? = some x)(b:N[j]? = some x):i=j:=by
 obtain⟨g,e⟩:=Je.mp a;obtain⟨h,f⟩:=Je.mp b;exact(List.getElem_inj c).mp (e.trans f.symm)
def Mq {M:Model}{A:Around}{E:Ya}{i:Nat}{x:Str}{v:V}{u:Value}{Q:Unit->YC}(I:Inv X Y Z H s)(hN:X.N.Nodup)(B:X.N[i]? = some x)(l:yR X.env.scope x)(r:jy v u)
 (h:∀s',Inv X Y (Z.set i (some v)) H s'->(∃a,Heap.SameBut a s.heap s'.heap/\(a=X.env.locals\/X.env.cells.lookup x=some a))->Q Yt s') (hf:X.fn x=true\/X.env.scope.names.lookup x=some .local:=by trivial):wpAny M A (storeName X.env x u) Q E s:=by
 obtain⟨m,R,hl⟩:=id I.loc;have J:(X.env.scope.kind == .class||(X.env.scope.kind == .module&&X.env.locals != X.env.globals))=false:=by rw[I.ok.kind];rfl
 have hiσ: i < Z.length:=by rw[I.len];exact(Je.mp B).1
 have cne:=I.cne;have f:∀{a:Addr} {h':Heap},(∃o,s.heap.get? a=some o/\H a=none)->Heap.SameBut a s.heap h'->qP X.prog X.w H h':=λ{a h'} ha hs b ob e=>by
  obtain⟨_,_,S⟩:=ha;refine(I.hok b ob e).stay (λc O t q=>(hs.2 c ?_).trans q) (λ_ q=>q) λ_ _ q=>q
  grind
 rcases l with hk|hk
 .refine wpAny_storeName_local hk R (λh' T hs=>?_) J;obtain⟨oL,_,_,U,_⟩:=id R;refine h _ ⟨I.ok,I.os,I.bare,⟨λb o e n C l=>?_,λb o e n C l=>?_,I.base.free,λb o e l=>?_,I.base.tups,I.base.frzs,I.base.tbls⟩,⟨_,T,λj y v' g w e3=>?_⟩,λy c e=>?_,I.free,I.freeC,λp hp=>?_,f ⟨oL,U,I.free⟩ hs,by simpa using I.len⟩ ⟨_,hs,.inl rfl⟩
  .exact(hs.2 b (Zi (Zg (Zk e) I.ok.above))).trans (I.base.keep b o e n C l)
  .obtain⟨sl,g⟩:=I.base.slot b o e n C l;exact⟨sl,(hs.2 b (Zi (Zg (Zk e) I.ok.above))).trans g⟩
  .obtain⟨o',g⟩:=I.base.there b o e l;exact⟨o',(hs.2 b (Zi (Zg (Zk e) I.ok.above))).trans g⟩
  .by_cases F:j=i
   .subst F;rw[B] at g;cases g;rw[UQ hiσ] at w;cases w;exact⟨u,r,.inl ⟨hk,()⟩⟩
   .rw[Zx (Ne.symm F)] at w;obtain⟨u',r',q⟩:=hl j y v' g w e3;refine⟨u',r',?_⟩;rcases q with ⟨k,e⟩|⟨k,c,e,z⟩
    .refine .inl ⟨k,?_⟩;have:y≠x:=λe=>F (Ej hN g (e ▸ B));simp[this,e]
    .exact .inr ⟨k,c,e,z.sameBut hs (cne y c e)⟩
  .obtain⟨O,z⟩:=I.cell y c e;exact⟨O,z.sameBut hs (cne y c e)⟩
  .obtain⟨e,n,ne,nf,d⟩:=I.pin p hp;exact⟨(hs.2 p.1 ne).trans e,n,ne,nf,d⟩
 .have G:X.fn x=true:=by
   rcases hf with z|z
   .exact z
   .rw[z] at hk;cases hk
  obtain⟨c,t⟩:=I.ok.has x (.inl hk);obtain⟨O,z⟩:=I.cell x c t;refine wpAny_storeName_cell I.ok.kind hk t z (λh' K hs=>?_);obtain⟨oc,L,hocd⟩:=id z;refine h { s with heap:=h' } ⟨I.ok,I.os,I.bare,⟨λb o e n C l=>?_,λb o e n C l=>?_,I.base.free,λb o e l=>?_,I.base.tups,I.base.frzs,I.base.tbls⟩,⟨m,R.sameBut hs (Ne.symm (cne x c t)),λj y v' g w e3=>?_⟩,λy P e=>?_,I.free,I.freeC,λp hp=>?_,f ⟨oc,L,I.freeC x c t⟩ hs,by simpa using I.len⟩ ⟨c,hs,.inr t⟩
  .exact(hs.2 b (Zi (Zg (Zk e) (I.ok.cab x c G t)))).trans (I.base.keep b o e n C l)
  .obtain⟨sl,g⟩:=I.base.slot b o e n C l;exact⟨sl,(hs.2 b (Zi (Zg (Zk e) (I.ok.cab x c G t)))).trans g⟩
  .obtain⟨o',g⟩:=I.base.there b o e l;exact⟨o',(hs.2 b (Zi (Zg (Zk e) (I.ok.cab x c G t)))).trans g⟩
  .by_cases F:j=i
   .subst F;rw[B] at g;cases g;rw[UQ hiσ] at w;cases w;exact⟨u,r,.inr ⟨.inl hk,c,t,K⟩⟩
   .rw[Zx (Ne.symm F)] at w;obtain⟨u',r',q⟩:=hl j y v' g w e3;refine⟨u',r',?_⟩;rcases q with q|⟨k,P,e,z'⟩
    .exact .inl q
    .refine .inr ⟨k,P,e,z'.sameBut hs ?_⟩;rintro rfl;exact F (Ej hN g (I.ok.inj _ _ _ e t ▸ B))
  .by_cases N:P=c
   .subst N;exact⟨_,K⟩
   .obtain⟨w2,z2⟩:=I.cell y P e;exact⟨w2,z2.sameBut hs N⟩
  .obtain⟨e,n,ne,nf,d⟩:=I.pin p hp;refine⟨(hs.2 p.1 ?_).trans e,n,ne,nf,d⟩;intro q;rw[q,L] at e;have q':=Zqi e;exact d O (by rwa [<- q'])
def Ae {M:Model}{A:Around}{E:Ya}{i:Nat}{x:Str}{v:V}{u:Value}{Q:Unit->YC}(I:Inv X Y Z H s)(a:X.N.Nodup)(b:X.N[i]? = some x)(c:yR X.env.scope x)(r:jy v u)
 (h:∀s',Inv X Y (Z.set i (some v)) H s'->Q Yt s') (e:X.fn x=true\/X.env.scope.names.lookup x=some .local:=by trivial):wpAny M A (storeName X.env x u) Q E s:=
 Mq I a b c r (λs' f _=>h s' f) e
def Inv.call' {s':Shared}{ch:Yl}(I:Inv X Y Z H s)(f:s'.os=s.os)(u:Un (xh X.stack) ch H H' s.heap s'.heap)(a:qP X.prog X.w H' s'.heap)(g:AllBare s'.gens)
 (e:∀b∈ch,(b∈X.ex\/X.s₀.heap.objs.size<=b)/\b≠X.env.locals/\(∀x c,X.env.cells.lookup x=some c->c≠b)/\∀p∈X.pn++Y,p.1≠b):Inv X Y Z H' s':=by
 obtain⟨h',g',d',t',h⟩:=s';subst f;exact I.call u a g e
end
abbrev XK:=Value->Option Addr->Hp->Prop
abbrev St:=List YF
abbrev VK:=V->Hp->Prop
abbrev TE:=St->Hp->VK->Prop
abbrev TT:=St->Hp->(Bool->Hp->Prop)->Prop
abbrev TA:=St->Hp->(YE->Hp->Prop)->Prop
structure Ends where
 nx:St->Hp->Prop
 rt:VK
 bk:St->Hp->Prop:=λ_ _=>False
 ct:St->Hp->Prop:=λ_ _=>False
abbrev TS:=Ends->St->Hp->Prop
def EP (X:Cx)(Y:Yb)(Z: St)(Q:VK)(u:Value)(s':Shared):Prop:=∃v a,Inv X Y Z a s'/\jy v u/\Q v a
def TP (X:Cx)(Y:Yb)(Z: St)(Q:Bool->Hp->Prop)(b:Bool)(s':Shared):Prop:=∃a,Inv X Y Z a s'/\Q b a
def AP (X:Cx)(Y:Yb)(Z: St)(Q:YE->Hp->Prop)(c:Yf)(s':Shared):Prop:=∃a b,Inv X Y Z b s'/\jq a c/\Q a b
def SP (X:Cx)(Y:Yb)(D:Ends)(f:Flow)(s':Shared):Prop:=
 match f with
 | .next=>∃b a,Inv X Y b a s'/\D.nx b a
 | .brk=>∃b a,Inv X Y b a s'/\D.bk b a
 | .cont=>∃b a,Inv X Y b a s'/\D.ct b a
 | .ret u=>∃v b a,Inv X Y b a s'/\jy v u/\D.rt v a
def PE (X:Cx)(e:Expr)(t:TE):Prop:=
 ∀(Y:Yb) (s:Shared) (Z: St) (H:Hp) (Q:VK),Inv X Y Z H s->t Z H Q->YI X (eval e X.env) (EP X Y Z Q) X.xe s
def PT (X:Cx)(e:Expr)(t:TT):Prop:=
 ∀(Y:Yb) (s:Shared) (Z: St) (H:Hp) (Q:Bool->Hp->Prop),Inv X Y Z H s->t Z H Q->YI X (isTrue e X.env (eval e X.env)) (TP X Y Z Q) X.xe s
def PW (X:Cx)(e:Expr)(t:TT):Prop:=
 ∀(a:Sem Value) (Y:Yb) (s:Shared) (Z: St) (H:Hp) (Q:Bool->Hp->Prop),Inv X Y Z H s->t Z H Q->YI X (isTrue e X.env a) (TP X Y Z Q) X.xe s
def fJ {X:Cx}{e:Expr}{t:TT}(h:PW X e t):PT X e t:=h _
def PA (X:Cx)(es:Ym)(t:TA):Prop:=
 ∀(a:Pos) (Y:Yb) (s:Shared) (Z: St) (H:Hp) (Q:YE->Hp->Prop),Inv X Y Z H s->t Z H Q->YI X (spliced (backTo a (starEach es X.env))) (AP X Y Z Q) X.xe s
def PS (X:Cx)(st:Stmt)(t:TS):Prop:=
 ∀(Y:Yb) (s:Shared) (Z: St) (H:Hp) (D:Ends),Inv X Y Z H s->t D Z H->YI X (exec st X.env) (SP X Y D) X.xe s
def qO (X:Cx)(st:List Stmt)(t:TS):Prop:=
 ∀(Y:Yb) (s:Shared) (Z: St) (H:Hp) (D:Ends),Inv X Y Z H s->t D Z H->YI X (execs st X.env) (SP X Y D) X.xe s
def jG {α: Type}{t:Sem α}{Q b: α -> YC}{M:Model}{A:Around}{E:Ya}{s:Shared}(h:wpAny M A t Q E s)(c:∀a s,Q a s->b a s):wpAny M A t b E s:=Zc h c λ_ _ x=>x
section
variable {X:Cx}
def xH (i:Nat):TE:=λZ H Q=>∃v,Z[i]? = some (some v)/\Q v H
def tC (v:V):TE:=λ_ H Q=>Q v H
def Mr {i:Nat}{x:Str}{f:Pos}(o:X.N[i]? = some x)(p:bK X.env.scope x)(g:(x == ("__debug__" : Str))=false:=by decide)(j:(x == ("__classdict__" : Str))=false:=by decide):PE X (.Name x f) (xH i):=by
 intro Y s Z H Q I h;obtain⟨v,e,h⟩:=h;obtain⟨m,q,t⟩:=I.loc;obtain⟨u,r,l⟩:=t i x v o e p;have b:EP X Y Z Q u s:=⟨v,H,I,r,h⟩;rcases l with ⟨hk,w⟩|⟨hk,c,n,a⟩
 .exact wpAny_Name (wpAny_loadName_local I.ok.kind hk q w b) g
 .rcases hk with hk|hk
  .exact wpAny_Name (wpAny_loadName_cell I.ok.kind hk n a b) g
  .exact wpAny_Name (wpAny_loadName_free I.ok.kind hk n a b j) g
def Ms {i j pos}:PE X (.Constant (.int i) j pos) (tC (.int i)):=λ_ _ _ H _ I h=>wpAny_Constant_int ⟨.int i,H,I.tok _,⟨_,rfl⟩,h⟩
def uM {b j pos}:PE X (.Constant (.bool b) j pos) (tC (.bl b)):=λ_ _ _ H _ I h=>Constant_bool ⟨.bl b,H,I,rfl,h⟩
def Mt {j pos}:PE X (.Constant .none j pos) (tC .non):=λ_ _ _ H _ I h=>Constant_none ⟨.non,H,I,rfl,h⟩
def Ek {x j pos}:PE X (.Constant (.str x) j pos) (tC (.str x)):=λ_ _ _ H _ I h=>Calls.Constant_str ⟨.str x,H,I.tok _,⟨_,rfl⟩,h⟩
def Gl (X:Cx)(x:Str):Prop:=X.env.kindOf x=some .globalImplicit
def XR {E:Ya}{Y:Yb}{s:Shared}{Z: St}{H:Hp}{x:Str}{u:Value}{a:Pos}{Q:Ya}(I:Inv X Y Z H s)(b:Gl X x)(c:X.mg x=some u)(h:Q u s)
 (e:(x == ("__debug__" : Str))=false:=by decide):YI X (eval (.Name x a) X.env) Q E s:=
 Calls.Name_function_global I.ok.kind b (Calls.loadGlobal_global (by rw[I.ok.glob];exact I.mod.glob.keeps I.bk) c h) e
def WE {E:Ya}{Y:Yb}{s:Shared}{Z: St}{H:Hp}{x:Str}{u:Value}{a:Pos}{Q:Ya}(I:Inv X Y Z H s)(b:Gl X x)(c:X.mg x=none)(e:bootBuiltins x=some u)(h:Q u s)
 (f:x ≠ "__name__" := by decide) (g:(x == ("__debug__" : Str))=false:=by decide):YI X (eval (.Name x a) X.env) Q E s:=by
 obtain⟨l,i,j⟩:=I.mod.blt;exact Calls.Name_function_global I.ok.kind b (Calls.loadGlobal_builtin (by rw[I.ok.glob];exact I.mod.glob.keeps I.bk) c (by rw[I.ok.blt];exact i.keeps I.bk) ((j x f).trans e) h) g
def Mu {x:Str}{v:V}{u:Value}{a:Pos}(b:Gl X x)(c:X.mg x=none)(e:bootBuiltins x=some u)(r:jy v u)(f:x ≠ "__name__" := by decide)(g:(x == ("__debug__" : Str))=false:=by decide):PE X (.Name x a) (tC v):=
 λ_ _ _ H _ I h=>WE I b c e ⟨v,H,I,r,h⟩ f g
variable {a b:Expr}{ta tb:TE}{pos:Pos}
def PC (X:Cx)(op:CmpOp)(a b:Expr)(t:TE):Prop:=
 ∀(Y:Yb) (s:Shared) (Z: St) (H:Hp) (Q:VK),Inv X Y Z H s->t Z H Q ->
  YI X (eval a X.env) (λv s₁=>YI X (eval b X.env) (λu s₂=>YI X (compareOp op v u) (EP X Y Z Q) X.xe s₂) X.xe s₁) X.xe s
def El (b){op:CmpOp}(h:op ≠ .In)(c:op ≠ .NotIn):behindInMarks op b=false:=by
 cases b<;>first|rfl|(show(_&&(_||_)&&_)=false;simp_all)
def vT (ta:TE):TE:=λZ H Q=>ta Z H λx c=>Q (.bl (decide (x=.non))) c
def Em (ta:TE):TE:=λZ H Q=>ta Z H λx c=>Q (.bl (!decide (x=.non))) c
def jy.none_iff {x:V}{v:Value}(r:jy x v):(v == Value.none)=decide (x=.non):=by
 cases x with
 |non=>cases r;rfl
 |bl _=>cases r;rfl
 |int _=>obtain⟨t,rfl⟩:=r;rfl
 |str _=>obtain⟨t,rfl⟩:=r;rfl
 |byt _=>obtain⟨t,rfl⟩:=r;rfl
 |flt _=>obtain⟨t,rfl⟩:=r;rfl
 |ref _=>cases r;rfl
 |ty _=>cases r;rfl
def En {j pos'}(c:PE X a ta):PC X .Is a (.Constant .none j pos') (vT ta):=λY s Z H Q I h=>jG (c Y s Z H _ I h) λv l ⟨x,e,f,g,i⟩=>(Constant_none (is_none_gen ⟨.bl _,e,f,by rw[g.none_iff];rfl,i⟩))
def Mv {j pos'}(c:PE X a ta):PC X .IsNot a (.Constant .none j pos') (Em ta):=λY s Z H Q I h=>jG (c Y s Z H _ I h) λv l ⟨x,e,f,g,i⟩=>(Constant_none (isnot_none_gen ⟨.bl _,e,f,by rw[g.none_iff];rfl,i⟩))
def tB (t:TE):TT:=λZ H Q=>t Z H λx e=>∃c,x=.bl c/\Q c e
def Mw {op:CmpOp}{t:TE}(h:PC X op a b t)(c:behindInMarks op b=false:=by first|exact El _ (by decide) (by decide)|rfl):PE X (.Compare a [op] [b] pos) t:=λY s Z H Q I e=>wpAny_Compare1 (h Y s Z H Q I e) c
def BU {op:CmpOp}{t:TE}(h:PC X op a b t)(e:behindInMarks op b=false:=by first|exact El _ (by decide) (by decide)|rfl):PT X (.Compare a [op] [b] pos) (tB t):=by
 intro Y s Z H Q I f;refine wpAny_isTrue_Compare1 (jG (h Y s Z H _ I f) λv n e=>jG e λu o g=>jG g λc p ⟨x,i,j,l,m⟩=>?_) e;obtain⟨d,rfl,q⟩:=m;cases l;exact wpAny_truthy_bool ⟨i,j,q⟩
def Mx {e:Expr}{t:TE}(h:PE X e t)(f:∀c,isTrue e X.env c=(do let v <- c;standAt e.pos;holding [v] (truthy v)):=by intro _;rfl):PT X e (tB t):=by
 intro Y s Z H Q I g;refine isTrue_plain (jG (h Y s Z H _ I g) λv n ⟨x,i,j,l,m⟩=>?_) (f _);obtain⟨d,rfl,q⟩:=m;cases l;exact wpAny_truthy_bool ⟨i,j,q⟩
variable {tA tB':TT}{rest:Ym}
def mq (t u:TT):TT:=λZ H Q=>t Z H λc e=>if c=true then u Z e Q else Q false e
def pk (t u:TT):TT:=λZ H Q=>t Z H λc e=>if c=true then Q true e else u Z e Q
def mh (t:TT):TT:=λZ H Q=>t Z H λc e=>Q (!c) e
def Mz (f:PT X a tA):PW X (.BoolOp .And [a] pos) tA:=by
 intro g Y s Z H Q I h;refine isTrue_and (jG (f Y s Z H Q I h) λc i e=>?_)
 grind[isTrue_and_nil]
def M0 (f:PT X a tA):PW X (.BoolOp .Or [a] pos) tA:=by
 intro g Y s Z H Q I h;refine isTrue_or (jG (f Y s Z H Q I h) λc i e=>?_)
 grind[isTrue_or_nil]
def M3 (i:PT X a tA)(j:PW X (.BoolOp .And (b::rest) pos) tB'):PW X (.BoolOp .And (a::b::rest) pos) (mq tA tB'):=by
 intro l Y s Z H Q I h;refine isTrue_and (jG (i Y s Z H _ I h) λc m ⟨e,f,g⟩=>?_);cases c with
 |true=>exact j l Y m Z e Q f g
 |false=>exact⟨e,f,g⟩
def uI (i:PT X a tA)(j:PW X (.BoolOp .Or (b::rest) pos) tB'):PW X (.BoolOp .Or (a::b::rest) pos) (pk tA tB'):=by
 intro l Y s Z H Q I h;refine isTrue_or (jG (i Y s Z H _ I h) λc m ⟨e,f,g⟩=>?_);cases c with
 |true=>exact⟨e,f,g⟩
 |false=>exact j l Y m Z e Q f g
def M4 (e:PT X a tA):PT X (.UnaryOp .Not a pos) (mh tA):=λY s Z H Q I h=>isTrue_not (e Y s Z H (λc f=>Q (!c) f) I h)
def ug (ta tb:TE):TE:=λZ H Q=>ta Z H λx e=>∃c,x=.bl c/\if c=true then tb Z e Q else Q (.bl false) e
def vQ (ta:TE):TE:=λZ H Q=>ta Z H λx e=>∃c,x=.bl c/\Q (.bl (!c)) e
def M5 {op}{t:TE}(h:PE X a t):PE X (.BoolOp op [a] pos) t:=λY s Z H Q I c=>BoolOp_one (h Y s Z H Q I c)
def M6 (i:PE X a ta)(j:PE X (.BoolOp .And (b::rest) pos) tb):PE X (.BoolOp .And (a::b::rest) pos) (ug ta tb):=by
 intro Y s Z H Q I h;refine BoolOp_and (jG (i Y s Z H _ I h) λv l ⟨x,f,g,m,e⟩=>?_);obtain⟨c,rfl,e⟩:=e;cases m;refine wpAny_truthy_bool ?_;cases c with
 |true=>exact j Y l Z f Q g e
 |false=>exact⟨.bl false,f,g,rfl,e⟩
def M7 (f:PE X a ta):PE X (.UnaryOp .Not a pos) (vQ ta):=by
 intro Y s Z H Q I h;refine UnaryOp_ (jG (f Y s Z H _ I h) λv l ⟨x,g,i,j,e⟩=>?_);obtain⟨c,rfl,e⟩:=e;cases j;exact not_of (wpAny_truthy_bool ⟨.bl (!c),g,i,rfl,e⟩)
end
def qE (K:W.Frag)(H:Hp)(a:Addr)(b:YE):Prop:=
 Rd H a (.lst b) \/
  ∃(o:Obj) (its:Yn) (n:Nat),K.lookup a=some o/\o.cls=.type "list" /\ o.dict=none/\o.data=.seq its n/\its.size<=sizeLine/\jq b its.toList
def yk (K:W.Frag)(H:Hp)(a:Addr)(b:YE):Prop:=
 Rd H a (.tup b) \/
  ∃(o:Obj) (its:Yn) (n:Nat),K.lookup a=some o/\o.cls=.type "tuple" /\ o.data=.seq its n/\its.size<=sizeLine/\jq b its.toList
def ra:Value->YF
 | .none=>some .non
 | .bool b=>some (.bl b)
 | .int i _=>some (.int i)
 | .str x _=>some (.str x)
 | .bytes b _=>some (.byt b)
 | .float b _=>some (.flt b)
 | .ref a=>some (.ref a)
 | .type n=>some (.ty n)
 |_=>none
def jy.abs {x:V}{u:Value}(r:jy x u):ra u=some x:=by
 cases x with
 |non=>cases r;rfl
 |bl _=>cases r;rfl
 |int _=>obtain⟨t,rfl⟩:=r;rfl
 |str _=>obtain⟨t,rfl⟩:=r;rfl
 |byt _=>obtain⟨t,rfl⟩:=r;rfl
 |flt _=>obtain⟨t,rfl⟩:=r;rfl
 |ref _=>cases r;rfl
 |ty _=>cases r;rfl
def jy.inj {x y:V}{u:Value}(r:jy x u)(q:jy y u):x=y:=Zqi (r.abs.symm.trans q.abs)
theorem jq.inj:∀{a ys:YE} {b:Yf},jq a b->jq ys b->a=ys:=λ{a ys b} g h=>by
 induction g generalizing ys with
 |nil=>cases h;rfl
 |cons r _ c =>
  cases h with
  |cons e t'=>rw[r.inj e,c t']
section
variable {X:Cx}{Y:Yb}{Z: St}{H:Hp}{s:Shared}{a:Addr}{xs ys:YE}
def qE.of {K:W.Frag}(h:H a=some (.lst xs)):qE K H a xs:=.inl (.inl h)
def yk.of {K:W.Frag}(h:H a=some (.tup xs)):yk K H a xs:=.inl (.inl h)
def Inv.list (I:Inv X Y Z H s)(h:qE X.K H a xs):∃its:Yf,jq xs its/\PlainL s.heap a its.toArray/\xs.length<=sizeLine:=by
 rcases h with h|⟨o,its,n,hk,hc,hd,hs,hz,r⟩
 .obtain⟨z,its,n,r,e⟩:=h.ok I.hok;exact⟨its,r,⟨_,n,e,rfl,rfl,rfl⟩,z⟩
 .refine⟨its.toList,r,⟨o,n,I.kIn a o hk,hc,hd,()⟩,?_⟩;have e:=r.length
  simp_all
def Inv.tuple (I:Inv X Y Z H s)(h:yk X.K H a xs):∃its:Yf,jq xs its/\IsTup s.heap a its.toArray/\xs.length<=sizeLine:=by
 rcases h with h|⟨o,its,n,hk,hc,hs,hz,r⟩
 .obtain⟨z,its,r,p⟩:=h.ok I.hok;exact⟨its,r,p,z.1⟩
 .refine⟨its.toList,r,⟨o,I.kIn a o hk,hc,n,()⟩,?_⟩;have e:=r.length
  simp_all
def Inv.list_inj (I:Inv X Y Z H s)(h:qE X.K H a xs)(h':qE X.K H a ys):xs=ys:=by
 obtain⟨its,r,⟨o,n,e,_,_,d⟩,_⟩:=I.list h;obtain⟨b,c,⟨f,g,i,_,_,d'⟩,_⟩:=I.list h';have:its=b:=by simp_all
 subst this;exact r.inj c
def Inv.tuple_inj (I:Inv X Y Z H s)(h:yk X.K H a xs)(h':yk X.K H a ys):xs=ys:=by
 obtain⟨its,r,⟨o,e,_,n,d⟩,_⟩:=I.tuple h;obtain⟨b,c,⟨f,g,_,i,d'⟩,_⟩:=I.tuple h';have:its=b:=by simp_all
 subst this;exact r.inj c
end
abbrev Cx.wish (X:Cx)(E:Ya):Cx:={ X with xe:=E }
abbrev Cx.nox (X:Cx):Cx:=X.wish λ_ _=>False
theorem Cx.Ok.wish {X:Cx}(ok:X.Ok)(E:Ya):(X.wish E).Ok:=
 ⟨ok.mod,ok.kind,ok.glob,ok.blt,ok.above,ok.inj,ok.has,ok.cab,ok.hd,ok.frames,ok.stk,ok.exf,ok.bs,ok.bsz,ok.noex,ok.exfs,ok.funs,ok.frf⟩
def Cx.Ok.unwish {X:Cx}{E:Ya}(ok:(X.wish E).Ok):X.Ok:=
 ⟨ok.mod,ok.kind,ok.glob,ok.blt,ok.above,ok.inj,ok.has,ok.cab,ok.hd,ok.frames,ok.stk,ok.exf,ok.bs,ok.bsz,ok.noex,ok.exfs,ok.funs,ok.frf⟩
section
variable {X:Cx}{Y:Yb}{Z: St}{H:Hp}{s:Shared}{E:Ya}
theorem Inv.wish (I:Inv X Y Z H s)(E):Inv (X.wish E) Y Z H s:=⟨I.ok.wish E,I.os,I.bare,I.base,I.loc,I.cell,I.free,I.freeC,I.pin,I.hok,I.len⟩
theorem Inv.unwish (I:Inv (X.wish E) Y Z H s):Inv X Y Z H s:=⟨I.ok.unwish,I.os,I.bare,I.base,I.loc,I.cell,I.free,I.freeC,I.pin,I.hok,I.len⟩
theorem SP.unwish {D:Ends}{f:Flow}{s':Shared}(h:SP (X.wish E) Y D f s'):SP X Y D f s':=by
 cases f with
 |next=>obtain⟨a,b,I,q⟩:=h;exact⟨a,b,I.unwish,q⟩
 |brk=>obtain⟨a,b,I,q⟩:=h;exact⟨a,b,I.unwish,q⟩
 |cont=>obtain⟨a,b,I,q⟩:=h;exact⟨a,b,I.unwish,q⟩
 |ret u=>obtain⟨v,a,b,I,r,q⟩:=h;exact⟨v,a,b,I.unwish,r,q⟩
theorem qO.nox {st:List Stmt}{t:TS}(h:qO X.nox st t):qO X st t:=λY s Z H D I a =>
 Zc (h Y s Z H D (I.wish _) a) (λ_ _ q=>q.unwish) ()
end
section
variable {X:Cx}{st:Stmt}{rest:List Stmt}{t u:TS}{e:Expr}{te:TE}{pos:Pos}
def vR:TS:=λD Z H=>D.nx Z H
def me (t u:TS):TS:=λD Z H=>t { D with nx:=u D } Z H
def Af:qO X [] vR:=λ_ _ Z H _ I h=>wpAny_execs_nil ⟨Z,H,I,h⟩
def XS (a:PS X st t)(b:qO X rest u):qO X (st::rest) (me t u):=by
 intro Y s Z H D I h;refine wpAny_execs_cons (jG (a Y s Z H { D with nx:=u D } I h) λf c q=>?_);cases f with
 |next =>
  obtain⟨g,i,j,q⟩:=q;exact b Y c g i D j q
 |ret v=>exact q
 |brk=>exact q
 |cont=>exact q
def BV (a:PS X st t):qO X [st] t:=by
 intro Y s Z H D I h;refine wpAny_execs_cons (jG (a Y s Z H D I h) λf b q=>?_)
 grind[wpAny_execs_nil]
def M8:TS:=λD Z H=>D.bk Z H
def M9:PS X (.Break pos) M8:=λ_ _ Z H _ I h=>wpAny_Break ⟨Z,H,I,h⟩
def Inv.quiet {Y:Yb}{Z: St}{H:Hp}{s:Shared}(I:Inv X Y Z H s):interactive X.env=false:=by simp[interactive,I.ok.kind]
def vU (te:TE):TS:=λD Z H=>te Z H λ_ a=>D.nx Z a
def BW (a:PE X e te)(hs:swapsWith e none pos.line X.env=pure false:=by rfl):PS X (.Expr e pos) (vU te):=λY s Z H D I h=>wpAny_Expr_any (jG (a Y s Z H _ I h) λv g ⟨x,b,c,i,f⟩=>⟨Z,b,c,f⟩) I.quiet hs
def mf (te:TE):TS:=λD Z H=>te Z H D.rt
def Ag (a:PE X e te):PS X (.Return (some e) pos) (mf te):=λY s Z H D I h=>wpAny_Return_some (jG (a Y s Z H _ I h) λv i ⟨x,b,c,f,g⟩=>⟨x,Z,b,c,f,g⟩)
def mj (c:TT)(t u:TS):TS:=λD Z H=>c Z H λb a=>if b=true then t D Z a else u D Z a
def BX {c:Expr}{a b:List Stmt}{f:TT}(m:PT X c f)(n:qO X a t)(o:qO X b u):PS X (.If c a b pos) (mj f t u):=by
 intro Y s Z H D I h;refine wpAny_If (jG (m Y s Z H _ I h) λd g ⟨i,j,l⟩=>?_);cases d with
 |true=>exact n Y g Z i D j l
 |false=>exact o Y g Z i D j l
end
abbrev TG:=V->St->Hp->(St->Hp->Prop)->Prop
abbrev vc:=YE->St->Hp->(St->Hp->Prop)->Prop
def PG (X:Cx)(a:Expr)(t:TG):Prop:=
 ∀(Y:Yb) (s:Shared) (Z: St) (H:Hp) (v:V) (u:Value) (Q:St->Hp->Prop),Inv X Y Z H s->jy v u->t v Z H Q ->
  YI X (assign a X.env u) (λ_ s'=>∃b c,Inv X Y b c s'/\Q b c) X.xe s
def bL (X:Cx)(f:Ym)(t:vc):Prop:=
 ∀(Y:Yb) (s:Shared) (Z: St) (H:Hp) (a:YE) (b:Yf) (Q:St->Hp->Prop),Inv X Y Z H s->jq a b->t a Z H Q ->
  YI X (assignInOrder ((assignEach f X.env).map (·.2)) b) (λ_ s'=>∃c e,Inv X Y c e s'/\Q c e) X.xe s
abbrev vv:=V->V->V->Hp->(Hp->Prop)->Prop
def fK (X:Cx)(t:vv):Prop:=
 ∀(Y:Yb) (s:Shared) (Z: St) (H:Hp) (o i v:V) (a b u:Value) (Q:Hp->Prop),Inv X Y Z H s->jy o a->jy i b->jy v u->t o i v H Q ->
  YI X (setItem a b u) (λ_ s'=>∃c,Inv X Y Z c s'/\Q c) X.xe s
section
variable {X:Cx}{pos:Pos}
def Ux (i:Nat):TG:=λv Z H Q=>Q (Z.set i (some v)) H
def JR {i:Nat}{x:Str}(a:X.N.Nodup)(b:X.N[i]? = some x)(c:yR X.env.scope x)(e:X.fn x=true\/X.env.scope.names.lookup x=some .local:=by trivial):PG X (.Name x pos) (Ux i):=λY s Z H v u Q I r h=>wpAny_assign_Name (Ae I a b c r (λs' f=>⟨_,H,f,h⟩) e)
def kR:vc:=λa Z H Q=>a=[]/\Q Z H
def Eo (t:TG)(u:vc):vc:=λa Z H Q=>∃v r,a=v::r/\t v Z H λb c=>u r b c Q
def Kc:bL X [] kR:=λY s Z H a b Q I r h=>have ⟨e,h⟩:=h;assignInOrder_nil ⟨Z,H,I,h⟩
def JX {e:Expr}{es:Ym}{t:TG}{u:vc}(a:PG X e t)(b:bL X es u)
 (hs:(assignEach (e::es) X.env).map (·.2)=assign e X.env::(assignEach es X.env).map (·.2):=by rfl):bL X (e::es) (Eo t u):=by
 intro Y s Z H n o Q I r h;obtain⟨v,p,c,h⟩:=h;subst c;cases r with
 |cons r f =>
  rw[hs];exact assignInOrder_cons (jG (a Y s Z H _ _ _ I r h) λ_ g ⟨i,j,l,m⟩=>(b Y g i j _ _ Q l f m))
def kO (K:W.Frag)(n:Nat)(t:vc):TG:=λv Z H Q=>∃a b,v=.ref a/\yk K H a b/\b.length=n/\t b Z H Q
def Kd {es:Ym}{k:Nat}{t:vc}{n:Nat}(g:X.calm=true)(h:bL X es t)
 (i:(assignEach es X.env).length=n:=by rfl) (c:(assignEach es X.env).findIdx? (·.1)=none:=by rfl):PG X (.Tuple es k pos) (kO X.K n t):=by
 intro Y s Z H v u Q I r f;obtain⟨a,j,l,m,p,f⟩:=f;subst l;cases r;obtain⟨its,q,w,hz⟩:=I.tuple m;refine assign_Tuple_tuple (I.ok.hd g) w (by simp[i,<- p,q.length]) c λh' x=>?_;have y:Inv X Y Z H { s with heap:=h' }:=I.kept λb o e=>x b o (Zi (Zk e)) e;exact h Y _ Z H j _ Q y () f
def xk (a b:TE)(t:vv):TG:=λv Z H Q=>a Z H λo c=>b Z c λi e=>t o i v e λf=>Q Z f
def MA {o i:Expr}{c e:TE}{t:vv}(f:PE X o c)(g:PE X i e)(hs:fK X t)
 (G:∀v,assign (.Subscript o i pos) X.env v=(do
  let a <- holding [v] (eval o X.env)
  let b <- holding [v,a] (eval i X.env)
  standAt pos
  holding [v,a,b] (setItem a b v)
  release [v,a,b] []):=by intro _;rfl):PG X (.Subscript o i pos) (xk c e t):=λY s Z H v u Q I r h=>Za (wpAny_holding (jG (f Y s Z H _ I h) λa j ⟨x,l,m,n,p⟩=>(Za (wpAny_holding (jG (g Y j Z l _ m p) λb q ⟨y,w,z,A,B⟩=>(Za (wpAny_standAt (Za (wpAny_holding (jG (hs Y q Z w x y v a b u _ z n A r B) λ_ J ⟨C,E,F⟩=>(wpAny_release ⟨Z,C,E,F⟩)))))))))))
def zw (a:TE)(g:TG):TS:=λD Z H=>a Z H λx b=>g x Z b D.nx
def MB {tg e:Expr}{a:TE}{g:TG}(b:PE X e a)(c:PG X tg g)(hs:swapsWithSole [tg] e pos.line X.env=pure false:=by rfl)(f:swappedStores [tg] e X.env=pure none:=by rfl)
 (i:(assignEach [tg] X.env).map (·.2)=[assign tg X.env]:=by rfl):PS X (.Assign [tg] e pos) (zw a g):=by
 intro Y s Z H D I h;refine wpAny_Assign_stores (jG (b Y s Z H _ I h) λv j ⟨x,l,m,n,o⟩=>?_) hs f;rw[i];exact jG (c Y j Z l x v _ m n o) λ_ p q=>q
def Ep {i:Nat}{x:Str}{e:Expr}{b:TE}{a:Pos}(c:X.N.Nodup)(f:X.N[i]? = some x)(g:yR X.env.scope x)(j:PE X e b)(hs:swapsWith e (some (.Name x a)) pos.line X.env=pure false:=by rfl)(l:X.fn x=true\/X.env.scope.names.lookup x=some .local:=by trivial):
 PS X (.Assign [.Name x a] e pos) (zw b (Ux i)):=λY s Z H D I h=>wpAny_Assign_Name (jG (j Y s Z H _ I h) λv r ⟨y,m,n,o,p⟩=>(Ae n c f g o (λt q=>⟨_,m,q,p⟩) l)) hs
end
structure It where
 go:Nat->Hp->Prop
 yld:Nat->Hp->V->Hp->Prop
 stop:Nat->Hp->Prop
def xc (X:Cx)(Y:Yb)(H:Hp)(b:Addr):Prop:=
 H b=none/\b≠X.env.locals/\b∉X.fs/\(b∈X.ex\/X.s₀.heap.objs.size<=b)/\(∀x c,X.env.cells.lookup x=some c->c≠b)/\∀p∈X.pn++Y,p.1≠b
def Inv.fpOk {X:Cx}{Y:Yb}{Z: St}{H f:Hp}{s:Shared}{b:Addr}(I:Inv X Y Z H s)(a:s.heap.objs.size<=b)(g:f b=none):xc X Y f b:=by
 refine⟨g,UJ (Zg I.lt a),I.nofs a,.inr (Zh I.sz a),λx c e z=>?_,λp hp z=>?_⟩
 .obtain⟨v,q⟩:=I.cell x c e;exact Zn (Zg q.lt (by rwa [z])) (Zy _)
 .exact Zn (Zg (Zk (I.pin p hp).1) (by rwa [z])) (Zy _)
structure Turn (P:Program)(w:World)(K:W.Frag)(tg:Expr)(J:It)(fp:Yl)(it:Addr)(tn:Nat->Heap->Prop):Prop where
 mem:it∈fp
 obj:∀i h,tn i h->∀b∈fp,∃o,h.get? b=some o/\∀v,o.data ≠ .cell v
 keep:∀i h h',tn i h->(∀b∈fp,∀o,h.get? b=some o->h'.get? b=some o)->tn i h'
 item:∀(X:Cx),X.prog=P->X.w=w->X.K=K->X.calm=true->∀(i:Nat) (Y:Yb) (s:Shared) (Z: St) (H:Hp) (E:Ya),Inv X Y Z H s->(∀b∈fp,xc X Y H b)->tn i s.heap->J.go i H ->
  wpAny (model P w) X.A (pyNext (.ref it)) (λr s1=>∃u,r=some u /\
   wpAny (model P w) X.A (letOwnedTupleGo tg (.ref it) u) (λ_ s2=>∃x H',Inv X Y Z H' s2/\jy x u/\J.yld i H x H'/\tn (i+1) s2.heap/\∀b∈fp,H' b=none) E s1) E s
 done:∀(X:Cx),X.prog=P->X.w=w->X.K=K->X.calm=true->∀(i:Nat) (Y:Yb) (s:Shared) (Z: St) (H:Hp) (E:Ya),Inv X Y Z H s->(∀b∈fp,xc X Y H b)->tn i s.heap->J.stop i H ->
  wpAny (model P w) X.A (pyNext (.ref it)) (λr s1=>r=none/\Inv X Y Z H s1) E s
 self:∀(A:Around) (i:Nat) (s:Shared) (Q:Ya) (E:Ya),tn i s.heap->Q (.ref it) s->wpAny (model P w) A (pyIter (.ref it)) Q E s
abbrev TI:=St->Hp->(It->Hp->Prop)->Prop
def su (X:Cx)(Y:Yb)(Z: St)(tg:Expr)(R:It->Hp->Prop)(a:Value)(e:Shared):Prop:=
 ∃(it:Addr) (f:Yl) (g:Nat->Heap->Prop) (J:It) (c:Hp),a=.ref it/\Inv X Y Z c e/\Turn X.prog X.w X.K tg J f it g/\g 0 e.heap/\(∀b∈f,xc X Y c b)/\R J c
def PI (X:Cx)(tg a:Expr)(wi:TI):Prop:=
 ∀(Y:Yb) (s:Shared) (Z: St) (H:Hp) (R:It->Hp->Prop),Inv X Y Z H s->wi Z H R ->
  YI X (eval a X.env) (λv b=>YI X (pyIter v) (su X Y Z tg R) X.xe b) X.xe s
def BY {M:Model}{A:Around}{E:Ya}{s:Shared}{tg:Expr}{it:Addr}{u:Value}{o:Obj}{n:String}{b:Yn}{Q:Unit->YC}(c:s.heap.get? it=some o)(e:o.cls=.type n)(f:o.data=.fields b)
 (g: ["enumerate", "zip", "dict_itemiterator", "dict_reverseitemiterator", "odict_iterator", "itertools.zip_longest", "itertools.pairwise"].contains n=false) (a:Q Yt s):wpAny M A (letOwnedTupleGo tg (.ref it) u) Q E s:=by
 cases tg<;>first
  |exact Zb a
  | (cases u<;>first
   |exact Zb a
   | (
    refine Za (wpAny_load c ?_);rw[e,f];show wpAny M A (if(["enumerate", "zip", "dict_itemiterator", "dict_reverseitemiterator", "odict_iterator", "itertools.zip_longest", "itertools.pairwise"].contains n&&b[0]? == some (rawInt _))=true then _ else _) Q E s;rw[Ze (by intro h;rw[g,Bool.false_and] at h;cases h)];exact Zb a))
def sA (K:W.Frag)(a:Addr):It:=
 ⟨λi H=>∃b x,qE K H a b/\b[i]? = some x,λi H x c=>c=H/\∀b,qE K H a b->b[i]? = some x,λi H=>∃b,qE K H a b/\b.length<=i⟩
def s0 (K:W.Frag)(a:Addr):It:=
 ⟨λi H=>∃b x,yk K H a b/\b[i]? = some x,λi H x c=>c=H/\∀b,yk K H a b->b[i]? = some x,λi H=>∃b,yk K H a b/\b.length<=i⟩
def bN (lo:Int)(n:Nat):It:=⟨λi _=>i<n,λi H x a=>a=H/\x=.int (lo+i),λi _=>n<=i⟩
def MC {P:Program}{w:World}{K:W.Frag}{tg:Expr}(a it):Turn P w K tg (sA K a) [it] it (λi h=>h.IsListIter it a i) where
 mem:=by simp
 obj:=λi h st b f=>by
  obtain⟨o,e,c,d⟩:=st
  simp_all
 keep:=λi h h' st k=>st.at λo e=>k it () o e
 item:=by
  intro X m n q C i Y s Z H E I j st r;subst m n q;obtain⟨G,x,l,F⟩:=r;obtain⟨its,t,p,hz⟩:=I.list l;obtain⟨u,R,J⟩:=t.get F;obtain⟨v,y,L,z,A,B⟩:=j it ();refine wpAny_pyNext_list_item st p.isList (x:=u) () λh' g M=>?_;have N:Inv X Y Z H { s with heap:=h' }:=I.turned (λb o f e=>(M.2 b f).trans e) v y z A B;obtain⟨o,e,c,d⟩:=id g;exact⟨u,rfl,BY e c d (by decide) ⟨x,H,N,J,⟨rfl,λys O=>by rwa [I.list_inj O l]⟩,g,λb f=>(j b f).1⟩⟩
 done:=by
  intro X m n q C i Y s Z H E I j st r;subst m n q;obtain⟨G,l,F⟩:=r;obtain⟨its,t,p,hz⟩:=I.list l;obtain⟨v,y,L,z,A,B⟩:=j it ();have S:=t.length;exact wpAny_pyNext_list_end (I.ok.hd C) st p.isList (by simp;lia) λh' Q=>⟨rfl,I.turned (λb o f e=>Q b o f e) v y z A B⟩
 self:=λ_ _ _ _ _ st h=>wpAny_pyIter_listiter st h
def ME {P:Program}{w:World}{K:W.Frag}{tg:Expr}(a it):Turn P w K tg (s0 K a) [it] it (λi h=>h.IsTupleIter it a i) where
 mem:=by simp
 obj:=λi h st b g=>by
  obtain⟨o,e,c,d⟩:=st
  simp_all
 keep:=λi h h' st k=>st.at ()
 item:=by
  intro X l m n C i Y s Z H E I q st r;subst l m n;obtain⟨G,x,j,F⟩:=r;obtain⟨its,t,p,hz⟩:=I.tuple j;obtain⟨u,J,L⟩:=t.get F;obtain⟨v,y,M,z,A,B⟩:=q it ();refine wpAny_pyNext_tuple_item st (p) (by simpa using J) λh' f N=>?_;have O:Inv X Y Z H { s with heap:=h' }:=I.turned (λb o g e=>(N.2 b g).trans e) v y z A B;obtain⟨o,e,c,d⟩:=id f;exact⟨u,rfl,BY e c d (by decide) ⟨x,H,O,L,⟨rfl,λys Q=>by rwa [I.tuple_inj Q j]⟩,f,()⟩⟩
 done:=by
  intro X l m n C i Y s Z H E I q st r;subst l m n;have ⟨G,j,F⟩:=r;have ⟨its,t,p,hz⟩:=I.tuple j;have ⟨v,y,M,z,A,B⟩:=q it ();have S:=t.length;exact wpAny_pyNext_tuple_end (I.ok.hd C) st (p) (by simp;lia) λh' R=>⟨rfl,I.turned (λb o g e=>R b o g e) v y z A B⟩
 self:=λ_ _ _ _ _ st h=>wpAny_pyIter_tupleiter st h
def MF {P:Program}{w:World}{K:W.Frag}{tg:Expr}(it)(lo)(n):Turn P w K tg (bN lo n) [it] it (λi h=>IsRangeIter h it (lo+(i:Nat)*1) ((n:Int)-(i:Nat)) 1) where
 mem:=by simp
 obj:=by grind
 keep:=by grind
 item:=by
  intro X r u x c i Y s Z H E I f st g;obtain⟨j,l,y,m,p,q⟩:=f it ();refine(Walks.range (I.ok.hd c) it lo 1 n).item i s _ _ g st λv h' tk z a F=>?_;obtain⟨t,rfl⟩:=z;have A:Inv X Y Z H { s with heap:=h',toks:=tk }:=I.turned () j l m p q;refine⟨_,rfl,BY a rfl rfl (by decide) ⟨.int (lo+i),H,A,⟨t,?_⟩,⟨rfl,rfl⟩,a,()⟩⟩;simp
 done:=by
  intro X r u x c i Y s Z H E I f st g;obtain⟨j,l,y,m,p,q⟩:=f it ();exact wpAny_pyNext_range_end (I.ok.hd c) st (by have:n<=i:=g;lia) λh' B=>⟨rfl,I.turned (λb o C e=>B b o C e) j l m p q⟩
 self:=λ_ _ _ _ _ st h=>wpAny_pyIter_rangeiter st h
section
variable {X:Cx}{tg:Expr}
def kF (K:W.Frag)(c:TE):TI:=λZ H R=>c Z H λx b=>∃a,x=.ref a/\(∃e,qE K b a e)/\R (sA K a) b
def mU (K:W.Frag)(c:TE):TI:=λZ H R=>c Z H λx b=>∃a,x=.ref a/\(∃e,yk K b a e)/\R (s0 K a) b
def MG {l:Expr}{g:TE}(i:PE X l g):PI X tg l (kF X.K g):=by
 intro Y s Z H R I h;refine jG (i Y s Z H _ I h) λv f ⟨x,j,c,m,n⟩=>?_;obtain⟨a,e,⟨u,r⟩,q⟩:=n;subst e;cases m;obtain⟨its,w,p,hz⟩:=c.list r;refine wpAny_pyIter_list p.isList (⟨f.heap.objs.size,[f.heap.objs.size],_,_,j,rfl,c.kept λb o e=>Zq _ e,MC a _,⟨_,Zr _ rfl,rfl,rfl⟩,λb t=>?_,q⟩);have e:b=f.heap.objs.size:=by simpa using t
 subst e;exact c.fpOk (Zf _) (c.hok.fresh (Zf _))
def MI {l:Expr}{g:TE}(i:PE X l g):PI X tg l (mU X.K g):=by
 intro Y s Z H R I h;refine jG (i Y s Z H _ I h) λv f ⟨x,j,c,m,n⟩=>?_;obtain⟨a,e,⟨u,r⟩,q⟩:=n;subst e;cases m;obtain⟨its,w,p,hz⟩:=c.tuple r;refine wpAny_pyIter_tuple (p) (⟨f.heap.objs.size,[f.heap.objs.size],_,_,j,rfl,c.kept λb o e=>Zq _ e,ME a _,⟨_,Zr _ rfl,rfl,rfl⟩,λb t=>?_,q⟩);have e:b=f.heap.objs.size:=by simpa using t
 subst e;exact c.fpOk (Zf _) (c.hok.fresh (Zf _))
def MJ {Y:Yb}{Z: St}{H:Hp}{s:Shared}{R:It->Hp->Prop}{E:Ya}{lo a:Int}{t u v:Tok}{tk:Nat}(I:Inv X Y Z H s)(f: -(2 ^ 62)<=lo)(g:lo<2 ^ 62)(h: -(2 ^ 62)<=a)(i:a<2 ^ 62)
 (q:R (bN lo (a-lo).toNat) H):YI X (pyIter (.ref s.heap.objs.size)) (su X Y Z tg R) E { s with heap:=s.heap.push { cls:=.type "range",data:=.fields #[.int lo t,.int a u,.int 1 v] },toks:=tk }:=by
 refine wpAny_pyIter_range (IsRange.new ..) (small_one f g h i) ?_;have c:Inv X Y Z H { s with heap:=s.heap.push { cls:=.type "range",data:=.fields #[.int lo t,.int a u,.int 1 v] },toks:=tk }:=I.kept λb o e=>Zq _ e;refine⟨(s.heap.push { cls:=.type "range",data:=.fields #[.int lo t,.int a u,.int 1 v] }).objs.size,[(s.heap.push { cls:=.type "range",data:=.fields #[.int lo t,.int a u,.int 1 v] }).objs.size],_,_,H,rfl,
  c.kept λb o e=>Zq _ e,MF _ lo (a-lo).toNat,?_,λb m=>?_,q⟩
 .have j:lo+((0:Nat):Int)*1=lo:=by simp
  have l:(((a-lo).toNat:Nat):Int)-((0:Nat):Int)=Builtin.Range.rangeSize lo a 1:=by grind[rangeSize_one]
  rw[j,l];exact Zr _ rfl
 .have e:b=(s.heap.push { cls:=.type "range",data:=.fields #[.int lo t,.int a u,.int 1 v] }).objs.size:=by simp_all
  subst e;exact c.fpOk (Zf _) (c.hok.fresh (Zf _))
def kE (a:TA):TI:=λZ H R=>a Z H λb c=>∃j:Int,b=[.int j] /\ -(2 ^ 62)<=j/\j<2 ^ 62/\R (bN 0 j.toNat) c
def MK {a:Expr}{f:TA}{p b:Pos}(g:Gl X "range")(i:X.mg "range" = none)(l:PA X [a] f)(hs:starEach [a] X.env=[(false,eval a X.env)]:=by rfl):PI X tg (.Call (.Name "range" p) [a] [] b) (kE f):=by
 intro Y s Z H R I h;refine Call_ (WE I g i boot_range (PyProof.Rows.callWith_type1 (jG (l b Y s Z H _ I h) λv w ⟨x,y,m,n,c⟩=>?_) hs rfl));obtain⟨j,e,c,o,q⟩:=c;subst e;cases n with
 |cons r u =>
  cases u;obtain⟨t,rfl⟩:=r;exact call_range_1 (MJ m () () c o (by simpa using q))
def ml (wi:TI)(g:TG)(e:TS):TS:=λD Z H=>wi Z H λJ f=>∃W:Nat->Nat->St->Hp->Prop,(∃m,W 0 m Z f)/\∀i m Z H,W i m Z H ->
 (J.stop i H/\D.nx Z H)\/(J.go i H/\∃N:St->Hp->Prop,(∀b a,N b a->∃c,c<m/\W (i+1) c b a)/\∀x a,J.yld i H x a->g x Z a λh j=>e { D with nx:=N,ct:=N,bk:=D.nx } h j)
def XT (a:Yl)(h:Heap):Yb:=a.filterMap λb=>(h.get? b).map λo=>(b,o)
def Ah {a:Yl}{h:Heap}{b:Addr}{o:Obj}(c:b∈a)(e:h.get? b=some o):(b,o)∈XT a h:=Jr.mpr ⟨b,c,by rw[e];rfl⟩
def ML {a:Yl}{h:Heap}{p:Addr×Obj}(hp:p∈XT a h):p.1∈a/\h.get? p.1=some p.2:=by
 obtain⟨b,c,e⟩:=Jr.mp hp;cases q:h.get? b with
 |none=>simp_all
 |some o =>
  grind
def Inv.pinned {Y:Yb}{Z: St}{H:Hp}{s:Shared}{a:Yl}(I:Inv X Y Z H s)(c:∀b∈a,xc X Y H b)(g:∀b∈a,∃o,s.heap.get? b=some o/\∀v,o.data ≠ .cell v):Inv X (Y++XT a s.heap) Z H s:=
 I.pins_of λp hp=>(Jb.mp hp).elim (λz=>I.pin p ()) λz=>by
  obtain⟨f,e⟩:=ML z;obtain⟨h,i,j,_⟩:=c p.1 f
  grind
def Inv.unpinned {Y pl:Yb}{Z: St}{H:Hp}{s:Shared}(I:Inv X (Y++pl) Z H s):Inv X Y Z H s:=I.pins_of λp hp=>I.pin p ()
def Er {a:Expr}{t:List Stmt}{wi:TI}{g:TG}{S:TS}{L:Pos}(hp:PassesOwn (model X.prog X.w) X.A X.env X.xe)(U:X.calm=true)(hi:PI X tg a wi)(hg:PG X tg g)(c:qO X t S)
 (hs:∀x,foldedSetIterable a X.env x=pure x:=by intro _;rfl):PS X (.For tg a t [] L) (ml wi g S):=by
 intro Y s Z H D I h;refine wpAny_For (jG (hi Y s Z H _ I h) λv s1 h1=>jG h1 λitv s2 h2=>?_) hs;obtain⟨it,y,tn,J,H2,e,I2,T,M,f2,W,⟨m0,w0⟩,z⟩:=h2;subst e;have j:∀{q:Hp},(∀b∈y,q b=none)->∀b∈y,xc X Y q b:=λhn b c=>⟨hn b c,(f2 b c).2⟩;refine codeAny_forLoop_any (λn s'=>∃i A q,Inv X Y A q s'/\tn i s'.heap/\(∀b∈y,q b=none)/\W i n A q) ?_ m0 ⟨0,Z,H2,I2,M,λb c=>(f2 b c).1,w0⟩;rintro n s3 ⟨i,B,K,I3,C,E,w3⟩;rcases z i n B K w3 with ⟨F,qn⟩|⟨go,N,hN,step⟩
 .refine wpAny_passesOwn hp (jG (T.done X rfl rfl rfl U i Y s3 B K X.xe I3 (j E) C F) λr s4 ⟨O,I4⟩=>?_);subst O;exact wpAny_execs_nil ⟨B,K,I4,qn⟩
 .refine wpAny_passesOwn hp (jG (T.item X rfl rfl rfl U i Y s3 B K X.xe I3 (j E) C go) λr s4 ⟨u,O,h4⟩=>?_);subst O;refine wpAny_passesOwn hp (jG h4 λ_ s5 ⟨x,H5,I5,r5,y5,wn,P⟩=>?_);have Q:=I5.pinned (j P) (T.obj _ _ wn);refine wpAny_passesOwn hp (jG (hg _ s5 B H5 x u _ Q r5 (step x H5 y5)) λ_ s6 ⟨Z6,H6,I6,q6⟩=>?_);refine wpAny_passesOwn hp (jG (c _ s6 Z6 H6 _ I6 q6) λf R w=>?_);have again:∀{l:St} {H7:Hp},Inv X (Y++XT y s5.heap) l H7 R->N l H7->∃m,m<n/\∃i A q,Inv X Y A q R/\tn i R.heap/\(∀b∈y,q b=none)/\W i m A q:=λ{l H7} p G=>by
   obtain⟨m',hm,w7⟩:=hN l H7 G;refine⟨m',hm,i+1,l,H7,p.unpinned,T.keep _ _ _ wn λb c o e=>(p.pin (b,o) (Ut _ (Ut _ (Ah c e)))).1,λb c=>?_,w7⟩;obtain⟨o,e,d⟩:=T.obj _ _ wn b c;exact(p.pin (b,o) (Ut _ (Ut _ (Ah c e)))).2.1
  cases f with
  |next=>obtain⟨l,H7,p,G⟩:=w;exact again p G
  |cont=>obtain⟨l,H7,p,G⟩:=w;exact again p G
  |brk=>obtain⟨l,H7,p,w⟩:=w;exact⟨l,H7,p.unpinned,w⟩
  |ret v=>obtain⟨x7,l,H7,p,r7,w⟩:=w;exact⟨x7,l,H7,p.unpinned,r7,w⟩
end
abbrev R2:=V->V->Hp->VK->Prop
def xa (X:Cx)(f:Value->Value->Sem Value)(r:R2):Prop:=
 ∀(Y:Yb) (s:Shared) (Z: St) (H:Hp) (x y:V) (v u:Value) (Q:VK),Inv X Y Z H s->jy x v->jy y u->r x y H Q ->
  YI X (f v u) (EP X Y Z Q) X.xe s
def wC (X:Cx)(f:Value->Sem Value)(r:V->Hp->VK->Prop):Prop:=
 ∀(Y:Yb) (s:Shared) (Z: St) (H:Hp) (x:V) (v:Value) (Q:VK),Inv X Y Z H s->jy x v->r x H Q ->
  YI X (f v) (EP X Y Z Q) X.xe s
def jO (X:Cx)(f:Value)(r:YE->Hp->VK->Prop):Prop:=
 ∀(Y:Yb) (s:Shared) (Z: St) (H:Hp) (a:YE) (b:Yf) (Q:VK),Inv X Y Z H s->jq a b->r a H Q ->
  YI X (call f b) (EP X Y Z Q) X.xe s
def wX (r:R2)(a b:TE):TE:=λZ H Q=>a Z H λx c=>b Z c λy e=>r x y e Q
def rz (r:V->Hp->VK->Prop)(a:TE):TE:=λZ H Q=>a Z H λx b=>r x b Q
def rI (C:Int->Int->Prop)(g:Int->Int->V):R2:=λx y H Q=>∃i j,x=.int i/\y=.int j/\C i j/\Q (g i j) H
def wY (g:Int->Int->V):R2:=λx y H Q=>∃i j,x=.int i/\y=.int j/\Q (g i j) H
def rU (g:Int->V):V->Hp->VK->Prop:=λx H Q=>∃i,x=.int i/\Q (g i) H
section
variable {X:Cx}{a b c:Expr}{ta tb tc:TE}{pos:Pos}
def vu (j:PE X a ta)(l:PE X b tb){Y:Yb}{s:Shared}{Z: St}{H:Hp}{R:V->V->Hp->Prop}(I:Inv X Y Z H s)
 (h:ta Z H λx i=>tb Z i λy e=>R x y e) {Q:Ya} {f:Value->Value->Sem Value}
 (m:∀v u g x y e,Inv X Y Z e g->jy x v->jy y u->R x y e->YI X (f v u) Q X.xe g):
 YI X (eval a X.env) (λv s₁=>YI X (eval b X.env) (λu s₂=>YI X (f v u) Q X.xe s₂) X.xe s₁) X.xe s:=jG (j Y s Z H _ I h) λv n ⟨x,i,o,p,q⟩=>(jG (l Y n Z i _ o q) λu g ⟨y,e,r,t,w⟩=>(m v u g x y e r p t w))
def Es {op:Operator}{r:R2}(e:xa X (binaryOp op) r)(f:PE X a ta)(g:PE X b tb):PE X (.BinOp a op b pos) (wX r ta tb):=λY s Z H Q I h=>wpAny_BinOp (vu f g I h λv u i x y j l m n q=>e Y i Z j x y v u Q l m n q)
def uL {op:UnaryOp}{r:V->Hp->VK->Prop}(e:wC X (unaryOp op) r)(f:PE X a ta):PE X (.UnaryOp op a pos) (rz r ta):=λY s Z H Q I h=>UnaryOp_ (jG (f Y s Z H _ I h) λv g ⟨x,i,j,l,m⟩=>e Y g Z i x v Q j l m)
def hF {f:Value->Value->Sem Value}{C:Int->Int->Prop}{g:Int->Int->Int}
 (rule:∀i j t u s Q E,C i j->Q (.int (g i j) s.toks) { s with toks:=s.toks+1 }->YI X (f (.int i t) (.int j u)) Q E s):
 xa X f (rI C λi j=>.int (g i j)):=by
 intro Y s Z H x y v u Q I e l h;obtain⟨i,j,rfl,rfl,m,q⟩:=h;obtain⟨t,rfl⟩:=e;obtain⟨t',rfl⟩:=l;exact rule i j t t' s _ _ m ⟨.int (g i j),H,I.tok _,⟨_,rfl⟩,q⟩
def uY {f:Value->Value->Sem Value}{g:Int->Int->Int}
 (rule:∀i j t u s Q E,Q (.int (g i j) s.toks) { s with toks:=s.toks+1 }->YI X (f (.int i t) (.int j u)) Q E s):
 xa X f (wY λi j=>.int (g i j)):=by
 intro Y s Z H x y v u Q I e l h;obtain⟨i,j,rfl,rfl,q⟩:=h;obtain⟨t,rfl⟩:=e;obtain⟨t',rfl⟩:=l;exact rule i j t t' s _ _ ⟨.int (g i j),H,I.tok _,⟨_,rfl⟩,q⟩
def vo {f:Value->Value->Sem Value}{g:Int->Int->Bool}
 (rule:∀i j t u s Q E,Q (.bool (g i j)) s->YI X (f (.int i t) (.int j u)) Q E s):
 xa X f (wY λi j=>.bl (g i j)):=by
 intro Y s Z H x y v u Q I e l h;obtain⟨i,j,rfl,rfl,q⟩:=h;obtain⟨t,rfl⟩:=e;obtain⟨t',rfl⟩:=l;exact rule i j t t' s _ _ ⟨.bl (g i j),H,I,rfl,q⟩
def fQ (i j:Int):Prop:=0<j/\j<1073741824
def fP (i j:Int):Prop:=0<=j/\j<=1000000/\i.natAbs<2 ^ 64
def MM:xa X (binaryOp .Add) (wY λi j=>.int (i+j)):=uY λ_ _ _ _ _ _ _ q=>add_int q
def MN:xa X (binaryOp .Sub) (wY λi j=>.int (i-j)):=uY λ_ _ _ _ _ _ _ q=>sub_int q
def MO:xa X (binaryOp .FloorDiv) (rI fQ λi j=>.int (i / j)):=hF λi j _ _ _ _ _ e q=>have f:=e.1;have g:=e.2;floordiv_int () (by rwa [Int.fdiv_eq_ediv_of_nonneg i ()]) (.inl (PyProof.noPylong_small ()))
def MP:xa X (binaryOp .Mod) (rI (λ_ j=>0<j) λi j=>.int (i % j)):=hF λi j _ _ _ _ _ e q=>mod_int' () (by rwa [Int.fmod_eq_emod_of_nonneg i ()])
def MQ:xa X (binaryOp .Pow) (rI fP λi j=>.int (i ^ j.toNat)):=hF λ_ _ _ _ _ _ _ e q=>pow_int_small e.1 e.2.1 e.2.2 q
def pi {f:Value->Sem Value}{g:Int->Int}
 (rule:∀i t s Q E,Q (.int (g i) s.toks) { s with toks:=s.toks+1 }->YI X (f (.int i t)) Q E s):
 wC X f (rU λi=>.int (g i)):=by
 intro Y s Z H x v Q I e h;obtain⟨i,rfl,q⟩:=h;obtain⟨t,rfl⟩:=e;exact rule i t s _ _ ⟨.int (g i),H,I.tok _,⟨_,rfl⟩,q⟩
def MS:wC X (unaryOp .USub) (rU λi=>.int (-i)):=pi λ_ _ _ _ _ q=>neg_int q
end
def scal:V->V->Bool
 | .non,.non=>true | .non,.int _=>true | .int _,.non=>true | .non,.bl _=>true | .bl _,.non=>true | .non,.str _=>true | .str _,.non=>true
 | .int _,.int _=>true | .bl _,.bl _=>true | .str _,.str _=>true | .byt _,.byt _=>true
 | .int _,.str _=>true | .str _,.int _=>true | .bl _,.str _=>true | .str _,.bl _=>true
 |_,_=>false
def pA:R2:=λx y H Q=>scal x y=true/\Q (.bl (decide (x=y))) H
def p6:R2:=λx y H Q=>scal x y=true/\Q (.bl (!decide (x=y))) H
def Et {i j:Int}:decide (V.int i=V.int j)=(i == j):=by
 rw[Vi];simp
def Eu {i j:Bool}:decide (V.bl i=V.bl j)=(i == j):=by
 rw[Vi];simp
def Ew {i j:Str}:decide (V.str i=V.str j)=(i == j):=by
 rw[Vi];simp
def Ex {i j:Array UInt8}:decide (V.byt i=V.byt j)=(i.toList == j.toList):=by
 rw[Vi];simp
section
variable {X:Cx}{a b c:Expr}{ta tb tc:TE}{pos:Pos}
def JY {Y:Yb}{Z: St}{H:Hp}{s:Shared}{Q:VK}{k f:Bool}(I:Inv X Y Z H s)(q:Q (.bl k) H)(e:k=f):EP X Y Z Q (.bool f) s:=by
 subst e;exact⟨.bl k,H,I,rfl,q⟩
def uX:xa X (compareOp .Eq) pA:=by
 intro Y s Z H x y v u Q I f e h;obtain⟨hs,q⟩:=h;cases x with
 |non =>
  cases f;cases y with
  |non=>cases e;exact PySem.EqNone.eq_none_none (JY I q ())
  |bl j=>cases e;exact PySem.EqNone.eq_none_bool (JY I q ())
  |int j=>obtain⟨t',rfl⟩:=e;exact PySem.EqNone.eq_none_int (JY I q ())
  |str j=>obtain⟨t',rfl⟩:=e;exact PySem.EqNone.eq_none_str (JY I q ())
  |_=>exact Zn (show false=true from hs) Zj
 |bl i =>
  cases f;cases y with
  |non=>cases e;exact PySem.EqNone.eq_bool_none (JY I q ())
  |bl j=>cases e;exact eq_bool (JY I q Eu)
  |str j=>obtain⟨t',rfl⟩:=e;exact PySem.EqMixed.eq_bool_str (JY I q ())
  |_=>exact Zn (show false=true from hs) Zj
 |int i =>
  obtain⟨t,rfl⟩:=f;cases y with
  |non=>cases e;exact PySem.EqNone.eq_int_none (JY I q ())
  |int j=>obtain⟨t',rfl⟩:=e;exact eq_int (JY I q Et)
  |str j=>obtain⟨t',rfl⟩:=e;exact PySem.EqMixed.eq_int_str (JY I q ())
  |_=>exact Zn (show false=true from hs) Zj
 |str i =>
  obtain⟨t,rfl⟩:=f;cases y with
  |non=>cases e;exact PySem.EqNone.eq_str_none (JY I q ())
  |bl j=>cases e;exact PySem.EqMixed.eq_str_bool (JY I q ())
  |int j=>obtain⟨t',rfl⟩:=e;exact PySem.EqMixed.eq_str_int (JY I q ())
  |str j=>obtain⟨t',rfl⟩:=e;exact eq_str (JY I q Ew)
  |_=>exact Zn (hs) Zj
 |byt i =>
  obtain⟨t,rfl⟩:=f;cases y with
  |byt j=>obtain⟨t',rfl⟩:=e;exact W.eq_bytes (JY I q Ex)
  |_=>exact Zn (show false=true from hs) Zj
 |_=>cases y<;>exact Zn (show false=true from hs) Zj
def uT:xa X (compareOp .NotEq) p6:=by
 intro Y s Z H x y v u Q I f e h;obtain⟨hs,q⟩:=h;cases x with
 |non =>
  cases f;cases y with
  |non=>cases e;exact PySem.EqNone.ne_none_none (JY I q ())
  |bl j=>cases e;exact PySem.EqNone.ne_none_bool (JY I q ())
  |int j=>obtain⟨t',rfl⟩:=e;exact PySem.EqNone.ne_none_int (JY I q ())
  |str j=>obtain⟨t',rfl⟩:=e;exact PySem.EqNone.ne_none_str (JY I q ())
  |_=>exact Zn (show false=true from hs) Zj
 |bl i =>
  cases f;cases y with
  |non=>cases e;exact PySem.EqNone.ne_bool_none (JY I q ())
  |bl j=>cases e;exact ne_bool (JY I q (Zt not Eu))
  |str j=>obtain⟨t',rfl⟩:=e;exact PySem.EqMixed.ne_bool_str (JY I q ())
  |_=>exact Zn (show false=true from hs) Zj
 |int i =>
  obtain⟨t,rfl⟩:=f;cases y with
  |non=>cases e;exact PySem.EqNone.ne_int_none (JY I q ())
  |int j=>obtain⟨t',rfl⟩:=e;exact ne_int (JY I q (Zt not Et))
  |str j=>obtain⟨t',rfl⟩:=e;exact PySem.EqMixed.ne_int_str (JY I q ())
  |_=>exact Zn (show false=true from hs) Zj
 |str i =>
  obtain⟨t,rfl⟩:=f;cases y with
  |non=>cases e;exact PySem.EqNone.ne_str_none (JY I q ())
  |bl j=>cases e;exact PySem.EqMixed.ne_str_bool (JY I q ())
  |int j=>obtain⟨t',rfl⟩:=e;exact PySem.EqMixed.ne_str_int (JY I q ())
  |str j=>obtain⟨t',rfl⟩:=e;exact ne_str (JY I q (Zt not Ew))
  |_=>exact Zn (show false=true from hs) Zj
 |byt i =>
  obtain⟨t,rfl⟩:=f;cases y with
  |byt j=>obtain⟨t',rfl⟩:=e;exact W.ne_bytes (JY I q (Zt not Ex))
  |_=>exact Zn (hs) Zj
 |_=>cases y<;>exact Zn (show false=true from hs) Zj
def uU:xa X (compareOp .Lt) (wY λi j=>.bl (decide (i<j))):=vo λ_ _ _ _ _ _ _ q=>lt_int q
def uV:xa X (compareOp .Gt) (wY λi j=>.bl (decide (j<i))):=vo λ_ _ _ _ _ _ _ q=>gt_int q
def uW:xa X (compareOp .GtE) (wY λi j=>.bl (decide (j<=i))):=vo λ_ _ _ _ _ _ _ q=>ge_int q
def Qi (b){op:CmpOp}(h:op ≠ .In:=by decide)(e:op ≠ .NotIn:=by decide):behindInMarks op b=false:=by
 cases b<;>first|rfl|(show(_&&(_||_)&&_)=false;simp_all)
def MT {op:CmpOp}{r:R2}(e:xa X (compareOp op) r)(f:PE X a ta)(g:PE X b tb)(i:behindInMarks op b=false):PE X (.Compare a [op] [b] pos) (wX r ta tb):=λY s Z H Q I h=>wpAny_Compare1 (vu f g I h λv u j x y l m n o q=>e Y j Z l x y v u Q m n o q) i
def vO (t:TE):TT:=λZ H Q=>t Z H λx e=>∃k,x=.bl k/\Q k e
def Ey {op:CmpOp}{r:R2}(f:xa X (compareOp op) r)(g:PE X a ta)(i:PE X b tb)(j:behindInMarks op b=false):PT X (.Compare a [op] [b] pos) (vO (wX r ta tb)):=by
 intro Y s Z H Q I h;refine wpAny_isTrue_Compare1 (jG (g Y s Z H _ I h) λv l ⟨x,m,n,o,p⟩=>jG (i Y l Z m _ n p) λu q ⟨y,t,w,A,B⟩ =>
  jG (f Y q Z t x y v u _ w o A B) λc J ⟨z,C,E,F,k,e,G⟩=>?_) j
 subst e;cases F;exact wpAny_truthy_bool ⟨C,E,G⟩
def Xj:(sizeLine:Nat)<2 ^ 63:=by decide
def MU:xa X (binaryOp .Add) (λx y H Q=>∃i j,x=.str i/\y=.str j/\i.length+j.length<=sizeLine/\Q (.str (i++j)) H):=by
 intro Y s Z H x y v u Q I e f h;obtain⟨i,j,rfl,rfl,hz,q⟩:=h;obtain⟨t,rfl⟩:=e;obtain⟨t',rfl⟩:=f;exact add_str (λt' tk=>⟨.str (i++j),H,I.tok _,⟨_,rfl⟩,q⟩) hz
def Q6 {x:V}{e:Yf}(r:jq [x] e):∃u,e=[u]/\jy x u:=by
 cases r with
 |cons f g=>cases g;exact⟨_,rfl,f⟩
def XU {x y:V}{e:Yf}(r:jq [x,y] e):∃u f,e=[u,f]/\jy x u/\jy y f:=by
 cases r with
 |cons g h =>
  cases h with
  |cons i j=>cases j;exact⟨_,_,rfl,g,i⟩
def MV (g:X.calm=true):jO X (.builtin "max") (λf H Q=>∃i j,f=[.int i,.int j]/\Q (.int (if j > i then j else i)) H):=by
 intro Y s Z H f l Q I r h;obtain⟨i,j,rfl,q⟩:=h;obtain⟨u,m,rfl,⟨t,rfl⟩,⟨t',rfl⟩⟩:=XU r;refine max_two_ints (I.ok.hd g) λh' tk k=>⟨_,H,I.kept k,?_,q⟩;by_cases e:j > i
 .rw[Zd e,Zd e];exact⟨_,rfl⟩
 .rw[Ze e,Ze e];exact⟨_,rfl⟩
def MW (g:X.calm=true):jO X (.builtin "min") (λf H Q=>∃i j,f=[.int i,.int j]/\Q (.int (if j<i then j else i)) H):=by
 intro Y s Z H f l Q I r h;obtain⟨i,j,rfl,q⟩:=h;obtain⟨u,m,rfl,⟨t,rfl⟩,⟨t',rfl⟩⟩:=XU r;refine min_two_ints (I.ok.hd g) λh' tk k=>⟨_,H,I.kept k,?_,q⟩;by_cases e:j<i
 .rw[Zd e,Zd e];exact⟨_,rfl⟩
 .rw[Ze e,Ze e];exact⟨_,rfl⟩
def MX:jO X (.type "str") (λe H Q=>∃i,e=[.int i]/\i.natAbs.log2<1920/\Q (.str (toString i)) H):=by
 intro Y s Z H e f Q I r h;obtain⟨i,rfl,hz,q⟩:=h;obtain⟨u,rfl,t,rfl⟩:=Q6 r;exact PySem.P.str_of_int hz ⟨.str _,H,I.tok _,⟨_,rfl⟩,q⟩
end
structure ObjM (h:Heap)(x dx C:Addr)(mA:Ye):Prop where
 obj:h.get? x=some (W.instObj C dx)
 ns:h.Ns1 dx mA
 ne:dx≠x
def MY {h:Heap}{c:Addr}{mA:Ye}(n:h.Ns1 c mA):∃f,h.get? c=some f/\∀name,W.lookIn name f=some (mA name):=by
 obtain⟨o,es,ep,g,i,j,_,l⟩:=n;refine⟨o,g,λname=>?_⟩;have e:=l name;unfold nsFind findBy at e;rw[<- Array.find?_toList] at e;unfold W.lookIn;rw[i];dsimp only
 split
 .simp_all
 .have a:es.toList.any (·.refKey)=false:=by
   rw[List.any_eq_false];intro y m;have ⟨z,t,b⟩:=j y ();simp[DictEntry.refKey,b]
  simp_all
def ObjM.look {h:Heap}{x b C:Addr}{mA:Ye}(I:ObjM h x b C mA):∃a,W.InstAt h x (W.instObj C b) C (some a)/\∀name,W.lookIn name a=some (mA name):=
 let ⟨a,ho,hl⟩:=MY I.ns
 ⟨a,⟨I.obj,rfl,rfl,ho⟩,hl⟩
section
variable {prog:Program}{w:World}{A:Around}{E:Ya}{s:Shared}{K:W.Frag}{x dx C f:Addr}{mA:Ye}{name:Str}{v:Value}
def MZ {a:Bool}{Q:Ya}(X:K.In s.heap)(I:ObjM s.heap x dx C mA)(c:W.plainGet K C name=true)(e:W.hasDictIn K C=true)
 (g:W.findIn K (.ref C) name=some none) (i:mA name=some v) (b:W.handedIn v=true) (h:Q v { s with toks:=s.toks+1 }):
 YJ prog w A (getAttr (.ref x) name a) Q E s:=by
 obtain⟨l,J,j⟩:=I.look;exact W.get_value X J (W.plainGet_of c).1 (W.findObj_own e g rfl (by rw[j,i])) b h
def Na {ns:Yk}{Q:Unit->YC}(X:K.In s.heap)(I:ObjM s.heap x dx C mA)
 (hs:W.findIn K (.ref C) "__setattr__" = some (some (.builtin "object.__setattr__"))) (hp:W.plainOver K C=true) (j:W.takerIn K C name=some none) (l:W.hasDictIn K C=true)
 (m:PySem.Within mA ns) (hsz:ns.length<=sizeLine)
 (h:∀h',ObjM h' x dx C (λy=>if y=name then some v else mA y)->Heap.SameBut dx s.heap h'->Q Yt { s with heap:=h',toks:=s.toks+2 }):
 YJ prog w A (setAttr (.ref x) name v) Q E s:=by
 obtain⟨r,J,t⟩:=I.look;refine W.set_plain X J hs (W.osa_open X J hp j λb=>?_);obtain⟨u,n,e⟩:=W.any_some l;refine Za (Zb (Za (Za (wpAny_loadPart I.obj (Za (W.Looks.here (W.looks_clsIn X n) ?_))))));rw[e];refine Zb (Za (Zb (Za (wpAny_nsSet1 I.ns λh' a c=>?_))));obtain⟨z,o,p,g,i,q⟩:=a.count (PySem.Within.cons name v m);exact Za (wpAny_lookBehind g (by rw[i];exact pastItsLine_dict ()) (Zb (h _ ⟨(c.2 _ (Ne.symm I.ne)).trans I.obj,a,I.ne⟩ c)))
def Nb {R:Result->YC}{b:Yf}{c:List (Str×Value)}(X:K.In s.heap)(e:W.makesIn K C=true)
 (g:W.findIn K (.ref C) "__init__" = some (some (.ref f))) (i:W.typeIn K (.ref f)=some (.type "function"))
 (h:codeAny (model prog w) (A.under (.builtin "type.__call__" ⟨.ref C::b,c⟩)) (.call (.ref f) ⟨.ref (s.heap.objs.size+1)::b,c⟩) (W.InitBack (s.heap.objs.size+1) R)
  { s with heap:=(s.heap.push W.emptyDict).push (W.instObj C s.heap.objs.size) }):
 codeAny (model prog w) A (.call (.ref C) ⟨b,c⟩) R s:=W.make_core (W.makes_of X e) (W.looks_findIn X g) (λa=>W.bind_fn X a i) (.inl rfl) h
end
def qQ (f:Str)(v:V):List (Str×V)->List (Str×V)
 | []=>[(f,v)]
 | (g,x)::r=>if g=f then(g,v)::r else(g,x)::qQ f v r
theorem Ez (f g)(v):∀fs:List (Str×V),(qQ f v fs).lookup g=if g=f then some v else fs.lookup g
 | []=>by
  show List.lookup g [(f,v)]=_
  grind
 | (k,x)::r=>by
  have a:=Ez f g v r;rw[show qQ f v ((k,x)::r)=(if k=f then(k,v)::r else(k,x)::qQ f v r) from rfl]
  grind
theorem BZ (f)(v):∀fs:List (Str×V),f∈(qQ f v fs).map (·.1)/\∀g,g∈fs.map (·.1)->g∈(qQ f v fs).map (·.1)
 | []=>⟨by simp[qQ],()⟩
 | (k,x)::r=>by
  have ⟨a,b⟩:=BZ f v r;rw[show qQ f v ((k,x)::r)=(if k=f then(k,v)::r else(k,x)::qQ f v r) from rfl]
  grind
theorem E1 (f)(v):∀fs:List (Str×V),(qQ f v fs).length<=fs.length+1
 | []=>by simp[qQ]
 | (k,x)::r=>by
  have a:=E1 f v r;rw[show qQ f v ((k,x)::r)=(if k=f then(k,v)::r else(k,x)::qQ f v r) from rfl]
  grind
def qJ {v:V}{o:Yg}(r:xm (some v) o):∃u,o=some u/\jy v u:=by
 cases o with
 |none=>exact(r).elim
 |some u=>exact⟨u,rfl,r⟩
def Nc {v:V}{u:Value}(r:jy v u):W.handedIn u=true:=by
 cases v with
 |non=>cases (r);rfl
 |bl b=>cases (r);rfl
 |int i=>have ⟨t,e⟩:=(r);cases e;rfl
 |str x=>have ⟨t,e⟩:=(r);cases e;rfl
 |byt b=>have ⟨t,e⟩:=(r);cases e;rfl
 |flt b=>have ⟨t,e⟩:=(r);cases e;rfl
 |ref a=>cases (r);rfl
 |ty n=>cases (r);rfl
section
variable {P:Program}{w:World}{H H':Hp}{h h':Heap}{a C dx:Addr}{fs fs':List (Str×V)}
def Cb (b:qP P w H h)(e:H a=some (.ins C dx fs)):∃mA,ObjM h a dx C mA/\(∀f,xm (fs.lookup f) (mA f))/\PySem.Within mA (fs.map (·.1))/\fs.length<=1000/\H dx=some (.own a):=have ⟨d,z,ne,c,mA,n,r,q⟩:=(b a _ e);⟨mA,⟨c,n,ne⟩,r,q,z,d⟩
end
structure Cls (K:W.Frag)(C:Addr):Prop where
 pg:W.plainGet K C Str.empty=true
 hd:W.hasDictIn K C=true
 po:W.plainOver K C=true
 sa:W.findIn K (.ref C) "__setattr__" = some (some (.builtin "object.__setattr__"))
def Cls.get {K:W.Frag}{C:Addr}(c:Cls K C)(f):W.plainGet K C f=true:=c.pg
def wW (K:W.Frag)(C:Addr)(f:Str):Prop:=W.findIn K (.ref C) f=some none
def wW.taker {K:W.Frag}{C:Addr}{f:Str}(n:wW K C f):W.takerIn K C f=some none:=by
 unfold W.takerIn;rw[n];rfl
section
variable {X:Cx}{Y:Yb}{Z: St}{H:Hp}{s:Shared}{a C dx:Addr}{fs:List (Str×V)}{f:Str}{v:V}{A:Around}{E:Ya}
def Nd {b:Bool}{Q:Ya}(I:Inv X Y Z H s)(e:H a=some (.ins C dx fs))(c:Cls X.K C)(n:wW X.K C f)(l:fs.lookup f=some v)
 (h:∀u s',Inv X Y Z H s'->jy v u->Q u s'):wpAny (model X.prog X.w) A (getAttr (.ref a) f b) Q E s:=by
 obtain⟨mA,O,r,_,_,_⟩:=Cb I.hok e;obtain⟨u,i,g⟩:=qJ (by rw[<- l];exact r f);exact MZ I.kIn O (c.get f) c.hd n i (Nc g) (h u _ (I.tok _) g)
def Nf {y:V}{u:Value}{Q:Unit->YC}(I:Inv X Y Z H s)(e:H a=some (.ins C dx fs))(c:Cls X.K C)(n:wW X.K C f)(w:fs.length<1000)(x:jy y u)
 (h:∀s',Inv X Y Z (upd H a (.ins C dx (qQ f y fs))) s'->Q Yt s'):wpAny (model X.prog X.w) A (setAttr (.ref a) f u) Q E s:=by
 obtain⟨mA,O,r,wi,_,j⟩:=Cb I.hok e;have hz:(fs.map (·.1)).length<=sizeLine:=by rw[Zql,sizeLine_eq];lia
 refine Na I.kIn O c.sa c.po n.taker c.hd wi hz λh' i l=>h _ ?_;have m:∃o,h'.get? dx=some o:=let ⟨o,_,_,e',_⟩:=i.ns;⟨o,e'⟩
 refine I.write (by rw[e];exact True.intro) (.inr j) (λb q p z=>(l.2 b p).trans z) m ⟨by rwa [JG O.ne],?_,O.ne,i.obj,_,i.ns,λg=>?_,λg t=>?_⟩
 .have:=E1 f y fs;lia
 .rw[Ez];by_cases q:g=f
  .rwa [Zd q,Zd q]
  simp_all
 .by_cases q:g=f
  .rw[q];exact(BZ f y fs).1
  .refine(BZ f y fs).2 g (wi g λz=>t ?_)
   simp_all
def Inv.made (I:Inv X Y Z H s):Inv X Y Z (upd (upd H s.heap.objs.size (.own (s.heap.objs.size+1))) (s.heap.objs.size+1) (.ins C s.heap.objs.size []))
 { s with heap:=(s.heap.push W.emptyDict).push (W.instObj C s.heap.objs.size) }:=by
 have c:(s.heap.push W.emptyDict).get? s.heap.objs.size=some W.emptyDict:=Zr s.heap rfl;have g:((s.heap.push W.emptyDict).push (W.instObj C s.heap.objs.size)).get? (s.heap.objs.size+1)=some (W.instObj C s.heap.objs.size):=by
  have:=Zr (s.heap.push W.emptyDict) (o:=W.instObj C s.heap.objs.size) rfl
  simp_all
 have h:(s.heap.push W.emptyDict).Ns s.heap.objs.size (λ_=>none):=⟨W.emptyDict,#[],_,c,rfl,(λe i=>Zn i ()),λ_=>rfl⟩;refine(I.laid (o:=.own (s.heap.objs.size+1)) (t':=s.toks) (λb u q=>Zq _ q) (Zf _) ⟨_,c⟩).laid (λb u q=>Zq _ q) () ?_;have ne:s.heap.objs.size≠s.heap.objs.size+1:=()
 refine⟨by rw[JG ne,JK],Ua _,ne,g,λ_=>none,(Heap.Ns1.of_empty h).at λo q=>Zq _ q,λ_=>True.intro,λy j=>Zn rfl j⟩
def Ng {prog:Program}{w:World}{env:Env}{e:Expr}{f:Str}{b:Pos}{s:Shared}{Q:Ya}(c:attributeBase e f env (eval e env)=eval e env)
 (h:YJ prog w A (eval e env) (λo s₁=>YJ prog w A (getAttr o f true) Q E s₁) E s):YJ prog w A (eval (.Attribute e f b) env) Q E s:=
 Attribute_any_ h (by rw[arm_eval_Attribute,c])
end
def mn (K:W.Frag)(c:TE)(f:Str):TE:=λZ H Q=>c Z H λx b=>∃a C e fs v,x=.ref a/\b a=some (.ins C e fs)/\Cls K C/\wW K C f/\fs.lookup f=some v/\Q v b
def ms (K:W.Frag)(e g:TE)(f:Str):TS:=λD Z H=>g Z H λy h=>e Z h λx b=>∃a C c fs,x=.ref a/\b a=some (.ins C c fs)/\Cls K C/\wW K C f/\fs.length<1000 /\
 D.nx Z (upd b a (.ins C c (qQ f y fs)))
section
variable {X:Cx}{o e value:Expr}{f:Str}{pos pos' tpos:Pos}{ta tv:TE}
def Nh (b:PE X e ta)(g:attributeBase e f X.env (eval e X.env)=eval e X.env):PE X (.Attribute e f pos) (mn X.K ta f):=by
 intro Y s Z H Q I h;refine Ng g (jG (b Y s Z H _ I h) λu y ⟨x,i,j,m,a,C,z,fs,v,p,r,c,n,l,q⟩=>?_);subst p;obtain rfl:=m;exact Nd j r c n l λA B t w=>⟨v,i,t,w,q⟩
def Ni (b:PE X o ta)(g:PE X value tv)(hs:swapsWith value (some (.Attribute o f pos')) pos.line X.env=pure false):PS X (.Assign [.Attribute o f pos'] value pos) (ms X.K ta tv f):=by
 intro Y s Z H D I h;refine plainObj_wpAny_Assign_Attribute (jG (g Y s Z H _ I h) λu i ⟨y,j,m,p,q⟩=>jG (b Y i Z j _ m q) λB E ⟨x,F,r,t,a,C,G,fs,v,w,c,n,l,z⟩=>?_) hs;subst v;obtain rfl:=t;exact Nf r w c n l p λJ A=>⟨Z,_,A,z⟩
end
section
variable {X:Cx}{Y:Yb}{Z: St}{H:Hp}{s:Shared}{A:Around}{E:Ya}{Q:Ya}{c:Value}{b:Bool}
inductive TyOf (K:W.Frag)(H:Hp):V->Value->Prop where
 |non:TyOf K H .non (.type "NoneType")
 |bl (x:Bool):TyOf K H (.bl x) (.type "bool")
 |int (i:Int):TyOf K H (.int i) (.type "int")
 |str (x:Str):TyOf K H (.str x) (.type "str")
 |flt (x:UInt64):TyOf K H (.flt x) (.type "float")
 |lst {a:Addr} {xs:YE} (e:H a=some (.lst xs)):TyOf K H (.ref a) (.type "list")
 |frz {a:Addr} {o:Obj} {xs:YE} (e:H a=some (.frz o (.lst xs))):TyOf K H (.ref a) (.type "list")
 |tup {a:Addr} {xs:YE} (e:H a=some (.tup xs)):TyOf K H (.ref a) (.type "tuple")
 |dK {a:Addr} {kvs:List (j6×V)} (e:H a=some (.dK kvs)):TyOf K H (.ref a) (.type "dict")
 |dT {a:Addr} {kvs:List (List j6×V)} (e:H a=some (.dT kvs)):TyOf K H (.ref a) (.type "dict")
 |ins {a C dx:Addr} {fs:List (Str×V)} (e:H a=some (.ins C dx fs)) (cl:Cls K C) (ha:W.findIn K (.ref C) "__class__" = some (some (.builtin "object.__class__")))
  (hn:W.specialIn K (.builtin "object.__class__") "__get__" = some (some (.builtin "getset_descriptor.__get__"))) (htk:W.takesIn K (.builtin "object.__class__")=some true)
  (hm:W.mroIn K C (.type "object")=some true):TyOf K H (.ref a) (.ref C)
def Nj {x:V}{u t:Value}(I:Inv X Y Z H s)(f:jy x u)(B:TyOf X.K H x t)(e:W.kitOne X.K t c=some b)(h:∀tk,Q (.bool b) { s with toks:=tk }):
 wpAny (model X.prog X.w) A (call (.builtin "isinstance") [u,c]) Q E s:=by
 cases B with
 |non=>cases (f);exact W.kia_one W.kitx_none I.kIn True.intro e (λz=>nomatch z) h
 |bl y=>cases (f);exact W.kia_one W.kitx_bool I.kIn True.intro e (λz=>nomatch z) h
 |int i=>have ⟨t,q⟩:=(f);cases q;exact W.kia_one W.kitx_int I.kIn True.intro e (λz=>nomatch z) h
 |str y=>have ⟨t,q⟩:=(f);cases q;exact W.kia_one W.kitx_str I.kIn True.intro e (λz=>nomatch z) h
 |flt y=>have ⟨t,q⟩:=(f);cases q;exact W.kia_one W.kitx_float I.kIn True.intro e (λz=>nomatch z) h
 | @lst a m g =>
  cases (f);obtain⟨_,_,n,_,j⟩:=(I.hok a _ g);exact W.kia_one W.kitx_list I.kIn ⟨_,j,rfl⟩ e (λz=>nomatch z) h
 | @frz a L m g =>
  cases (f);obtain⟨_,_,_,n,_,j⟩:=(I.hok a _ g);exact W.kia_one W.kitx_list I.kIn ⟨_,j,rfl⟩ e (λz=>nomatch z) h
 | @tup a m g =>
  cases (f);obtain⟨_,_,_,p⟩:=(I.hok a _ g);obtain⟨o,j,l,_⟩:=p;exact W.kia_one W.kitx_tuple I.kIn ⟨o,j,l⟩ e (λz=>nomatch z) h
 | @dK a r g =>
  cases (f);obtain⟨_,_,M,_,p⟩:=(I.hok a _ g);obtain⟨o,es,ep,j,l,_⟩:=p;exact W.kia_one W.kitx_dict I.kIn ⟨o,j,l.1⟩ e (λz=>nomatch z) h
 | @dT a r g =>
  cases (f);obtain⟨_,_,m,_,o,es,ep,j,l,_⟩:=(I.hok a _ g);exact W.kia_one W.kitx_dict I.kIn ⟨o,j,l.1⟩ e (λz=>nomatch z) h
 | @ins a C N fs g w F G v K =>
  cases (f);obtain⟨mA,O,_⟩:=Cb I.hok g;obtain⟨P,J,_⟩:=O.look;exact W.kia_one (W.kitx_own (w.get _) w.hd F G v K) I.kIn J e (λz=>nomatch z) h
end
structure Room (k:Nat)(A:Around):Prop where
 hd:A.handled=none
 dp:A.depth+3*k+5<recursionLimit
 un:A.units+16*k+200<cLine
def Room.mono {j k:Nat}{A:Around}(r:Room k A)(h:j<=k):Room j A:=⟨r.hd,by have:=r.dp;lia,by have:=r.un;lia⟩
theorem Room.deeper {k:Nat}{A:Around}(r:Room (k+1) A)(env):Room k (A.deeper env):=
 ⟨r.hd,by have:=r.dp;show A.depth+1+3*k+5<_;lia,by have:=r.un;show A.units+3+16*k+200<_;lia⟩
def Nk {A:Around}{C:Addr}{a:Yf}{b:List (Str×Value)}:(A.under (.builtin "type.__call__" ⟨.ref C::a,b⟩)).depth=A.depth+1:=by
 rfl
def Nl {A:Around}{C:Addr}{a:Yf}{b:List (Str×Value)}:(A.under (.builtin "type.__call__" ⟨.ref C::a,b⟩)).units=A.units+1:=by
 rfl
def Room.make {k:Nat}{A:Around}(r:Room (k+1) A)(C)(us)(kw):Room k (A.under (.builtin "type.__call__" ⟨.ref C::us,kw⟩)):=
 ⟨r.hd,by have:=r.dp;rw[Nk];lia,by have:=r.un;rw[Nl];lia⟩
theorem Room.depth {k:Nat}{A:Around}(r:Room k A):A.depth<recursionLimit:=by have:=r.dp;lia
theorem Room.units {k:Nat}{A:Around}(r:Room k A):A.units+64<cLine:=by have:=r.un;lia
def wf:TA:=λ_ H Q=>Q [] H
def Ai (a:TE)(b:TA):TA:=λZ H Q=>a Z H λx c=>b Z c λe f=>Q (x::e) f
section
variable {X:Cx}{e:Expr}{es:Ym}{te:TE}{t:TA}{pos:Pos}
def Wp:PA X [] wf:=λ_ _ _ _ H Q I h=>Calls.spliced_nil ⟨[],H,I,.nil,h⟩
def V0 (a:PE X e te)(b:PA X es t)(hs:starEach (e::es) X.env=(false,eval e X.env)::starEach es X.env:=by rfl):PA X (e::es) (Ai te t):=by
 intro pos Y s Z H Q I h;rw[hs];exact Calls.spliced_cons (jG (a Y s Z H _ I h) λu c ⟨x,f,g,i,j⟩=>(jG (b pos Y c Z f _ g j) λq r ⟨l,m,n,o,p⟩=>⟨x::l,m,n,.cons i o,p⟩))
def bZ (t:TA):TE:=λZ H Q=>t Z H λa b=>a.length<=sizeLine/\∀p,b p=none->Q (.ref p) (upd b p (.tup a))
def mi (t:TA):TE:=λZ H Q=>t Z H λa b=>a.length<=sizeLine/\∀p,b p=none->Q (.ref p) (upd b p (.lst a))
def Nm {x1}(h:PA X es t):PE X (.Tuple es x1 pos) (bZ t):=λY s Z H Q I f=>wpAny_Tuple_spliced (jG (h pos Y s Z H _ I f) λg a ⟨i,j,c,r,z,q⟩=>⟨by rwa [<- r.length],⟨.ref a.heap.objs.size,upd j a.heap.objs.size (.tup i),c.laid (λb u e=>Zq _ e) (Zf _) (⟨⟨z,⟨_,Zr _ rfl,rfl⟩⟩,g,r,⟨_,Zr _ rfl,rfl,_,rfl⟩⟩),rfl,q _ (c.hok.fresh (Zf _))⟩⟩)
def No (h:PA X es t):PE X (.List es pos) (mi t):=λY s Z H Q I f=>wpAny_List_spliced (jG (h pos Y s Z H _ I f) λg a ⟨i,j,c,r,z,q⟩=>⟨by rwa [<- r.length],⟨.ref a.heap.objs.size,upd j a.heap.objs.size (.lst i),c.laid (λb u e=>Zq _ e) (Zf _) ⟨z,g,0,r,Zr _ rfl⟩,rfl,q _ (c.hok.fresh (Zf _))⟩⟩)
end
abbrev Sp:=YE->Hp->VK->XK->Prop
abbrev zk:=List Env->Hp->Shared->XK->Ya
structure Env0 (P:Program)(w:World)(K:W.Frag)(mg:Ye)(base:Heap)(A:Around)(outer:List Env)(s:Shared)(H:Hp):Prop where
 frames:A.frames=some outer
 mod:Mod K mg base
 bs:∀b o,base.get? b=some o->s.heap.get? b=some o/\H b=none
 bsz:base.objs.size<=s.heap.objs.size
 funs:s.heap.FunFrames base outer
 frf:∀b∈xh outer,H b=none
 hok:qP P w H s.heap
 bare:AllBare s.gens
def CE (a:List Env)(P:Program)(w:World)(H:Hp)(s:Shared)(Q:VK)(u:Value)(s':Shared):Prop:=
 ∃v b,s'.os=s.os/\AllBare s'.gens/\Un (xh a) [] H b s.heap s'.heap/\qP P w b s'.heap/\jy v u/\Q v b
def CR (CX:zk)(a:List Env)(P:Program)(w:World)(H:Hp)(s:Shared)(Q:VK)(E:XK)(r:Result)(s':Shared):Prop:=
 match r with
 | .ok (.ret u)=>CE a P w H s Q u s'
 | .ok _=>False
 | .error e=>CX a H s E e s'
structure FnOk (P:Program)(w:World)(K:W.Frag)(mg:Ye)(base:Heap)(CX:zk)(k:Nat)(f:Addr)(fd:FuncData)(ps:Yk)(sp:Sp):Prop where
 len:∀vs H Q E,sp vs H Q E->vs.length=ps.length
 run:∀(A:Around) (outer:List Env) (s:Shared) (H:Hp) (args:Args) (us:Yf) (vs:YE) (Q:VK) (E:XK),Room k A->Env0 P w K mg base A outer s H->BindsTo s fd args (ps.zip us)->jq vs us->sp vs H Q E ->
  codeAny (model P w) A (.call (.ref f) args) (CR CX outer P w H s Q E) s
theorem FnOk.mono {P:Program}{w:World}{K:W.Frag}{mg:Ye}{a:Heap}{CX:zk}{j k:Nat}{f:Addr}{c:FuncData}{ps:Yk}{sp:Sp}(F:FnOk P w K mg a CX j f c ps sp)(h:j<=k):
 FnOk P w K mg a CX k f c ps sp:=⟨F.len,λA b s H args e g Q E i=>F.run A b s H args e g Q E (i.mono h)⟩
def FnOk.imp {P:Program}{w:World}{K:W.Frag}{mg:Ye}{a:Heap}{CX:zk}{k:Nat}{f:Addr}{g:FuncData}{ps:Yk}{sp e:Sp}(F:FnOk P w K mg a CX k f g ps sp)
 (h:∀c H Q E,e c H Q E->sp c H Q E):FnOk P w K mg a CX k f g ps e:=
 ⟨λc H Q E q=>F.len c H Q E (h _ _ _ _ q),λA b s H args i c Q E j l m n hs=>F.run A b s H args i c Q E j l m n (h _ _ _ _ hs)⟩
def Env0.make {P:Program}{w:World}{K:W.Frag}{mg:Ye}{b:Heap}{A:Around}{a:List Env}{s:Shared}{H:Hp}(e:Env0 P w K mg b A a s H)(C)(us)(kw):
 Env0 P w K mg b (A.under (.builtin "type.__call__" ⟨.ref C::us,kw⟩)) a s H:=⟨by first|exact e.frames|(simpa using e.frames),e.mod,e.bs,e.bsz,e.funs,e.frf,e.hok,e.bare⟩
section
variable {X:Cx}{Y:Yb}{Z: St}{H:Hp}{s s':Shared}
def Inv.env0 (I:Inv X Y Z H s):Env0 X.prog X.w X.K X.mg X.base X.A X.stack s H:=
 ⟨I.ok.frames,I.ok.mod,I.bs,Zh I.ok.bsz I.sz,I.stack,I.stkFree,I.hok,I.bare⟩
def Inv.after {Q:VK}{u:Value}(I:Inv X Y Z H s)(h:CE X.stack X.prog X.w H s Q u s'):EP X Y Z Q u s':=by
 obtain⟨v,c,os,bare,un,a,r,q⟩:=h;obtain⟨f,g,d,t,e⟩:=s';obtain rfl:=os;exact⟨v,c,I.call un a bare (λb z=>Zn z ()),r,q⟩
end
def Cc (sp:Sp)(a:YE)(E:XK)(t:TA):TE:=λZ H Q=>t Z H λb c=>sp (b++a) c Q E
def vS (C:Addr)(sp:Sp)(b:YE)(E:XK)(t:TA):TE:=λZ H Q=>t Z H λe c=>∀x a,c x=none->c a=none->a≠x ->
 sp (.ref x::(e++b)) (upd (upd c a (.own x)) x (.ins C a [])) (λv f=>v=.non/\Q (.ref x) f) E
def zp (K:W.Frag)(b:FuncData)(ps:Yk)(ds:Yf):Prop:=
 ∀(s:Shared) (a:Yf),K.In s.heap->(a++ds).length=ps.length->BindsTo s b ⟨a,[]⟩ (ps.zip (a++ds))
def zp.all {K:W.Frag}{b:FuncData}{ps:Yk}(h:∀a:Yf,a.length=ps.length->bindArgs b ⟨a,[]⟩=pure (ps.zip a)):zp K b ps []:=λs a _ c=>by
 rw[ZA] at c ⊢;exact .of_eq (h a c)
def Xk (CX:zk)(X:Cx)(E:XK):Prop:=∀(Y:Yb) (Z: St) (H:Hp) (s:Shared) (e:Value) (s':Shared),Inv X Y Z H s->CX X.stack H s E e s'->X.xe e s'
section
variable {X:Cx}{CX:zk}{k:Nat}{f C:Addr}{fd:FuncData}{ps:Yk}{sp:Sp}{dvs:YE}{ds:Yf}{E:XK}{x m:Str}{p pos apos:Pos}{e o:Expr}{es:Ym}{ta:TE}{t:TA}
def Np {Y:Yb}{Z: St}{H:Hp}{s:Shared}{Q:VK}{a:Yf}{c:YE}(F:FnOk X.prog X.w X.K X.mg X.base CX k f fd ps sp)(i:Room k X.A)(j:zp X.K fd ps ds)(l:jq dvs ds)(n:Xk CX X E)
 (I:Inv X Y Z H s) (r:jq c a) (h:sp (c++dvs) H Q E):YI X (call (.ref f) a) (EP X Y Z Q) X.xe s:=by
 have g:=r.append l;have q:(a++ds).length=ps.length:=by rw[<- g.length];exact F.len _ _ _ _ h
 refine wpAny_call (codeAny_mono (F.run X.A X.stack s H ⟨a,[]⟩ (a++ds) (c++dvs) Q E i I.env0 (j s a I.kIn q) g h) λr s' b=>?_);cases r with
 |error e=>exact n Y Z H s e s' I b
 |ok v =>
  cases v with
  |ret u=>exact I.after b
  |next=>exact False.elim b
  |brk=>exact False.elim b
  |cont=>exact False.elim b
def E2 (F:FnOk X.prog X.w X.K X.mg X.base CX k f fd ps sp)(g:Room k X.A)(i:Gl X x)(j:X.mg x=some (.ref f))(l:W.keepIn X.K (.ref f)=true)(n:zp X.K fd ps ds)(u:jq dvs ds)(v:Xk CX X E)
 (w:PA X (e::es) t) (a:(x == ("__debug__" : Str))=false:=by decide) (y:starEach (e::es) X.env=(false,eval e X.env)::starEach es X.env:=by rfl) (b:(backTo pos (starEach es X.env)).any (·.1)=false:=by rfl):
 PE X (.Call (.Name x p) (e::es) [] pos) (Cc sp dvs E t):=by
 intro Y s Z H Q I h;exact wpAny_Call_Name_kw (XR I i j (W.callWith_K I.ok.mod.kin l (jG (w pos Y s Z H _ I h) λz A ⟨B,G,c,r,q⟩=>⟨c.kIn,Np F g n u v c r q⟩) y b) a)
structure Mk (K:W.Frag)(C f:Addr):Prop where
 makes:W.makesIn K C=true
 init:W.findIn K (.ref C) "__init__" = some (some (.ref f))
 fn:W.isFn K (.ref f)=true
 kp:W.keepIn K (.ref C)=true
def Nq {Y:Yb}{Z: St}{H:Hp}{s:Shared}{Q:VK}{b:Yf}{i:YE}(M:Mk X.K C f)(F:FnOk X.prog X.w X.K X.mg X.base CX k f fd ps sp)(n:Room (k+1) X.A)(q:zp X.K fd ps ds)(w:jq dvs ds)
 (y:Xk CX X E) (I:Inv X Y Z H s) (r:jq i b)
 (h:∀x c,H x=none->H c=none->c≠x->sp (.ref x::(i++dvs)) (upd (upd H c (.own x)) x (.ins C c [])) (λv z=>v=.non/\Q (.ref x) z) E):
 YI X (call (.ref C) b) (EP X Y Z Q) X.xe s:=by
 have j:=h (s.heap.objs.size+1) s.heap.objs.size (I.hok.fresh (Nat.le_succ _)) (I.hok.fresh (Zf _)) (Zi (UK _));have g:=Inv.made (C:=C) I;have l:jq (V.ref (s.heap.objs.size+1)::(i++dvs)) (Value.ref (s.heap.objs.size+1)::(b++ds)):=.cons rfl (r.append w);have A:(Value.ref (s.heap.objs.size+1)::b++ds).length=ps.length:=by
  have e:=l.length;rw[F.len _ _ _ _ j] at e;exact e.symm
 refine wpAny_call (Nb I.kIn M.makes M.init (Ys.mp M.fn) (codeAny_mono (F.run _ X.stack _ _ ⟨Value.ref (s.heap.objs.size+1)::b,[]⟩ (Value.ref (s.heap.objs.size+1)::(b++ds)) _ _ E (n.make C b [])
  (g.env0.make C b []) (q _ (Value.ref (s.heap.objs.size+1)::b) g.kIn A) l j) λr s' a=>?_))
 cases r with
 |error e=>exact y Y Z _ _ e s' g a
 |ok B =>
  cases B with
  |ret u =>
   obtain⟨v,G,J,K,L,N⟩:=g.after a;subst L;exact⟨K,⟨V.ref (s.heap.objs.size+1),G,J,rfl,N⟩⟩
  |next=>exact False.elim a
  |brk=>exact False.elim a
  |cont=>exact False.elim a
def Nr (M:Mk X.K C f)(F:FnOk X.prog X.w X.K X.mg X.base CX k f fd ps sp)(g:Room (k+1) X.A)(i:Gl X x)(j:X.mg x=some (.ref C))(l:zp X.K fd ps ds)(n:jq dvs ds)(u:Xk CX X E)
 (v:PA X (e::es) t) (a:(x == ("__debug__" : Str))=false:=by decide) (w:starEach (e::es) X.env=(false,eval e X.env)::starEach es X.env:=by rfl) (b:(backTo pos (starEach es X.env)).any (·.1)=false:=by rfl):
 PE X (.Call (.Name x p) (e::es) [] pos) (vS C sp dvs E t):=λY s Z H Q I h=>wpAny_Call_Name_kw (XR I i j (W.callWith_K I.ok.mod.kin M.kp (jG (v pos Y s Z H _ I h) λy z ⟨A,B,c,r,q⟩=>⟨c.kIn,Nq M F g l n u c r q⟩) w b) a)
end
structure FnScope (N P:Yk)(sc:Scope):Prop where
 kind:sc.kind=.function
 co:sc.isCoroutine=false
 gen:sc.isGenerator=false
 nd:N.Nodup
 pre:N.take P.length=P
 par:∀x∈P,sc.names.lookup x=some .local\/sc.names.lookup x=some .cell
 nofree:∀y∈sc.names,y.2 ≠ .free
theorem E3 {kindOf:Str->Option NameKind}{x:Str}:∀{binds:List (Str×Value)} {m:Ye},(∀v,(x,v)∉binds)->bindL kindOf binds m x=m x
 | [],_,_=>rfl
 | (n,v)::r,m,h=>by
  unfold bindL;rw[E3 ()]
  split
  .grind
  .rfl
theorem E4 {kindOf:Str->Option NameKind}{x:Str}:∀{binds:List (Str×Value)} {m:Ye},(∀v,(x,v)∉binds)->bindC kindOf binds m x=m x
 | [],_,_=>rfl
 | (n,v)::r,m,h=>by
  unfold bindC;rw[E4 ()]
  split
  .rfl
  grind
theorem E5 {kindOf:Str->Option NameKind}{x:Str}{v:Value}:∀{P:Yk} {a:Yf} {i:Nat} {m:Ye},P.Nodup->P[i]? = some x->a[i]? = some v->kindOf x=some .local ->
 bindL kindOf (P.zip a) m x=some v
 | [],_,_,_,_,h,_,_=>by simp at h
 |_::_,[],_,_,_,_,h,_=>by simp at h
 |p::P,w::a,0,m,nd,h1,h2,hk=>by
  simp at h1 h2;subst h1;subst h2;show bindL kindOf ((p,w)::P.zip a) m p=_;unfold bindL;rw[E3 λv b=>(Jl.mp nd).1 (List.of_mem_zip b).1,Zd hk];simp
 |p::P,w::a,i+1,m,nd,h1,h2,hk=>by
  show bindL kindOf ((p,w)::P.zip a) m x=_;exact E5 () (by simpa using h1) (by simpa using h2) hk
theorem E6 {kindOf:Str->Option NameKind}{x:Str}{v:Value}:∀{P:Yk} {a:Yf} {i:Nat} {m:Ye},P.Nodup->P[i]? = some x->a[i]? = some v->kindOf x≠some .local ->
 bindC kindOf (P.zip a) m x=some v
 | [],_,_,_,_,h,_,_=>by simp at h
 |_::_,[],_,_,_,_,h,_=>by simp at h
 |p::P,w::a,0,m,nd,h1,h2,hk=>by
  simp at h1 h2;subst h1;subst h2;show bindC kindOf ((p,w)::P.zip a) m p=_;unfold bindC;rw[E4 λv b=>(Jl.mp nd).1 (List.of_mem_zip b).1,Ze hk];simp
 |p::P,w::a,i+1,m,nd,h1,h2,hk=>by
  show bindC kindOf ((p,w)::P.zip a) m x=_;exact E6 () (by simpa using h1) (by simpa using h2) hk
def start (N:Yk)(a:YE):St:=a.map some++List.replicate (N.length-a.length) none
def qf (CX:zk)(P:Program)(w:World)(K:W.Frag)(mg:Ye)(base:Heap)(N:Yk)(b:Str)(a:Scope)(f:Addr)(g:Value)(A:Around)(outer:List Env)(s:Shared)(H:Hp)(E:XK):Cx where
 prog:=P
 w:=w
 K:=K
 mg:=mg
 base:=base
 A:=A.deeper (envOfC b a s.heap.objs.size f g)
 N:=N
 s₀:=s
 H₀:=H
 env:=envOfC b a s.heap.objs.size f g
 outer:=outer
 stack:=envOfC b a s.heap.objs.size f g::outer
 ex:=[]
 calm:=true
 fn:=λ_=>true
 pn:=[]
 xe:=λe s'=>wpAny (model P w) (A.deeper (envOfC b a s.heap.objs.size f g)) (leaving (envOfC b a s.heap.objs.size f g) e) (λ_ c=>CX outer H s E e c) (λh c=>CX outer H s E h c) s'
def E7 {a:Scope}{n:Nat}{x:Str}(h:a.names.lookup x=some .cell):∃c,(cellsFrom n a.names []).lookup x=some c:=have q:=W.cellsFrom_some a.names n [] (.inl h);Js.mp q
def Nt {CX:zk}{P:Program}{w:World}{K:W.Frag}{mg:Ye}{l:Heap}{N ps:Yk}{j:Str}{a:Scope}{f:Addr}{B:Value}{A:Around}{g:List Env}{s G:Shared}{H:Hp}{E:XK}{C:Yf}{n:YE}
 (S:FnScope N ps a) (M:A.handled=none) (m:Env0 P w K mg l A g s H) (T:n.length=ps.length) (r:jq n C)
 (x:InCallC s s.heap.objs.size (bindL (envOfC j a s.heap.objs.size f B).kindOf (ps.zip C) λ_=>none) (cellsFrom (s.heap.objs.size+1) a.names []) (bindC (envOfC j a s.heap.objs.size f B).kindOf (ps.zip C) λ_=>none) G):
 Inv (qf CX P w K mg l N j a f B A g s H E) [] (start N n) H G:=by
 have O:ps.length<=N.length:=by have:=Zt List.length S.pre;grind
 obtain⟨F,tk,rfl,I⟩:=x.done;have o:∀b:Addr,b∉(qf CX P w K mg l N j a f B A g s H E).ex:=λb z=>Zn (show b∈([]:Yl) from z) ();refine⟨⟨m.mod,S.kind,rfl,rfl,Zf _,λy z c F J=>?_,λy hy=>?_,λy c _ h=>?_,λ_=>M,Around.frames_deeper m.frames,.inr ⟨rfl,rfl⟩,λb z=>Zn z (o b),m.bs,m.bsz,λb _ _=>o b,(),m.funs,m.frf⟩,
  rfl,m.bare,Un.kept I,⟨_,x.toInCall.ns,λi y v F J U=>?_⟩,λy c h=>⟨_,x.cell y c h⟩,m.hok.fresh (Zf _),λy c h=>?_,λp hp=>Zn (show p∈([]:Yb) from hp) (),m.hok.kept I,?_⟩
 .exact name_of_addr x.apart (PySem.mem_of_lookup F) (PySem.mem_of_lookup J)
 .have hy:=hy;rcases hy with hy|hy
  .exact E7 hy
  .exact Zn rfl (S.nofree _ (PySem.mem_of_lookup hy))
 .exact Zz (x.above y c (PySem.mem_of_lookup h))
 .have X:i<n.length:=by
   grind[start,List.getElem?_replicate]
  have Q:n[i]? = some v:=by
   grind[start,List.getElem?_map]
  have ⟨u,L,R⟩:=r.get Q;have hp:ps[i]? = some y:=by
   rwa [<- S.pre,VR ()]
  have t:ps.Nodup:=by rw[<- S.pre];exact S.nd.sublist (List.take_sublist _ _)
  refine⟨u,R,?_⟩;rcases S.par y (Uf hp) with k|k
  .exact .inl ⟨k,E5 t hp L k⟩
  .obtain⟨c,e⟩:=E7 k;refine .inr ⟨.inl k,c,e,?_⟩;have q:=x.cell y c e
   rwa [E6 t hp L (by show a.names.lookup y≠_;simp_all)] at q
 .exact m.hok.fresh (Zz (x.above y c (PySem.mem_of_lookup h)))
 .unfold start;show _=N.length
  simp_all
def E8 {CX:zk}{P:Program}{w:World}{K:W.Frag}{mg:Ye}{i:Heap}{k:Nat}{f:Addr}{name g:Str}{params:Arguments}{j:List Stmt}{a:Scope}{U kV B X h ct oc:Value}{Y od:Option Addr}
 {M:Array Yg} {N ps:Yk} {sp:Sp} (lk:K.lookup f=some ⟨oc,od,.func (W.fnOf name g params j a U kV B X Y h ct),M⟩) (O:W.codeIn K h g=true) (S:FnScope N ps a)
 (len:∀l H Q E,sp l H Q E->l.length=ps.length)
 (p:∀A c s H l Q E,Room k (A.deeper (envOfC g a s.heap.objs.size f h))->sp l H Q E ->
  ∃t,qO (qf CX P w K mg i N g a f h A c s H E) j t/\t { nx:=λ_ m=>Q .non m,rt:=Q } (start N l) H):
 FnOk P w K mg i CX (k+1) f (W.fnOf name g params j a U kV B X Y h ct) ps sp:=by
 refine⟨len,λA c s H args us l Q E R C hb r F=>?_⟩;have Z:=C.mod.kin.keeps λb o e=>(C.bs b o e).1;have z:∀y∈ps.zip us,a.names.lookup y.1=some .local\/(a.names.lookup y.1=some .cell/\((cellsFrom (s.heap.objs.size+1) a.names []).lookup y.1).isSome=true):=λ⟨n,v⟩ hy=>by
  rcases S.par n (List.of_mem_zip hy).1 with q|q
  .exact .inl q
  .exact .inr ⟨q,W.cellsFrom_some _ _ _ (.inl q)⟩
 refine codeAny_call_function R.depth (Z _ _ lk) rfl S.co S.gen rfl (W.codeRec_of Z O) (hb _ _ _ _ (wpAny_newFunctionEnv_cells S.kind z λenv he s1 x=>?_));subst he;refine⟨(C.mod.nolimit.keeps λb o e=>(C.bs b o e).1).keeps x.toInCall.keep,codeAny_func ?_⟩;obtain⟨t,ht,hq⟩:=p A c s H l Q E (R.deeper _) F;have I:Inv (qf CX P w K mg i N g a f h A c s H E) [] (start N l) H s1:=Nt S R.hd C (len _ _ _ _ F) r x;refine Zc (ht [] s1 (start N l) H _ I hq) (λfl s' hs=>?_) λe s' hs=>hs;have G:∀{L:St} {m:Hp} {v:V} {u:Value},Inv (qf CX P w K mg i N g a f h A c s H E) [] L m s'->jy v u->Q v m->CE c P w H s Q u s':=
  λ{L m v u} J T q=>⟨v,m,J.os,J.bare,J.base,J.hok,T,q⟩
 cases fl with
 |ret u =>
  obtain⟨v,L,m,J,T,q⟩:=hs;exact G J T q
 |next =>
  obtain⟨L,m,J,q⟩:=hs;exact G (v:=V.non) J rfl q
 |brk =>
  obtain⟨_,_,_,q⟩:=hs;exact False.elim q
 |cont =>
  obtain⟨_,_,_,q⟩:=hs;exact False.elim q
section
variable {X:Cx}{x:Str}{p pos:Pos}{e:Expr}{es:Ym}{t:TA}{id T:String}{r:YE->Hp->VK->Prop}
def wl (r:YE->Hp->VK->Prop)(t:TA):TE:=λZ H Q=>t Z H λa b=>r a b Q
def Aj (c:jO X (.builtin id) r)(f:Gl X x)(g:X.mg x=none)(i:bootBuiltins x=some (.builtin id))(j:PA X (e::es) t)(l:x ≠ "__name__" := by decide)(a:(x == ("__debug__" : Str))=false:=by decide)
 (m:starEach (e::es) X.env=(false,eval e X.env)::starEach es X.env:=by rfl) (b:(backTo pos (starEach es X.env)).any (·.1)=false:=by rfl):PE X (.Call (.Name x p) (e::es) [] pos) (wl r t):=λY s Z H Q I h=>wpAny_Call_Name_kw (WE I f g i (PyProof.Rows.callWith_builtin1 (jG (j pos Y s Z H _ I h) λn o ⟨q,u,v,w,y⟩=>c Y o Z u q n Q v w y) m b) l a)
def XV (c:jO X (.type T) r)(f:Gl X x)(g:X.mg x=none)(i:bootBuiltins x=some (.type T))(j:PA X (e::es) t)(l:x ≠ "__name__" := by decide)(a:(x == ("__debug__" : Str))=false:=by decide)
 (m:starEach (e::es) X.env=(false,eval e X.env)::starEach es X.env:=by rfl) (b:(backTo pos (starEach es X.env)).any (·.1)=false:=by rfl):PE X (.Call (.Name x p) (e::es) [] pos) (wl r t):=λY s Z H Q I h=>wpAny_Call_Name_kw (WE I f g i (PyProof.Rows.callWith_type1 (jG (j pos Y s Z H _ I h) λn o ⟨q,u,v,w,y⟩=>c Y o Z u q n Q v w y) m b) l a)
end
end L2
namespace HT
open PySem PyProof.Rows
def lexLt:Yh->List Int->Bool
 | [],[]=>false
 | [],_::_=>true
 |_::_,[]=>false
 |x::xs,y::ys=>if x=y then lexLt xs ys else decide (x<y)
theorem lexLt_cons (x y)(xs ys):lexLt (x::xs) (y::ys)=if x=y then lexLt xs ys else decide (x<y):=rfl
theorem lexLt_nil_nil:lexLt [] []=false:=rfl
def Nu (y)(ys):lexLt [] (y::ys)=true:=rfl
def Nv (x)(xs):lexLt (x::xs) []=false:=rfl
def Nw (A)(s)(a)(t)(c)(u):∃e,SeqAt.EqAt A s (.int a t) (.int c u) e/\(e=true↔a=c):=
 ⟨(a == c),SeqAt.EqAt.int_int a t c u,()⟩
def Nx (A)(s)(a)(t)(c)(u)(prog)(w)(E)(Q)(h:Q (.bool (decide (a<c))) s):
 YJ prog w A (richCompare .Lt (.int a t) (.int c u)) Q E s:=
 (PyProof.Rows.lt_int h:YJ prog w A (compareOp .Lt (.int a t) (.int c u)) Q E s)
section
open PySem.SeqAt
open PySem.AutoSeq1 (wpAny_loadPart')
open PySem.MeetsSeq PySem.MeetsSeq2 PySem.MeetsSeq3
def Ny (l b:Addr)(i f:Yn)(n G:Nat)(dd v:Option Addr)(H z:Array Yg)(ns B:Yh)(I:IntsAre i.toList ns)(J:IntsAre f.toList B):
 Meets (Builtin.«tuple.__lt__» ⟨[.ref l,.ref b],[]⟩)
  (λ_ R s=>s.heap.get? l=some { cls:=.type "tuple",dict:=dd,data:=.seq i n,slots:=H }/\s.heap.get? b=some { cls:=.type "tuple",dict:=v,data:=.seq f G,slots:=z } /\
   R (.ok (.ret (.bool (lexLt ns B)))) s):=
 .of_wp λprog w A R s h=>by
  obtain⟨hp,g,d,tk,os⟩:=s;obtain⟨K,L,h⟩:=h;have P:=AutoSeq1.sub_tuple_tuple;have Q:i.size=ns.length:=by rw[<- I.length];simp
  have S:f.size=B.length:=by rw[<- J.length];simp
  wp_walk using wpAny_loadPart' K,wpAny_loadPart' L,wpAny_forIn_list _ (λrest b s'=>b.1=none/\s'=⟨hp,g,d,tk,os⟩/\∃(p r:Yf) (j m:Yh),rest=p.zip r /\
   IntsAre p j/\IntsAre r m/\j.length+f.size=m.length+i.size/\R (.ok (.ret (.bool (lexLt j m)))) ⟨hp,g,d,tk,os⟩) _
  case turn =>
   rintro⟨y,x⟩ rest b s' ⟨hb',rfl,p,r,j,m,hz,hvi,hwi,hlen,hR⟩;cases hvi with
   |nil=>rw[List.zip_nil_left] at hz;cases hz
   |cons a t E =>
    cases hwi with
    |nil=>rw[List.zip_nil_right] at hz;cases hz
    |cons c u F =>
     rw[Vt] at hz;injection hz with hyx hrest
     injection hyx with hy hx
     subst hy hx;rw[lexLt_cons] at hR;simp only[Zu] at hlen;obtain⟨e,M,o⟩:=Nw A.in1 ⟨hp,g,d,tk,os⟩ a t c u;refine Za (M prog w _ _ ?_);cases e with
     |true =>
      rw[Zd (o.mp rfl)] at hR
      wp_walk
      exact()
     |false =>
      rw[Ze (λq=>Zn (o.mpr q) Zj)] at hR;have C:=Nx A.in1 ⟨hp,g,d,tk,os⟩ a t c u prog w
      wp_walk using C
      exact()
  case fin =>
   rintro⟨T,U⟩ s' ⟨hb',rfl,p,r,j,m,hz,hvi,hwi,hlen,hR⟩;simp only at hb';subst hb';have N:lexLt j m=decide (i.size<f.size):=by
    cases hvi with
    |nil =>
     cases hwi with
     |nil =>
      simp only[ZC] at hlen;rw[lexLt_nil_nil];exact()
     |cons c u O =>
      simp only[ZC,Zu] at hlen;rw[Nu];exact()
    |cons a t N =>
     cases hwi with
     |nil =>
      simp only[ZC] at hlen;rw[Nv];exact()
     |cons c u O =>
      cases hz
   wp_walk
   grind[Builtin.Tuple.tupleCompareSizes]
  grind
end
section
variable {prog:Program}{w:World}{A:Around}{E:Ya}{s:Shared}
def lt_tupInts {l b:Addr}{c a:Yn}{ns e:Yh}{Q:Ya}(p:IsTup s.heap l c)(q:IsTup s.heap b a)(r:IntsAre c.toList ns)(t:IntsAre a.toList e)
 (u:A.units<cLine) (h:Q (.bool (lexLt ns e)) s):YJ prog w A (compareOp .Lt (.ref l) (.ref b)) Q E s:=by
 obtain⟨⟨cls,dd,data,v⟩,x,y,n,z⟩:=id p;obtain⟨⟨o,f,data2,g⟩,i,j,B,m⟩:=id q;subst y z j m;exact richCompare_meets_room (op:=.Lt) ⟨_,x,rfl⟩ ⟨_,i,rfl⟩ PySem.F.slot_tuple_lt PySem.F.entry_tuple_lt (PySem.F.args_tuple_lt_2 _ _) (Ny l b c a n B dd f v g ns e r t)
  () u
def cat_tup {t b:Addr}{f a:Yf}{Q:Ya}(r:IsTup s.heap t f.toArray)(u:IsTup s.heap b a.toArray)(v:f ≠ [])
 (x:a=[]->Q (.ref t) s) (y:a ≠ []->Q (.ref s.heap.objs.size) { s with heap:=s.heap.push { cls:=.type "tuple",data:=.seq (f++a).toArray } })
 (hsz:f.length+a.length<=sizeLine):YJ prog w A (binaryOp .Add (.ref t) (.ref b)) Q E s:=by
 obtain⟨⟨cls,dd,data,o⟩,i,z,n,B⟩:=id r;obtain⟨⟨p,g,data2,h⟩,c,l,q,m⟩:=id u;subst z B l m;have e:f.toArray++a.toArray=(f++a).toArray:=by simp
 by_cases j:a=[]
 .exact concat_meets ⟨_,i,rfl⟩ ⟨_,c,rfl⟩ noFill_tuple_add seq_tuple_add PySem.F.slot_tuple_add PySem.F.entry_tuple_add (PySem.F.args_tuple_add_2 _ _)
   (tuple_addW1 t b f.toArray a.toArray n q dd g o h () (by simp[j])) ⟨i,c,x j⟩
 .refine concat_meets ⟨_,i,rfl⟩ ⟨_,c,rfl⟩ noFill_tuple_add seq_tuple_add PySem.F.slot_tuple_add PySem.F.entry_tuple_add (PySem.F.args_tuple_add_2 _ _)
   (tuple_addW2 t b f.toArray a.toArray n q dd g o h (by simpa using v) (by simpa using j) ()) ⟨i,c,?_⟩
  rw[e];exact y j
end
end HT
namespace L2
abbrev TO:=St->Hp->(Option Int->Hp->Prop)->Prop
def PO (X:Cx)(e:Option Expr)(t:TO):Prop:=
 ∀(Y:Yb) (s:Shared) (Z: St) (H:Hp) (Q:Option Int->Hp->Prop),Inv X Y Z H s->t Z H Q ->
  YI X (evalPart e X.env) (λu s'=>∃o a,Inv X Y Z a s'/\IsPart u o/\Q o a) X.xe s
def Nz:TO:=λ_ H Q=>Q none H
def vP (t:TE):TO:=λZ H Q=>t Z H λx a=>∃i,x=.int i/\Q (some i) a
def Cd {ns:Yh}:∀{a:Yf},jq (ns.map V.int) a->IntsAre a ns:=by
 induction ns with
 |nil=>intro a r;cases r;exact .nil
 |cons n ns b =>
  intro a r;cases r with
  |cons c f =>
   obtain⟨t,e⟩:=c;subst e;exact .cons n t (b f)
section
variable {X:Cx}{e:Expr}{te:TE}{lo hi:Option Expr}{tl th:TO}{pos p2:Pos}
def N0:PO X none Nz:=λY s Z H Q I h=>Zb ⟨none,H,I,.none,h⟩
def N1 (h:PE X e te):PO X (some e) (vP te):=by
 intro Y s Z H Q I a;refine jG (h Y s Z H _ I a) λu j ⟨x,b,c,f,g⟩=>?_;obtain⟨i,rfl,q⟩:=g;obtain⟨t,rfl⟩:=f;exact⟨some i,b,c,.int i t,q⟩
def u5 (K:W.Frag):R2:=λx y H Q=>∃a b c ys,x=.ref a/\y=.ref b/\yk K H a c/\yk K H b ys/\c ≠ []/\c.length+ys.length<=sizeLine /\
 (ys=[]->Q (.ref a) H)/\(ys ≠ []->∀p,H p=none->Q (.ref p) (upd H p (.tup (c++ys))))
def jq.nil_iff {a:YE}{b:Yf}(r:jq a b):b=[]↔a=[]:=by
 cases r with
 |nil=>simp
 |cons _ _=>simp
def N2:xa X (binaryOp .Add) (u5 X.K):=by
 intro Y s Z H x y v u Q I i j h;obtain⟨a,b,t,ys,rfl,rfl,l,m,n,hz,o,p⟩:=h;cases i;cases j;obtain⟨its,f,r,_⟩:=I.tuple l;obtain⟨g,c,p2,_⟩:=I.tuple m;refine HT.cat_tup r p2 (λz=>n (f.nil_iff.mp z)) (λz=>⟨.ref a,H,I,rfl,o (c.nil_iff.mp z)⟩) (λz=>⟨.ref s.heap.objs.size,_,I.laid (λb A q=>Zq _ q) (Zf _) ?_,rfl,p (λw=>z (c.nil_iff.mpr w)) _ (I.hok.fresh (Zf _))⟩) (by rwa [<- f.length,<- c.length]);exact⟨⟨(),⟨_,Zr _ rfl,rfl⟩⟩,_,f.append c,IsTup.new _ _⟩
end
def y0 (n:Nat)(i:Int):Option Nat:=if 0<=i then(if i<n then some i.toNat else none) else if -(n:Int)<=i then some (i+n).toNat else none
def qr {α: Type}(a:List α)(i:Int):Option α:= (y0 a.length i).bind λj=>a[j]?
def E9 {n:Nat}{i:Int}{j:Nat}(h:y0 n i=some j):seqIndex? i n=some j/\j<n /\ -(n:Int)<=i/\i<n:=by
 grind[y0,Zqi,seqIndex_of,seqIndex_neg]
def Ce {α: Type}{a:List α}{i:Int}{v:α}(h:qr a i=some v):∃j,seqIndex? i a.length=some j/\a[j]? = some v/\j<a.length /\ -(a.length:Int)<=i/\i<a.length:=by
 unfold qr at h;cases e:y0 a.length i with
 |none=>simp_all
 |some j =>
  rw[e] at h;obtain⟨b,c,f,g⟩:=E9 e;exact⟨j,b,h,c,f,g⟩
def Ak (b:Expr):Prop:=∀o i,subscripted b false o i=operate [o,i] (getItem o i)
def yF (X:Cx)(r:R2):Prop:=
 ∀(b a:Expr) (Y:Yb) (s:Shared) (Z: St) (H:Hp) (x y:V) (v u:Value) (Q:VK),Inv X Y Z H s->jy x v->jy y u->r x y H Q ->
  subscripted a false v u=operate [v,u] (getItem v u)->YI X (subscriptTail b a v u) (EP X Y Z Q) X.xe s
def rf (X:Cx)(id:String)(r:V->YE->Hp->VK->Prop):Prop:=
 ∀(Y:Yb) (s:Shared) (Z: St) (H:Hp) (x:V) (a:YE) (v:Value) (b:Yf) (Q:VK),Inv X Y Z H s->jy x v->jq a b->r x a H Q ->
  YI X (call (.builtin id) (v::b)) (EP X Y Z Q) X.xe s
section
variable {X:Cx}{a b:Expr}{ta tb:TE}{pos:Pos}
def yF.or {r f:R2}(h:yF X r)(h':yF X f):yF X (λx y H Q=>r x y H Q\/f x y H Q):=by
 intro c e Y s Z H x y v u Q I g i q hs;rcases q with q|q
 .exact h c e Y s Z H x y v u Q I g i q hs
 .exact h' c e Y s Z H x y v u Q I g i q hs
def Cf {r:R2}(c:yF X r)(e:PE X a ta)(f:PE X b tb)(hs:Ak b):PE X (.Subscript a b pos) (wX r ta tb):=λY s Z H Q I h=>Subscript_ (vu e f I h λv u g x y i j l m q=>c a b Y g Z i x y v u Q j l m q (hs _ _))
def u3 (K:W.Frag):R2:=λx y H Q=>∃p c i v,x=.ref p/\y=.int i/\qE K H p c/\qr c i=some v/\Q v H
def u0 (K:W.Frag):R2:=λx y H Q=>∃p c i v,x=.ref p/\y=.int i/\yk K H p c/\qr c i=some v/\Q v H
def u2:R2:=λx y H Q=>∃z i c,x=.str z/\y=.int i/\z.length<=sizeLine/\qr z.cps.toList i=some c/\Q (.str ⟨#[c]⟩) H
def rn:yF X (u3 X.K):=by
 intro e f Y s Z H x y v u Q I A B h hs;obtain⟨p,K,i,z,rfl,rfl,C,E,q⟩:=h;cases A;obtain⟨t,rfl⟩:=B;obtain⟨its,r,pl,hz⟩:=I.list C;obtain⟨j,m,F,L,G,J⟩:=Ce E;obtain⟨w,n,g⟩:=r.get F;have M:=r.length;have N:=Xj;have c:EP X Y Z Q w s:=⟨z,H,I,g,q⟩;by_cases o:0<=i
 .have l:i.toNat=j:=by
   rw[seqIndex_of o J] at m
   simp_all
  exact item_listR pl.isList o () (by rw[l];simpa using n) c hs
 .have l:(i+(its.toArray.size:Int)).toNat=j:=by
   rw[seqIndex_neg () G] at m
   simp_all
  exact subscriptTail_builtinR pl.isList.typeIs slot_list_getitem.lookup
   (wpAny_getItem_list_neg pl.isList () () () (by rw[l];simpa using n) ⟨rfl,c⟩) hs
def sN:yF X (u0 X.K):=by
 intro c e Y s Z H x y v u Q I l m h hs;obtain⟨p,C,i,z,rfl,rfl,n,o,q⟩:=h;cases l;obtain⟨t,rfl⟩:=m;obtain⟨its,r,pl,hz⟩:=I.tuple n;obtain⟨j,E,A,F,G,J⟩:=Ce o;obtain⟨w,B,f⟩:=r.get A;have K:=r.length;have L:=Xj;have g:EP X Y Z Q w s:=⟨z,H,I,f,q⟩;exact subscriptTail_builtinR pl.typeIs slot_tuple_getitem.lookup
  (getItem_tuple (j:=j) pl () () () (by simpa using B) ⟨rfl,g⟩) hs
def N3:yF X u2:=by
 intro e f Y s Z H x y v u Q I l m h hs;obtain⟨z,i,c,rfl,rfl,hz,n,q⟩:=h;obtain⟨t,rfl⟩:=l;obtain⟨t',rfl⟩:=m;obtain⟨j,g,o,A,p,r⟩:=Ce n;have w:z.cps.toList.length=z.length:=by rfl
 rw[w] at g p r;have B:=Xj;exact tail_any (typeIs_str s z t) slot_str_getitem.lookup (getItem_str (by
  grind) (by rw[g];simpa using o) ⟨.str ⟨#[c]⟩,H,I.tok _,⟨_,rfl⟩,q⟩) hs
def p7 (K:W.Frag):R2:=λx y H Q=>u3 K x y H Q\/u0 K x y H Q\/u2 x y H Q
def N4:yF X (p7 X.K):=rn.or (sN.or N3)
def N5 (its:Yf)(n j)(u):Obj.mapSeq (·.setIfInBounds j u) { cls:=.type "list",data:=.seq its.toArray n }={ cls:=.type "list",data:=.seq (its.set j u).toArray n }:=by
 simp[Obj.mapSeq]
theorem Inv.lst {Y:Yb}{Z: St}{H:Hp}{s:Shared}{p:Addr}{c:YE}(I:Inv X Y Z H s)(h:H p=some (.lst c)):
 ∃(its:Yf) (n:Nat),jq c its/\s.heap.get? p=some { cls:=.type "list",data:=.seq its.toArray n }/\c.length<=sizeLine:=have ⟨z,its,n,r,e⟩:=I.hok p _ h;⟨its,n,r,e,z⟩
def Inv.lstUpd {Y:Yb}{Z: St}{H:Hp}{s:Shared}{p:Addr}{j ys:YE}{its c:Yf}{n g:Nat}{f:Obj->Obj}(I:Inv X Y Z H s)(h:H p=some (.lst j))
 (l:s.heap.get? p=some { cls:=.type "list",data:=.seq its.toArray n }) (i:f { cls:=.type "list",data:=.seq its.toArray n }={ cls:=.type "list",data:=.seq c.toArray g }) (r:jq ys c) (hz:ys.length<=sizeLine) (t):
 Inv X Y Z (upd H p (.lst ys)) { s with heap:=s.heap.update p f,toks:=t }:=by
 have e:(s.heap.update p f).get? p=some { cls:=.type "list",data:=.seq c.toArray g }:=by
  rw[Heap.get?_update_self f l (by rw[i]<;>rfl),i]
 exact I.write (by rw[h];trivial) (.inl rfl) (λb u m q=>(Heap.get?_update_other _ _ (Ne.symm m)).trans q) ⟨_,e⟩ ⟨hz,c,g,r,e⟩
def uy:V->V->V->Hp->(Hp->Prop)->Prop:=λo i v H Q=>∃p c k j,o=.ref p/\i=.int k/\H p=some (.lst c)/\y0 c.length k=some j/\Q (upd H p (.lst (c.set j v)))
def N6:fK X uy:=by
 intro Y s Z H o i v m w u Q I c e f h;obtain⟨p,x,k,j,rfl,rfl,hp,g,q⟩:=h;cases c;obtain⟨t,rfl⟩:=e;obtain⟨its,n,r,l,hz⟩:=I.lst hp;obtain⟨y,z,A,B⟩:=E9 g;have C:=r.length;have E:=Xj;have F:=
  I.lstUpd hp l (N5 its n j u) (r.set f j) () s.toks
 grind[seqIndex_of,Zqi,W.ki_setAt,seqIndex_neg,W.ki_setBack]
def N7:jO X (.builtin "len") (λf H Q=>∃p ys,f=[.ref p]/\(qE X.K H p ys\/yk X.K H p ys)/\Q (.int ys.length) H):=by
 intro Y s Z H f i Q I r h;obtain⟨p,ys,rfl,hq,q⟩:=h;obtain⟨u,rfl,g⟩:=Q6 r;cases g;have j:=Xj;rcases hq with hq|hq
 .obtain⟨its,e,pl,hz⟩:=I.list hq;have c:=e.length;exact Calls.call_len_list pl.isList () ⟨.int ys.length,H,I.tok _,⟨s.toks+1,()⟩,q⟩
 .obtain⟨its,e,pl,hz⟩:=I.tuple hq;have c:=e.length;exact len_tuple pl () ⟨.int ys.length,H,I.tok _,⟨s.toks+1,()⟩,q⟩
def N8:jO X (.builtin "len") (λc H Q=>∃z,c=[.str z]/\z.length<=sizeLine/\Q (.int z.length) H):=by
 intro Y s Z H c e Q I r h;obtain⟨z,rfl,hz,q⟩:=h;obtain⟨u,rfl,t,rfl⟩:=Q6 r;have f:=Xj;exact len_str () ⟨.int z.length,H,I.tok _,⟨_,rfl⟩,q⟩
def jO.or {f:Value}{r e:YE->Hp->VK->Prop}(h:jO X f r)(h':jO X f e):jO X f (λc H Q=>r c H Q\/e c H Q):=by
 intro Y s Z H c g Q I rs q;rcases q with q|q
 .exact h Y s Z H c g Q I rs q
 .exact h' Y s Z H c g Q I rs q
def N9:jO X (.type "list") (λw H Q=>∃p ys,w=[.ref p]/\(qE X.K H p ys\/yk X.K H p ys)/\∀l,H l=none->Q (.ref l) (upd H l (.lst ys))):=by
 intro Y s Z H w z Q I r h;obtain⟨p,ys,rfl,hq,q⟩:=h;obtain⟨u,rfl,y⟩:=Q6 r;cases y;have g:∀its,jq ys its->ys.length<=sizeLine->∀h' c,(∀b x,s.heap.get? b=some x->h'.get? b=some x) ->
  h'.get? s.heap.objs.size=some { cls:=.type "list",dict:=none,data:=.seq its.toArray c,slots:=#[] }->EP X Y Z Q (.ref s.heap.objs.size) { s with heap:=h' }:=λits f hz h' c i e =>
  ⟨.ref s.heap.objs.size,_,I.laid i (Zf _) (show xL X.prog X.w _ h' _ (.lst ys) from ⟨hz,its,c,f,e⟩),rfl,q _ (I.hok.fresh (Zf _))⟩
 rcases hq with hq|hq
 .obtain⟨its,f,pl,hz⟩:=I.list hq;have j:=f.length;obtain⟨o,m,t,n,v⟩:=pl.isList;exact call_list_seq p (.inl rfl) m t v (λh' c i e=>g its f hz h' c i e) (by simp<;>lia)
 .obtain⟨its,f,pl,hz⟩:=I.tuple hq;have j:=f.length;obtain⟨o,m,t,n,v⟩:=pl;exact call_list_seq p (.inr rfl) m t v (λh' c i e=>g its f hz h' c i e) (by simp<;>lia)
def NA:jO X (.type "tuple") (λg H Q=>∃p ys,g=[.ref p]/\((qE X.K H p ys/\∀l,H l=none->Q (.ref l) (upd H l (.tup ys)))\/(yk X.K H p ys/\Q (.ref p) H))):=by
 intro Y s Z H g v Q I r h;obtain⟨p,ys,rfl,h⟩:=h;obtain⟨u,rfl,m⟩:=Q6 r;cases m;rcases h with ⟨c,q⟩|⟨c,q⟩
 .obtain⟨its,f,pl,hz⟩:=I.list c;have i:=f.length;refine call_tuple_list pl.isList (λh' n=>?_) ();have j:Inv X Y Z H { s with heap:=h' }:=I.kept n;have t:Inv X Y Z (upd H h'.objs.size (.tup ys)) { s with heap:=h'.push { cls:=.type "tuple",data:=.seq its.toArray } } :=
   j.laid (λb o e=>Zq _ e) (Zf _) (⟨⟨hz,⟨_,Zr _ rfl,rfl⟩⟩,its,f,IsTup.new _ _⟩)
  exact⟨.ref h'.objs.size,_,t,rfl,q _ (j.hok.fresh (Zf _))⟩
 .obtain⟨its,f,pl,hz⟩:=I.tuple c;exact call_tuple_same pl ⟨.ref p,H,I,rfl,q⟩
def bX (K:W.Frag)(T:String)(x:V)(H:Hp):Prop:=match x with
 | .str _=>T = "str"
 | .int _=>T = "int"
 | .ref p=>(T = "list" /\ ∃e,qE K H p e)\/(T = "tuple" /\ ∃o,K.lookup p=some o/\o.cls=.type "tuple" /\ o.dict=none) \/
  (T = "dict" /\ ((∃c,H p=some (.dK c))\/∃c,H p=some (.dT c)))\/(T = "set" /\ ∃S n,H p=some (.set S n))
 |_=>False
def EA {Y:Yb}{Z: St}{H:Hp}{s:Shared}{T:String}{x:V}{v:Value}(I:Inv X Y Z H s)(r:jy x v)(h:bX X.K T x H):
 s.TypeIs v T/\∀a,v=.ref a->∃q,s.heap.get? a=some q/\q.dict=none:=by
 cases x with
 |str z =>
  obtain⟨t,rfl⟩:=r;cases (h);exact⟨typeIs_str s z t,λ_ e=>nomatch e⟩
 |int i =>
  obtain⟨t,rfl⟩:=r;cases (h);exact⟨typeIs_int s i t,λ_ e=>nomatch e⟩
 |ref p =>
  cases r;rcases h with ⟨rfl,y,u⟩|⟨rfl,o,f,w,j⟩|⟨rfl,f⟩|⟨rfl,S,n,f⟩
  .obtain⟨its,_,pl,_⟩:=I.list u;refine⟨pl.isList.typeIs,λa e=>?_⟩;cases e;obtain⟨o,n,e,c,j,_⟩:=pl;exact⟨o,e,j⟩
  .refine⟨⟨o,I.kIn p o f,w⟩,λa e=>?_⟩;cases e;exact⟨o,I.kIn _ o f,j⟩
  .have z:∃o,s.heap.get? p=some o/\o.ExactDict:=by
    rcases f with ⟨l,f⟩|⟨l,f⟩
    .obtain⟨_,_,_,_,o,_,_,e,g,_⟩:=I.hok p _ f;exact⟨o,e,g⟩
    .obtain⟨_,_,_,_,o,_,_,e,g,_⟩:=I.hok p _ f;exact⟨o,e,g⟩
   obtain⟨o,e,g⟩:=z;refine⟨⟨o,e,g.1⟩,λa m=>?_⟩;cases m;exact⟨o,e,g.2.1⟩
  .obtain⟨o,_,_,_,e,g,_⟩:=I.hok p _ f;refine⟨⟨o,e,g.1⟩,λa m=>?_⟩;cases m;exact⟨o,e,g.2.1⟩
 |_=>exact False.elim h
def uf (K:W.Frag)(T:String)(r:V->YE->Hp->VK->Prop)(e:TE):TE:=λZ H Q=>e Z H λx c=>bX K T x c/\r x [] c Q
def fY (K:W.Frag)(T:String)(r:V->YE->Hp->VK->Prop)(e:TE)(t:TA):TE:=λZ H Q=>e Z H λx c=>bX K T x c/\t Z c λf g=>r x f g Q
variable {o e:Expr}{es:Ym}{to:TE}{t:TA}{name:Str}{apos cpos:Pos}{T id:String}{r:V->YE->Hp->VK->Prop}
def NB (m:PlainAttrs T)(g:Slot T name id)(i:typeOf (.builtin id)=pure (.type "method_descriptor"))(n:rf X id r)(p:PE X o to)
 (c:attributeBase o name X.env (eval o X.env)=eval o X.env:=by rfl) (f:(apos.endLine == cpos.line)=true:=by rfl):PE X (.Call (.Attribute o name apos) [] [] cpos) (uf X.K T r to):=by
 intro Y s Z H Q I h;refine wpAny_Call_method0_late c f (jG (p Y s Z H _ I h) λv q ⟨x,u,j,l,w,y⟩=>?_);obtain⟨z,A⟩:=EA j l w;exact⟨T,id,m,g,i,z,A,Calls.callWith_builtin rfl (PySem.evalArgs_none (n Y q Z u x [] v [] Q j l .nil y))⟩
def KE (q:PlainAttrs T)(i:Slot T name id)(l:typeOf (.builtin id)=pure (.type "method_descriptor"))(u:rf X id r)(w:PE X o to)(y:PA X (e::es) t)
 (f:attributeBase o name X.env (eval o X.env)=eval o X.env:=by rfl)
 (j:((backTo cpos (starEach (e::es) X.env)).all (λx => !x.1)&&(backToKw cpos (keywordEach [] X.env)).all (λx=>x.1.isSome)
  && decide ((e::es).length+([]:List Keyword).length+(if([]:List Keyword).isEmpty then 0 else 1)<30))=true:=by rfl)
 (g:(apos.endLine == cpos.line)=true:=by rfl) (hs:starEach (e::es) X.env=(false,eval e X.env)::starEach es X.env:=by rfl) (c:(backTo cpos (starEach es X.env)).any (·.1)=false:=by rfl):
 PE X (.Call (.Attribute o name apos) (e::es) [] cpos) (fY X.K T r to t):=by
 intro Y s Z H Q I h;refine wpAny_Call_method_late f j g rfl (jG (w Y s Z H _ I h) λv z ⟨x,A,m,n,B,C⟩=>?_);obtain⟨E,F⟩:=EA m n B;refine⟨T,id,q,i,l,E,F,?_⟩;have p:=y cpos Y z Z A _ m C;rw[hs] at p ⊢;exact Calls.callWith_builtin (by show(false||(backTo cpos (starEach es X.env)).any (·.1))=false;rw[c]<;>rfl) (Calls.evalArgs_plain (jG p λG J ⟨K,L,M,N,O⟩=>u Y J Z L x K v G Q M n N O))
end
def sv (X:Cx)(id:String)(r:V->YE->Hp->VK->Prop):Prop:=
 ∀(Y:Yb) (s:Shared) (Z: St) (H:Hp) (x:V) (a:YE) (v:Value) (b:Yf) (Q:VK),Inv X Y Z H s->jy x v->jq a b->r x a H Q ->
  YI X (call (.builtin id) (v::b)) (EP X Y Z Q) X.xe s
def jq.one:∀{x:V} {a:Yf},jq [x] a->∃u,a=[u]/\jy x u:=λh=>by
 cases h with
 |cons r t=>cases t;exact⟨_,rfl,r⟩
def ze:∀{a:Yf},jq [] a->a=[]
 |_,.nil=>rfl
theorem jq.rep {a:YE}{b:Yf}(h:jq a b):∀k:Nat,jq (List.replicate k a).flatten (List.replicate k b).flatten
 | 0=>.nil
 |k+1=>by
  rw[U6,U6,Vj,Vj];exact jq.append h (jq.rep h k)
theorem EB (its:Yf):∀(k:Nat) (a:Yf),
 List.foldl (λb c=>b++c) a.toArray (List.replicate k its.toArray)=(a++(List.replicate k its).flatten).toArray
 | 0,a=>by simp
 |k+1,a=>by
  have e:a.toArray++its.toArray=(a++its).toArray:=by simp
  have f:(a++its)++(List.replicate k its).flatten=a++(List.replicate (k+1) its).flatten:=by
   rw[U6,Vj,Ug]
  rw[<- f,<- EB its k (a++its),<- e,U6,U7]
section
variable {X:Cx}{Y:Yb}{Z: St}{H:Hp}{s:Shared}{l b:Addr}{xs ys zs:YE}
def Inv.lset {its a:Yf}{n:Nat}{f:Yn->Array Value}{t':Nat}(I:Inv X Y Z H s)(c:H l=some (.lst xs))
 (e:s.heap.get? l=some { cls:=.type "list",data:=.seq its.toArray n }) (g:f its.toArray=a.toArray) (h:jq ys a) (hz:ys.length<=sizeLine):
 Inv X Y Z (upd H l (.lst ys)) { s with heap:=s.heap.update l (Obj.mapSeq f),toks:=t' }:=by
 have q:=PySem.IsL.update e f;rw[g] at q;exact I.write (by rw[c];exact trivial) (.inl rfl) (λm u i j=>(Heap.get?_update_other s.heap (Obj.mapSeq f) (Ne.symm i)).trans j) ⟨_,q⟩ ⟨hz,a,_,h,q⟩
def Inv.lnew {its:Yf}{t':Nat}(I:Inv X Y Z H s)(a:jq ys its)(hz:ys.length<=sizeLine):
 Inv X Y Z (upd H s.heap.objs.size (.lst ys)) { s with heap:=s.heap.push { cls:=.type "list",data:=.seq its.toArray },toks:=t' } :=
 I.laid (λ_ _ q=>Zq _ q) (Zf _) ⟨hz,its,0,a,Zr _ rfl⟩
theorem Inv.fresh (I:Inv X Y Z H s):H s.heap.objs.size=none:=I.hok.fresh (Zf _)
def Inv.lstM (I:Inv X Y Z H s)(a:H l=some (.lst xs)):xs.length<=sizeLine/\∃(its:Yf) (n:Nat),jq xs its/\xs.length=its.length/\s.heap.get? l=some { cls:=.type "list",data:=.seq its.toArray n }:=have ⟨z,its,n,r,e⟩:=I.hok l _ a;⟨z,its,n,r,r.length,e⟩
def EC {n:Nat}(h:n<=sizeLine):Builtin.List.listTooLong n=false:=by
 simp_all [Builtin.List.listTooLong]
end
section
variable {X:Cx}
def Cg:V->YE->Hp->VK->Prop:=λx b H Q=>∃l a y,x=.ref l/\b=[y]/\H l=some (.lst a)/\a.length<sizeLine/\Q .non (upd H l (.lst (a++[y])))
def KM:sv X "list.append" Cg:=by
 intro Y s Z H x g v i Q I b c h;obtain⟨l,j,y,rfl,rfl,a,hz,q⟩:=h;cases b;obtain⟨u,rfl,f⟩:=c.one;obtain⟨z,its,n,r,m,e⟩:=I.lstM a;refine call_meets F.slot_list_append ⟨_,e,rfl⟩ F.entry_list_append (F.args_list_append_2 _ _) (PySem.list_append l its.toArray n u ()) ⟨e,⟨.non,_,I.lset a e () (r.append (.cons f .nil)) ?_,rfl,q⟩⟩
 grind
def ED:V->YE->Hp->VK->Prop:=λx e H Q=>∃l b a c,x=.ref l/\e=[.ref b]/\H l=some (.lst a)/\H b=some (.lst c)/\a.length+c.length<=sizeLine/\Q .non (upd H l (.lst (a++c)))
def NC:sv X "list.extend" ED:=by
 intro Y s Z H x y v A Q I g i h;obtain⟨l,b,B,C,rfl,rfl,f,j,hz,q⟩:=h;cases g;obtain⟨u,rfl,m⟩:=i.one;cases m;obtain⟨z,its,n,r,E,e⟩:=I.lstM f;obtain⟨G,a,o,p,t,w⟩:=I.lstM j;have hsz:its.toArray.size+a.toArray.size<=sizeLine:=by simp_all
 have c:¬(!its.toArray.isEmpty&&Builtin.List.listTooLong (its.toArray.size+a.toArray.size))=true:=by
  rw[EC hsz,Bool.and_false];exact Zj
 refine call_meets F.slot_list_extend ⟨_,e,rfl⟩ F.entry_list_extend (F.args_list_extend_2 _ _)
  (AutoSeq1.list_extend_list_list_0 l its.toArray n b a.toArray o c () ()) ⟨e,w,⟨.non,_,I.lset f e () (r.append p) ?_,rfl,q⟩⟩
 simp_all
def ND {α: Type}(a:List α)(k:Nat):(List.replicate k a).flatten.length=k*a.length:=by
 induction k with
 |zero=>simp
 |succ k b=>rw[U6,Vj,Ub,b,Nat.succ_mul,Nat.add_comm]
end
section
variable {prog:Program}{w:World}{A:Around}{E:Ya}{s:Shared}
set_option maxRecDepth 100000 in
end
section
variable {κ: Type}[DecidableEq κ]
def qA (a:List (κ × V))(k:κ):YF:=(a.find? λb=>decide (b.1=k)).map (·.2)
def qC (a:List (κ × V))(k:κ)(v:V):List (κ × V):=
 if(a.any λb=>decide (b.1=k))=true then a.map (λb=>if b.1=k then(b.1,v) else b) else a++[(k,v)]
def Ch {p:κ × V}{r:List (κ × V)}{k:κ}(e:p.1=k):qA (p::r) k=some p.2:=by simp[qA,e]
theorem Ci {p:κ × V}{r:List (κ × V)}{k:κ}(e:¬p.1=k):qA (p::r) k=qA r k:=by simp[qA,e]
theorem EE (k):∀a:List (κ × V),(a.any λb=>decide (b.1=k))=(qA a k).isSome
 | []=>rfl
 |p::r=>by
  rw[List.any_cons];by_cases e:p.1=k
  .simp[Ch e,Zp e]
  .rw[Ci e,Zo e,Bool.false_or];exact EE k r
def Cj (a:List (κ × V))(k)(v):(qC a k v).length<=a.length+1:=by
 grind[qC,Zql,List.length_append,List.length_cons,List.length_nil]
def xm.isSome_eq {o:YF}{u:Yg}(r:xm o u):o.isSome=u.isSome:=by
 cases o with
 |none=>cases u with
  |none=>rfl
  |some _=>exact(r).elim
 |some _=>cases u with
  |none=>exact(r).elim
  |some _=>rfl
theorem xm.getD {o:YF}{u:Yg}{d:V}{d':Value}(r:xm o u)(a:jy d d'):jy (o.getD d) (u.getD d'):=by
 cases o with
 |none=>cases u with
  |none=>exact a
  |some _=>exact(r).elim
 |some _=>cases u with
  |none=>exact(r).elim
  |some _=>exact r
def KV.val {a:List (κ × V)}{c:List (κ × Value)}(r:KV a c)(k):xm (qA a k) (valueAt c k):=by
 induction r with
 |nil=>exact True.intro
 | @cons p q ps f h t g =>
  obtain⟨i,j⟩:=h;by_cases e:p.1=k
  .have b:valueAt (q::f) k=some q.2:=by simp_all [valueAt]
   rwa [Ch e,b]
  grind[valueAt,Ci]
theorem KV.any {a:List (κ × V)}{c:List (κ × Value)}(r:KV a c)(k):(a.any λb=>decide (b.1=k))=c.any λb=>decide (b.1=k):=by
 induction r with
 |nil=>rfl
 |cons h t e=>simp_all
def KV.repl {b:List (κ × V)}{c:List (κ × Value)}(r:KV b c)(k){y:V}{u:Value}(f:jy y u):
 KV (b.map λa=>if a.1=k then(a.1,y) else a) (c.map λa=>if a.1=k then(a.1,u) else a):=by
 induction r with
 |nil=>exact .nil
 | @cons p q ps g h t e =>
  refine .cons ?_ e
  grind
def KV.put {a:List (κ × V)}{b:List (κ × Value)}(r:KV a b)(k){y:V}{u:Value}(c:jy y u):KV (qC a k y) (stored b k u):=by
 unfold qC stored;rw[r.any k];by_cases e:(b.any λf=>decide (f.1=k))=true
 .rw[Zd e,Zd e];exact r.repl k c
 .rw[Ze e,Ze e];exact Paired.snoc r ⟨rfl,c⟩
theorem KV.length {a:List (κ × V)}{b:List (κ × Value)}(r:KV a b):a.length=b.length:=Paired.length r
end
def XX {P:Program}{w:World}{k:j6}{u:Value}(r:jy (kV k) u):(Q0 P w).is k u=true:=by
 cases k with
 |inl i=>have ⟨t,e⟩:=(r);subst e;exact Ml P w i t
 |inr x=>have ⟨t,e⟩:=(r);subst e;exact Mm P w x t
theorem EF {P:Program}{w:World}:∀{ks:List j6} {a:Yf},jq (ks.map kV) a->ItemsAre (Q0 P w) ks a
 | [],_,r=>by cases r;exact .nil
 |k::ks,_,r=>by
  cases r with
  |cons h t=>exact .cons (XX h) (EF t)
abbrev KT (H:Hp):List (List j6×V)->List (List j6×Addr×Value)->Prop:=Paired λp q=>p.1=q.1/\H q.2.1=some (.tup (p.1.map kV))/\jy p.2 q.2.2
def KT.val {H:Hp}{a:List (List j6×V)}{c:List (List j6×Addr×Value)}(r:KT H a c)(k):xm (qA a k) ((atKey c k).map (·.2)):=by
 induction r with
 |nil=>exact True.intro
 | @cons p q ps f h t g =>
  obtain⟨i,_,j⟩:=h;by_cases e:p.1=k
  .have b:atKey (q::f) k=some q.2:=by simp_all [atKey]
   rwa [Ch e,b]
  grind[atKey,Ci]
def KT.repl {H:Hp}{a:List (List j6×V)}{c:List (List j6×Addr×Value)}(r:KT H a c)(k){y:V}{u:Value}(f:jy y u):
 KT H (a.map λb=>if b.1=k then(b.1,y) else b) (c.map (putAt k u)):=by
 induction r with
 |nil=>exact .nil
 | @cons p q ps g h t e =>
  refine .cons ?_ e
  grind[putAt]
def KT.put {H:Hp}{a:List (List j6×V)}{c:List (List j6×Addr×Value)}(r:KT H a c)(k){b:Addr}{y:V}{u:Value}(g:H b=some (.tup (k.map kV)))(f:jy y u):
 KT H (qC a k y) (storedH c k b u):=by
 have e:(a.any λh=>decide (h.1=k))=(atKey c k).isSome:=by
  rw[EE,(r.val k).isSome_eq,Option.isSome_map]
 unfold qC storedH;rw[e];by_cases q:(atKey c k).isSome=true
 .rw[Zd q,Zd q];exact r.repl k f
 .rw[Ze q,Ze q];exact Paired.snoc r ⟨rfl,g,f⟩
def KT.keeps {H c:Hp}{a:List (List j6×V)}{e:List (List j6×Addr×Value)}(r:KT H a e)(f:∀b ys,H b=some (.tup ys)->c b=some (.tup ys)):KT c a e:=
 xB r ()
section
variable {P:Program}{w:World}{H:Hp}{h:Heap}{a:Addr}
def EG {u:HO}(ok:qP P w H h)(e:Rd H a u):xL P w H h a u:=e.ok ok
def WF {b:List (j6×V)}(ok:qP P w H h)(e:Rd H a (.dK b)):b.length<=sizeLine/\(a == sysModules)=false/\∃c,KV b c/\h.DictOf (Q0 P w) a c:=
 EG ok e
def Ck {b:List (j6×V)}(ok:qP P w H h)(e:H a=some (.dK b)):b.length<=sizeLine/\(a == sysModules)=false/\∃c,KV b c/\h.DictOf (Q0 P w) a c:=WF ok (.inl e)
theorem XY {ks:List j6}(ok:qP P w H h)(e:H a=some (.tup (ks.map kV))):(tupleKind (Q0 P w)).is h ks a:=have ⟨_,its,r,o,b,c,n,f⟩:=(ok a _ e);⟨o,its.toArray,n,b,c,f,by simpa using EF r⟩
def Xl {b:List (List j6×V)}(ok:qP P w H h)(e:Rd H a (.dT b)):b.length<=sizeLine/\(a == sysModules)=false /\
 ∃c,KT H b c/\h.DictOfH (tupleKind (Q0 P w)) a c:=by
 obtain⟨z,y,c,r,o,es,ep,g,i,j,n,s⟩:=(EG ok e);refine⟨z,y,c,r,o,es,ep,g,i,j,n,λx f=>?_,s⟩;have all:∀{l:List (List j6×V)} {m:List (List j6×Addr×Value)},KT H l m->∀x∈m,(tupleKind (Q0 P w)).is h x.1 x.2.1:=by
  intro l m q
  induction q with
  |nil=>intro x f;exact nomatch f
  | @cons p q ps u v t A =>
   grind[XY]
 exact all r x f
def fm {b:List (List j6×V)}(ok:qP P w H h)(e:H a=some (.dT b)):b.length<=sizeLine/\(a == sysModules)=false /\
 ∃c,KT H b c/\h.DictOfH (tupleKind (Q0 P w)) a c:=Xl ok (.inl e)
end
def x8 (H:Hp)(a:Addr)(y:V)(r:YF):Prop:=
 (∃c k,Rd H a (.dK c)/\y=kV k/\r=qA c k)\/∃c k b,Rd H a (.dT c)/\y=.ref b/\H b=some (.tup (k.map kV))/\r=qA c k
def zj (H:Hp)(a:Addr)(y v:V)(e:Hp):Prop:=
 (∃c k,H a=some (.dK c)/\y=kV k/\c.length<sizeLine/\e=upd H a (.dK (qC c k v))) \/
 ∃c k b,H a=some (.dT c)/\y=.ref b/\H b=some (.tup (k.map kV))/\c.length<sizeLine/\e=upd H a (.dT (qC c k v))
theorem x8.k {H:Hp}{a:Addr}{b:List (j6×V)}{k:j6}(e:H a=some (.dK b)):x8 H a (kV k) (qA b k):=.inl ⟨b,k,.inl e,rfl,rfl⟩
theorem zj.k {H:Hp}{a:Addr}{b:List (j6×V)}{k:j6}{v:V}(e:H a=some (.dK b))(c:b.length<sizeLine):zj H a (kV k) v (upd H a (.dK (qC b k v))):=.inl ⟨b,k,e,rfl,c,rfl⟩
section
variable {X:Cx}{Y:Yb}{Z: St}{H:Hp}{s:Shared}{a:Addr}{y v:V}{u r:Value}{o:YF}{A:Around}{E:Ya}
def Inv.big (I:Inv X Y Z H s):sysModules<s.heap.objs.size:=have h:=(I.mod.glob.keeps I.bk).lt;Uh (by decide) h
def NE {Q:Ya}(w:A.units+1<cLine)(I:Inv X Y Z H s)(g:x8 H a y (some v))(t:jy y u)(h:∀i s',Inv X Y Z H s'->jy v i->Q i s'):
 wpAny (model X.prog X.w) A (getItem (.ref a) u) Q E s:=by
 rcases g with ⟨j,k,e,m,l⟩|⟨j,k,b,e,m,x,l⟩
 .subst m;obtain⟨z,B,C,c,dd⟩:=WF I.hok e;obtain⟨i,n,f⟩:=qJ (by rw[l];exact c.val k);exact wpAny_getItem_of (XX t) dd.mapOf n (h i _ (I.tok _) f)
 .subst m;cases (t);obtain⟨z,B,F,c,dd⟩:=Xl I.hok e;obtain⟨i,n,f⟩:=qJ (by rw[l];exact c.val k);obtain⟨p,hp,q⟩:=Jj.mp n;refine wpAny_getItem_heap (tupleKind_room_in1 w) (XY I.hok x) dd hp ?_;rw[q];exact h i _ (I.tok _) f
def NF {Q:Ya}(n:A.units+1<cLine)(I:Inv X Y Z H s)(g:x8 H a y o)(m:jy y u)(h:∀s',Inv X Y Z H s'->Q (.bool (!o.isSome)) s'):
 wpAny (model X.prog X.w) A (compareOp .NotIn u (.ref a)) Q E s:=by
 rcases g with ⟨f,k,e,i,l⟩|⟨f,k,b,e,i,p,l⟩
 .subst i;obtain⟨z,j,t,c,dd⟩:=WF I.hok e;refine wpAny_notIn_of (XX m) j dd.mapOf ?_;rw[<- (c.val k).isSome_eq,<- l];exact h _ (I.tok _)
 .subst i;cases (m);obtain⟨z,j,w,c,dd⟩:=Xl I.hok e;refine wpAny_notIn_heap (tupleKind_room_in1 n) (XY I.hok p) j dd ?_;have q:=(c.val k).isSome_eq;rw[Option.isSome_map] at q;rw[<- q,<- l];exact h _ (I.tok _)
def EH {h':Heap}{t':Nat}{c:HO}(I:Inv X Y Z H s)(e:fL (H a))(hs:Heap.SameBut a s.heap h')(f:∃q,h'.get? a=some q)(new:xL X.prog X.w (upd H a c) h' a c):
 Inv X Y Z (upd H a c) { s with heap:=h',toks:=t' } :=
 I.write e (.inl rfl) (λb q g z=>(hs.2 b g).trans z) f new
def EI {P:Program}{w:World}{f:Hp}{h':Heap}{b:List (j6×V)}{c:List (j6×Value)}(z:b.length<=sizeLine)(g:(a == sysModules)=false)(e:KV b c)(dd:h'.DictOf (Q0 P w) a c):
 xL P w f h' a (.dK b):=⟨z,g,c,e,dd⟩
def NG {x:Hp}{Q:Unit->YC}(G:A.units+1<cLine)(I:Inv X Y Z H s)(g:zj H a y v x)(B:jy y u)(C:jy v r)(h:∀s',Inv X Y Z x s'->Q Yt s'):
 wpAny (model X.prog X.w) A (setItem (.ref a) u r) Q E s:=by
 rcases g with ⟨f,k,e,n,l,p⟩|⟨f,k,b,e,n,F,l,p⟩
 .subst n p;obtain⟨z,t,J,i,dd⟩:=Ck I.hok e;have hz:J.length<=sizeLine:=by rwa [<- i.length]
  have w:(qC f k v).length<=sizeLine:=by have:=Cj f k v;lia
  refine wpAny_setItem_pairs (hsz:=hz) (XX B) dd λh' j hs=>h _ ?_;have K:∃q,h'.get? a=some q:=let ⟨q,_,_,m,_⟩:=j;⟨q,m⟩
  exact EH I (by rw[e];exact True.intro) hs K (EI w t (i.put k C) j)
 .subst n p;cases (B);obtain⟨z,t,L,i,dd⟩:=fm I.hok e;have hz:L.length<=sizeLine:=by rwa [<- Paired.length i]
  have w:(qC f k v).length<=sizeLine:=by have:=Cj f k v;lia
  refine wpAny_setItem_heap (hsz:=hz) (tupleKind_room_in1 G) (XY I.hok F) dd λh' j hs=>h _ ?_;obtain⟨q,es,ep,m,M,N,O,_,P⟩:=j;refine EH I (by rw[e];exact True.intro) hs ⟨q,m⟩ ⟨w,t,_,(i.put k F C).keeps λc ys R=>?_,q,es,ep,m,M,N,O,P⟩
  rwa [JG ()]
end
section
variable {X:Cx}{Y:Yb}{Z: St}{H:Hp}{s:Shared}{a:Addr}{kvs:List (j6×V)}{k:j6}{u:Value}{A:Around}{E:Ya}
def fu {Q:Ya}(I:Inv X Y Z H s)(e:Rd H a (.dK kvs))(h:∀t s',Inv X Y Z H s'->Q (.int kvs.length t) s'):wpAny (model X.prog X.w) A (call (.builtin "len") [.ref a]) Q E s:=by
 obtain⟨z,c,f,b,dd⟩:=WF I.hok e;refine call_len_dict c dd (by rw[<- b.length];rw[sizeLine_eq] at z;lia) ?_;rw[<- b.length];exact h _ _ (I.tok _)
end
def zM (i:Expr):Prop:=∀a b,subscripted i false a b=operate [a,b] (getItem a b)
def NH {prog:Program}{w:World}{A:Around}{E:Ya}{s:Shared}{env:Env}{b a:Expr}{c:Pos}{T id:String}{Q:Ya}
 (e:typeLookup (.type T) "__getitem__" = pure (some (.builtin id))) (hs:zM a)
 (h:YJ prog w A (eval b env) (λo s₁=>YJ prog w A (eval a env) (λi s₂=>s₂.TypeIs o T/\YJ prog w A (getItem o i) Q E s₂) E s₁) E s):
 YJ prog w A (eval (.Subscript b a c) env) Q E s:=by
 refine Subscript_ (Zc h (λo s₁ h₁=>Zc h₁ (λi s₂ h₂=>?_) λ_ _ x=>x) λ_ _ x=>x);obtain⟨f,h₂⟩:=h₂;refine Za (Za (wpAny_specialOf f e ?_));have g:YJ prog w A (subscripted a false o i) (λr s₃=>YJ prog w A (letTemporaryGo b o r >>= λ_=>pure r) Q E s₃) E s₂:=by
  rw[hs o i];exact wpAny_operating (Zc h₂ (λr s₃ h₃=>Za (wpAny_letTemporaryGo (Zb h₃))) λ_ _ x=>x)
 grind[wpAny_pure,wpAny_bind]
def NI {X:Cx}{Y:Yb}{Z: St}{H:Hp}{s:Shared}{a:Addr}{y:V}{o:YF}(I:Inv X Y Z H s)(g:x8 H a y o):s.TypeIs (.ref a) "dict" := by
 rcases g with ⟨c,k,e,_,_⟩|⟨c,k,b,e,_,_,_⟩
 .obtain⟨_,_,f,_,dd⟩:=WF I.hok e;exact dd.typeIs
 .obtain⟨_,_,h,_,dd⟩:=Xl I.hok e;exact dd.typeIs
def ub (c e:TE):TE:=λZ H Q=>c Z H λx f=>e Z f λy b=>∃a v,x=.ref a/\x8 b a y (some v)/\Q v b
def NJ (c e:TE):TE:=λZ H Q=>c Z H λy f=>e Z f λx b=>∃a o,x=.ref a/\x8 b a y o/\Q (.bl (!o.isSome)) b
def uw (c e f:TE):TS:=λD Z H=>f Z H λv g=>c Z g λx h=>e Z h λy i=>∃a b,x=.ref a/\zj i a y v b/\D.nx Z b
section
variable {X:Cx}{o i e value:Expr}{pos pos' tpos:Pos}{td ty tv:TE}
def Cm (f:X.A.units+1<cLine)(j:PE X o td)(l:PE X i ty)(hs:zM i):PE X (.Subscript o i pos) (ub td ty):=by
 intro Y s Z H Q I h;refine NH PySem.F.slot_dict_getitem.lookup hs (jG (j Y s Z H _ I h) λu m ⟨x,n,p,q,r⟩=>jG (l Y m Z n _ p r) λC E ⟨y,t,c,w,a,v,z,g,A⟩=>?_);subst z;obtain rfl:=q;exact⟨NI c g,NE f c g w λF G B b=>⟨v,t,B,b,A⟩⟩
def NK (b:X.A.units+1<cLine)(c:PE X i ty)(f:PE X o td):PC X .NotIn i o (NJ ty td):=by
 intro Y s Z H Q I h;refine jG (c Y s Z H _ I h) λB j ⟨y,l,m,n,p⟩=>jG (f Y j Z l _ m p) λu C ⟨x,q,r,t,a,v,w,g,z⟩=>?_;subst w;obtain rfl:=t;exact NF b r g n λE A=>⟨.bl (!v.isSome),q,A,rfl,z⟩
def EJ (b:X.A.units+1<cLine)(c:PE X o td)(f:PE X i ty)(j:PE X value tv)(hs:swapsWith value (some (.Subscript o i pos')) pos.line X.env=pure false):
 PS X (.Assign [.Subscript o i pos'] value pos) (uw td ty tv):=by
 intro Y s Z H D I h;refine wpAny_Assign_Subscript (jG (j Y s Z H _ I h) λr l ⟨v,m,n,p,q⟩=>jG (c Y l Z m _ n q) λu t ⟨x,w,z,A,B⟩=>jG (f Y t Z w _ z B) λL M ⟨y,N,C,E,a,F,G,g,J⟩=>?_) hs;subst G;obtain rfl:=A;exact NG b C g E p λO K=>⟨Z,F,K,J⟩
end
def NL {P:Program}{w:World}{H:Hp}(h:Heap)(a:sysModules<h.objs.size):xL P w H (h.push { cls:=.type "dict",data:=.dict #[] }) h.objs.size (.dK []):=
 ⟨Ua _,(),[],.nil,Heap.DictOf.new h⟩
def NM:TE:=λ_ H Q=>∀p,H p=none->Q (.ref p) (upd H p (.dK []))
section
variable {X:Cx}{pos:Pos}
def NN:PE X (.Dict [] [] pos) NM:=λY s Z H Q I h =>
 wpAny_Dict_empty ⟨.ref s.heap.objs.size,_,I.laid (λ_ _ q=>Zq _ q) (Zf _) (NL s.heap I.big),rfl,h _ (I.hok.fresh (Zf _))⟩
end
def WG (a more:List (j6×V)):List (j6×V):=more.foldl (λb c=>qC b c.1 c.2) a
def zP:∀{more:List (j6×V)} {rs:List (j6×Value)} {a:List (j6×V)} {b:List (j6×Value)},KV more rs->KV a b->KV (WG a more) (merged b rs):=by
 intro more rs a b r
 induction r generalizing a b with
 |nil=>intro q;exact q
 | @cons p q ps g h t c =>
  intro f;have e:KV (qC a p.1 p.2) (stored b q.1 q.2):=by
   have:=f.put p.1 h.2
   rwa [<- h.1]
  exact c e
theorem EK:∀more a,(WG a more).length<=a.length+more.length
 | [],a=>by show a.length<=a.length+0;lia
 |p::r,a=>by
  have b:=EK r (qC a p.1 p.2);have c:=Cj a p.1 p.2;show(WG (qC a p.1 p.2) r).length<=_
  grind
structure M2 (X:Cx)(o:Expr)(m:Str)(apos:Pos)(e f:Expr)(cpos:Pos):Prop where
 base:attributeBase o m X.env (eval o X.env)=eval o X.env
 few:((backTo cpos (starEach [e,f] X.env)).all (λx => !x.1)&&(backToKw cpos (keywordEach [] X.env)).all (λx=>x.1.isSome)
  && decide (([e,f]:Ym).length+([]:List Keyword).length+(if([]:List Keyword).isEmpty then 0 else 1)<30))=true
 line:(apos.endLine == cpos.line)=true
 trees:backTo cpos (starEach [e,f] X.env)=[(false,eval e X.env),(false,eval f X.env)]
def jf (H:Hp)(a:Addr):Prop:=(∃b,Rd H a (.dK b))\/∃b,Rd H a (.dT b)
def NO {X:Cx}{Y:Yb}{Z: St}{H:Hp}{s:Shared}{a:Addr}(I:Inv X Y Z H s)(d:jf H a):
 s.TypeIs (.ref a) "dict" /\ (∀b,Value.ref a=.ref b->∃c,s.heap.get? b=some c/\c.dict=none)/\(a == sysModules)=false:=by
 rcases d with ⟨f,e⟩|⟨f,e⟩
 .obtain⟨_,g,j,_,dd⟩:=WF I.hok e;refine⟨dd.typeIs,λb q=>?_,g⟩;cases q;obtain⟨c,_,_,h,i,_⟩:=dd;exact⟨c,h,i.2.1⟩
 .obtain⟨_,g,l,_,dd⟩:=Xl I.hok e;refine⟨dd.typeIs,λb q=>?_,g⟩;cases q;obtain⟨c,_,_,h,i,_⟩:=dd;exact⟨c,h,i.2.1⟩
section
variable {X:Cx}{Y:Yb}{Z: St}{H:Hp}{s:Shared}{a:Addr}{y d:V}{u r:Value}{o:YF}{A:Around}{E:Ya}
def NP {Q:Ya}(q:A.units+1<cLine)(I:Inv X Y Z H s)(g:x8 H a y o)(m:jy y u)(n:jy d r)(h:∀p s',Inv X Y Z H s'->jy (o.getD d) p->Q p s'):
 wpAny (model X.prog X.w) A (call (.builtin "dict.get") [.ref a,u,r]) Q E s:=by
 rcases g with ⟨f,k,e,i,l⟩|⟨f,k,b,e,i,t,l⟩
 .subst i;obtain⟨z,j,w,c,dd⟩:=WF I.hok e;refine call_meetsIn PySem.F.slot_dict_get dd.typeIs PySem.F.entry_dict_get (PySem.F.args_dict_get_3 _ _ _) (meets_dict_get_default (Q0 X.prog X.w) a (XX m) j r) ⟨_,dd.mapOf,h _ _ (I.tok _) ?_⟩;rw[l];exact(c.val k).getD n
 .subst i;cases (m);obtain⟨z,j,v,c,dd⟩:=Xl I.hok e;refine call_meetsIn PySem.F.slot_dict_get dd.typeIs PySem.F.entry_dict_get (PySem.F.args_dict_get_3 _ _ _) (meetsH_dict_get_default (tupleKind (Q0 X.prog X.w)) a b j r) ⟨tupleKind_room_in1 q,k,v,XY I.hok t,dd,h _ _ (I.tok _) ?_⟩;rw[l];exact(c.val k).getD n
end
def NQ (e f g:TE):TE:=λZ H Q=>e Z H λx b=>∃a,x=.ref a/\jf b a/\f Z b λy h=>g Z h λz c=>∃o,x8 c a y o/\Q (o.getD z) c
section
variable {X:Cx}{o e f:Expr}{apos cpos:Pos}{td ty tx:TE}
def NR (i:X.A.units+1<cLine)(j:PE X o td)(l:PE X e ty)(n:PE X f tx)(m:M2 X o "get" apos e f cpos):PE X (.Call (.Attribute o "get" apos) [e,f] [] cpos) (NQ td ty tx):=by
 intro Y s Z H Q I h;refine wpAny_Call_method m.base m.few m.line PySem.F.plainAttrs_dict PySem.F.slot_dict_get PySem.F.type_dict_get (jG (j Y s Z H _ I h) λu p ⟨x,q,c,r,a,t,d,v⟩=>?_);subst t;obtain rfl:=r;obtain⟨w,A,_⟩:=NO c d;refine⟨w,A,?_⟩;rw[m.trees];exact Calls.callWith_builtin rfl (Calls.evalArgs_plain (Calls.spliced_cons (jG (l Y p Z q _ c v) λO B ⟨y,C,E,F,G⟩ =>
  Calls.spliced_cons (jG (n Y B Z C _ E G) λP R ⟨z,J,K,L,S,g,M⟩=>Calls.spliced_nil (NP i K g F L λT U N b=>⟨_,J,N,b,M⟩)))))
end
end L2
namespace Att
open PySem PySem.W PySem.Calls PyProof.Rows
theorem NS {P:Params}{h:Heap}:∀ns c,WellAll P h c (ns.map WData.int)->IntsAre c ns:=by
 intro ns
 induction ns with
 |nil =>
  intro c w;cases w;exact .nil
 |cons n ns e =>
  intro c w;cases w with
  |cons a b =>
   cases a;exact .cons _ _ (e _ b)
def NT {l:OpenLaw}{n:Nat}(m:l.most=some n){P:Params}{h:Heap}{args:List WData}{b:Yf}
 (c:l.row.toRowW.claim.pre args=true) (e:WellAll P h b args):
 ∃a g ns,b=[Value.ref a]/\args=[WData.list (ns.map WData.int)]/\h.get? a=some { cls:=.type "list",data:=.seq g.toArray }/\IntsAre g ns/\ns.length<=n:=by
 obtain⟨d,r,rfl,o,p⟩:=hasAllW_cons ((pre_splitW c).1);obtain rfl:=hasAllW_nil p;obtain⟨u,rfl,q⟩:=hasW_list o;obtain⟨ns,rfl⟩:=items_int q;have i:ns.length<=n:=by
  have f:(WTm.not (.lt (.lit (.int (n:Int))) (.len (.arg 0)))).holds [] { args:=[.list (ns.map .int)] }=true:=by
   have f:=(holds_andW ((pre_splitW c).2)).1
   rwa [m] at f
  have v:=condW_of f rfl
  simp_all
 cases e with
 |cons s t =>
  cases t;cases s with
  |list w j=>grind[NS]
def NU (l:OpenLaw)(args):l.row.toRowW.claim.post args (.bool true) args=true:=
 postW_of
  rfl
  (w_eq_bool (w_res rfl) w_lit) rfl
def attach_call {l:OpenLaw}{n:Nat}{q:Program}{b:Yk}{A:(Ye)->Heap->Prop}{B:World->Heap->Prop}{d:DefRec}
 (H:l.most=some n) (t:d.params.defaults=[])
 (call:∀w s₀ s₁ mg u h o v p c a g ns,
  Ground q b [] A w s₀ mg u s₁.heap->B w s₁.heap ->
  s₁.heap.get? h=some o->o.data=.func (docDef d.name d.params d.body d.scope v p c)->s₁.heap.CodeRec p d.name->mg d.name=some (.ref h) ->
  s₁.heap.get? a=some { cls:=.type "list",data:=.seq g.toArray }->IntsAre g ns->ns.length<=n->s₁.gens = #[] ->
  codeAny (model l.prog w) callerA (.call (.ref h) ⟨[.ref a],[]⟩) (λr s'=>r=.ok (.ret (.bool true))/\OldK s₁.heap s'.heap/\s'.os=s₁.os/\AllBare s'.gens) s₁):
 WalkO q b A B l.row.toRowW d [] (λf g=>PySem.call f g):=by
 intro w s₀ s₁ mg u G Yy h o v p c S kV I J x C y K args E T i F L z M;obtain rfl:=Dflts.none C t;obtain rfl:=Dflts.noKw C;obtain⟨a,g,ns,rfl,rfl,j,e,m⟩:=NT H i z;refine enter_call (codeAny_mono (call w s₀ s₁ mg u h o v p c a g ns G Yy I (fd_plain J) x y j e m K) λr s' N=>?_);obtain⟨rfl,O,P,Q⟩:=N;exact⟨.inl ⟨.bool true,.bool true,[],rfl,λ_=>rfl,.bool true,NU l _,λ_=>⟨List.Pairwise.nil,λ_ R=>(nomatch R)⟩⟩,O,P,Q⟩
end Att
namespace L2
def NV:∀{a:Yf} {ns:Yh},IntsAre a ns->jq (ns.map V.int) a:=λh=>by
 induction h with
 |nil=>exact .nil
 |cons n t _ b=>exact .cons ⟨t,rfl⟩ b
def vz (H:Hp):Prop:=∀b,H b=none\/∃o a,H b=some (.frz o (.lst a))
def NW {P:Program}{w:World}{K:W.Frag}{mg G:Ye}{CX:zk}{k:Nat}{I a:Addr}{R:FuncData}{x:Str}{sp:Sp}{s₁:Shared}{p:Yf}{ns:Yh}
 (S:K.In s₁.heap) (t:s₁.heap.Ns mainGlobals mg) (f:s₁.heap.Ns builtinsNs G) (J:∀x:Str,x ≠ "__name__" -> G x=bootBuiltins x) (y:s₁.heap.NoLimit) (Z:s₁.gens = #[])
 (L:s₁.heap.get? a=some { cls:=.type "list",data:=.seq p.toArray }) (T:IntsAre p ns) (hl:ns.length<=sizeLine) (hr:Room k callerA)
 (F:∀g:Heap,K.In g->g.Ns mainGlobals mg->FnOk P w K mg g CX k I R [x] sp) (l:∀s u,BindsTo s R ⟨[u],[]⟩ [(x,u)])
 (M:∀H:Hp,vz H->qE K H a (ns.map V.int)->sp [.ref a] H (λv _=>v=.bl true) λ_ _ _=>False)
 (N:∀H e s',CX [] H s₁ (λ_ _ _=>False) e s'->False):
 codeAny (model P w) callerA (.call (.ref I) ⟨[.ref a],[]⟩) (λr s'=>r=.ok (.ret (.bool true))/\OldK s₁.heap s'.heap/\s'.os=s₁.os/\AllBare s'.gens) s₁:=by
 have U:=NV T;have A:=T.length;have j:∀H:Hp,vz H->qE K H a (ns.map V.int)->qP P w H s₁.heap->(∀b,H b≠none->b=a)->(H a≠none->K.lookup a=none) ->
  codeAny (model P w) callerA (.call (.ref I) ⟨[.ref a],[]⟩) (λr s'=>r=.ok (.ret (.bool true))/\OldK s₁.heap s'.heap/\s'.os=s₁.os/\AllBare s'.gens) s₁:=by
  intro H X hS B hA hK;have c:∀{b:Addr} {o:Obj},s₁.heap.get? b=some o->H b=none->(yi s₁.heap H).get? b=some o:=λe n=>Mo e n;have O:∀{b:Addr} {o:Obj} {es:Array DictEntry} {ep:Nat},s₁.heap.get? b=some o->o.data=.dict es ep->H b=none:=by grind
  have i:∀{b:Addr} {m:Ye},s₁.heap.Ns b m->(yi s₁.heap H).Ns b m:=λ{b m} ⟨o,es,ep,e,d,r⟩=>⟨o,es,ep,c e (O e d),d,r⟩;have C:K.In (yi s₁.heap H):=λb o e=>c (S b o e) (by
   grind)
  have hM:Mod K mg (yi s₁.heap H):=⟨C,i t,⟨G,i f,J⟩,let ⟨mc,h1,h2⟩:=y;⟨mc,i h1,h2⟩⟩;have e0:Env0 P w K mg (yi s₁.heap H) callerA [] s₁ H:=⟨rfl,hM,λb o e=>Mp e,Yx (Mn _ _),trivial,λb f=>Zn (show b∈([]:Yl) from f) (),B,.of_eq Z⟩;refine codeAny_mono ((F _ C (i t)).run callerA [] s₁ H ⟨[.ref a],[]⟩ [.ref a] [.ref a] _ _ hr e0 (l s₁ (.ref a)) (.cons rfl .nil) (M H X hS)) λr s' h=>?_;cases r with
  |error e=>exact(N H e s' h).elim
  |ok fl =>
   cases fl with
   |next=>exact False.elim h
   |brk=>exact False.elim h
   |cont=>exact False.elim h
   |ret u =>
    obtain⟨v,H',os,bare,un,E,r',q⟩:=h;have q':v=.bl true:=q;subst q';obtain rfl:=r';refine⟨rfl,OldK.of_keep λb o e=>?_,os,bare⟩;cases q:H b with
    |none=>exact un.keep b o e q (λz=>Zn (show b∈([]:Yl) from z) ()) ()
    |some u =>
     rcases X b with z|⟨ob,xs,z⟩
     .rw[q] at z;cases z
     .obtain⟨Y,_⟩:=B b _ z;obtain⟨e2,_⟩:=E b _ (un.frzs b ob _ z);rw[e] at Y;cases Y;exact e2
 cases Q:K.lookup a with
 |some o =>
  have e:=S a o Q;rw[L] at e;cases e;refine j (λ_=>none) (λ_=>.inl rfl) (.inr ⟨_,p.toArray,_,Q,rfl,rfl,rfl,by rwa [Zm,A],by simpa using U⟩) (λb u z=>by have z':=z;cases z') () λz=>Zn rfl z
 |none =>
  refine j (λb=>if b=a then some (.frz { cls:=.type "list",data:=.seq p.toArray } (.lst (ns.map V.int))) else none) (λb=>?_) (.inl (.inr ⟨{ cls:=.type "list",data:=.seq p.toArray },Zd rfl⟩)) (λb u z=>?_) (λb z=>?_) λ_=>Q
  .by_cases f:b=a
   .exact by grind
   .exact .inl (Ze f)
  .by_cases f:b=a
   .cases ((Zd f).symm.trans z);subst f;exact⟨L,by rwa [Zql],p,_,U,L⟩
   .cases ((Ze f).symm.trans z)
  .by_cases f:b=a
   .exact f
   .exact Zn (Ze f) z
def walk_of {l:W.OpenLaw}{n k:Nat}{q:Program}{g:Yk}{I:(Ye)->Heap->Prop}{B:World->Heap->Prop}{d:DefRec}{K:Params->W.Frag}{CX:World->zk}{sp:World->Sp}{x:Str}
 (J:l.most=some n) (p:n<=sizeLine) (r:d.params.defaults=[]) (L:Room k callerA)
 (M:∀w h,B w h->(K w.params).In h)
 (F:∀w mg m h,(K w.params).In h->h.Ns mainGlobals mg->mg d.name=some (.ref m) ->
  ∃t:FuncData,(∀s u,BindsTo s t ⟨[u],[]⟩ [(x,u)]) /\
   ∀b:Heap,(K w.params).In b->b.Ns mainGlobals mg->FnOk l.prog w (K w.params) mg b (CX w) k m t [x] (sp w))
 (y:∀w H a (ns:Yh),ns.length<=n->vz H->qE (K w.params) H a (ns.map V.int)->sp w [.ref a] H (λv _=>v=.bl true) λ_ _ _=>False)
 (z:∀w H s e s',CX w [] H s (λ_ _ _=>False) e s'->False):
 W.WalkO q g I B l.row.toRowW d [] (λf C=>PySem.call f C):=by
 refine Att.attach_call J r λw s₀ s₁ mg U m o X Y N a C ns G Yy Z hd O A j i c P=>?_;have E:=M w _ Yy;obtain⟨t,Q,R⟩:=F w mg m _ E G.T.g A;exact NW E G.T.g G.T.b G.T.builtins G.T.nolimit P j i (Zh c p) L R Q (λH S T=>y w H a ns c S T) λH e s'=>z w H s₁ e s'
def Am (s:Stmt)(j:Nat):Stmt:=match s with
 | .ClassDef _ _ _ body _ _ _ _ _ _ _=>body.getD j (.Pass ⟨0,0,0,0⟩)
 |_=>.Pass ⟨0,0,0,0⟩
def WH (s:Stmt):Arguments:=match s with
 | .FunctionDef _ a _ _ _ _ _ _ _ _=>a
 |_=>{ posonlyargs:=[],args:=[],vararg:=none,kwonlyargs:=[],kw_defaults:=[],kwarg:=none,defaults:=[] }
def QR (s:Stmt):List Stmt:=match s with
 | .FunctionDef _ _ b _ _ _ _ _ _ _=>b
 |_=>[]
def JV (s:Stmt):Scope:=match s with
 | .FunctionDef _ _ _ _ _ _ sc _ _ _=>sc
 |_=>{ kind:=.function,names:=[],isGenerator:=false,isCoroutine:=false }
abbrev yw:zk:=λ_ _ _ _ _ _=>False
abbrev E0:XK:=λ_ _ _=>False
def EL {X:Cx}:Xk yw X E0:=λ_ _ _ _ _ _ _ h=>h.elim
structure Fun (K:W.Frag)(x qual:Str)(st:Stmt)(f:Addr)(fd:FuncData):Prop where
 ex:∃(oc:Value) (od:Option Addr) (kV doc pm:Value) (an:Option Addr) (cdv ct:Value) (osl:Array Yg),
  fd=W.fnOf x qual (WH st) (QR st) (JV st) .none kV doc pm an cdv ct/\K.lookup f=some ⟨oc,od,.func fd,osl⟩/\W.codeIn K cdv qual=true
 kp:W.keepIn K (.ref f)=true
section
variable {P:Program}{w:World}{K:W.Frag}{mg:Ye}{base:Heap}
def Fun.ok {x b:Str}{st:Stmt}{f:Addr}{l:FuncData}{N ps:Yk}{k:Nat}{sp:Sp}(F:Fun K x b st f l)(S:FnScope N ps (JV st))(len:∀e H Q E,sp e H Q E->e.length=ps.length)
 (g:∀c A a s H e Q E,Room k (A.deeper (envOfC b (JV st) s.heap.objs.size f c))->sp e H Q E ->
  ∃t,qO (qf yw P w K mg base N b (JV st) f c A a s H E).nox (QR st) t/\t { nx:=λ_ m=>Q .non m,rt:=Q } (start N e) H):FnOk P w K mg base yw (k+1) f l ps sp:=by
 obtain⟨u,v,kV,n,y,z,c,ct,o,rfl,p,i⟩:=F.ex;refine E8 p i S len λA a s H e Q E r j=>?_;obtain⟨t,h,q⟩:=g c A a s H e Q E r j;exact⟨t,h.nox,q⟩
def Fun.binds {x a:Str}{st:Stmt}{f:Addr}{j:FuncData}{ps:Yk}(F:Fun K x a st f j)
 (h:∀kV b e g c ct i,i.length=ps.length->bindArgs (W.fnOf x a (WH st) (QR st) (JV st) .none kV b e g c ct) ⟨i,[]⟩=pure (ps.zip i)):zp K j ps []:=by
 obtain⟨n,o,kV,b,e,g,c,ct,l,rfl,p,m⟩:=F.ex;exact .all (h kV b e g c ct)
def fun_mk {x a:Str}{st:Stmt}{f:Addr}{j:Value}{m h:Option Addr}{g:Array Yg}{kV e i b ct:Value}(l:K.lookup f=some ⟨j,m,.func (W.fnOf x a (WH st) (QR st) (JV st) .none kV e i h b ct),g⟩)
 (c:W.codeIn K b a=true) (k:W.keepIn K (.ref f)=true):Fun K x a st f (W.fnOf x a (WH st) (QR st) (JV st) .none kV e i h b ct):=⟨⟨j,m,kV,e,i,h,b,ct,g,rfl,l,c⟩,k⟩
end
def JP {A:Around}{k:Nat}(a:Room k A):A.units+1<cLine:=UL () a.units
def EM {n:Nat}(h:n<=1000):n<sizeLine:=UL h (by decide)
section
variable {X:Cx}
def pv (i){x:Str}{a:Pos}(c:X.N[i]? = some x:=by rfl)(e:bK X.env.scope x:=by first|exact Or.inl rfl|exact Or.inr (Or.inl rfl)|exact Or.inr (Or.inr rfl))(f:(x == ("__debug__" : Str))=false:=by decide)
 (b:(x == ("__classdict__" : Str))=false:=by decide):PE X (.Name x a) (xH i):=Mr c e f b
end
def jl (H a:Hp):Prop:=∀b o,H b=some o->a b=some o
theorem jl.refl (H):jl H H:=λ_ _ h=>h
theorem jl.trans {H e f:Hp}(a:jl H e)(b:jl e f):jl H f:=λc o h=>b c o (a c o h)
def jl.free {H a:Hp}(e:jl H a){l:Addr}(h:a l=Option.none):H l=Option.none:=by
 cases q:H l with
 |none=>rfl
 |some o =>
  rw[e l o q] at h;cases h
def jl.seq {K:W.Frag}{H b:Hp}{a:Addr}{c:YE}(e:jl H b)(h:qE K H a c):qE K b a c:=by
 rcases h with (h|⟨o,h⟩)|h
 .exact .inl (.inl (e _ _ h))
 .exact .inl (.inr ⟨o,e _ _ h⟩)
 .exact .inr h
section
variable {X:Cx}
def NX:jO X (.builtin "len") (λc H Q=>∃a b,c=[V.ref a]/\H a=some (.dK b)/\Q (.int b.length) H):=by
 intro Y s Z H c i Q I r h;obtain⟨a,b,rfl,e,q⟩:=h;obtain⟨u,rfl,f⟩:=Q6 r;cases f;exact fu I (.inl e) λt s' g=>⟨.int b.length,H,g,⟨t,rfl⟩,q⟩
end
end L2
def J3 {P:Prop}{α: Type}{z:α}(h:none=some z):P:=by cases  h
def JD {P:Prop}(h:false=true):P:=by cases  h
namespace L2
theorem Co (env):∀(names:List (Str×NameKind)) b,(∀y∈names,y.2=.free->∃c,env.cells.lookup y.1=some c) ->
 ∃f,(forIn names b λ(x:Str×NameKind) (r:List (Str×Addr))=>(match x with
  | (name,kind)=>if(kind == NameKind.free)=true then do let a <- cellOf env name;pure (ForInStep.yield ((name,a)::r)) else pure (ForInStep.yield r):Sem (ForInStep (List (Str×Addr)))))=(pure f:Sem (List (Str×Addr))) /\
  (∀x c,f.lookup x=some c->env.cells.lookup x=some c\/b.lookup x=some c)/\(∀x c,b.lookup x=some c->∃g,f.lookup x=some g)/\∀y∈names,y.2=.free->∃c,f.lookup y.1=some c
 | [],b,_=>⟨b,rfl,λ_ _ h=>.inr h,λx c h=>⟨c,h⟩,λ_ h=>nomatch h⟩
 | (n,k)::r,b,h=>by
  rw[List.forIn_cons];cases j:(k == NameKind.free) with
  |true =>
   have i:k=.free:=by simp_all
   obtain⟨c,l⟩:=h (n,k) Zqs i;obtain⟨f,e,m,o,p⟩:=Co env r ((n,c)::b) ();refine⟨f,?_,λx g q=>?_,λx g q=>?_,λy s t=>?_⟩
   .simp only[j,cellOf,l];exact e
   .grind
   .grind
   grind
  |false =>
   have ⟨f,e,m,o,p⟩:=Co env r b ()
   grind
def NY (env)(a)(h:∀y∈a.names,y.2=.free->∃c,env.cells.lookup y.1=some c):
 ∃b,closureFor a env=pure b/\(∀x c,b.lookup x=some c->env.cells.lookup x=some c)/\∀y∈a.names,y.2=.free->∃c,b.lookup y.1=some c:=by
 obtain⟨b,e,f,_,g⟩:=Co env a.names [] h;refine⟨b,?_,λx c i=>(f x c i).elim id (λq=>by simp at q),g⟩
 first
 | (rfl)
 |exact(Zt (· >>= λj=>pure j) e)
theorem An {env:Env}{x:Str}:∀{names:List (Str×NameKind)},
 (names.lookup x=some .free->(names.map λ(n,k)=>if(k == NameKind.free&&env.scope.kind == .function&&env.kindOf n == some .cell) then(n,NameKind.cell) else(n,k)).lookup x=some .cell\/(names.map λ(n,k)=>if(k == NameKind.free&&env.scope.kind == .function&&env.kindOf n == some .cell) then(n,NameKind.cell) else(n,k)).lookup x=some .free) /\
 (∀a,(names.map λ(n,k)=>if(k == NameKind.free&&env.scope.kind == .function&&env.kindOf n == some .cell) then(n,NameKind.cell) else(n,k)).lookup x=some a->(a=.cell\/a=.free)->names.lookup x=some .free\/names.lookup x=some .cell)
 | []=>by simp
 | (n,k)::r=>by
  obtain⟨b,c⟩:=@An env x r
  grind
theorem XZ:∀names n a,cellsFrom n names a=cellsFrom n names []++a
 | [],_,_=>rfl
 | (name,kind)::r,n,a=>by
  unfold cellsFrom
  split
  .rw[XZ r (n+1) ((name,n)::a),XZ r (n+1) [(name,n)],Ug];rfl
  .exact XZ r n a
theorem Cp:∀names n a,(x,c)∈cellsFrom n names a->(x,c)∈a\/(x,NameKind.cell)∈names
 | [],_,_,h=>.inl h
 | (name,kind)::r,n,a,h=>by
  unfold cellsFrom at h
  split at h
  .rcases Cp r (n+1) ((name,n)::a) h with z|z
   .grind
   simp_all
  .rcases Cp r n a h with z|z
   .exact .inl z
   simp_all
def EN:Option NameKind->Bool
 |some .cell=>true
 |_=>false
def NZ (h:EN o=true):o=some .cell:=by
 cases o with
 |none=>exact JD h
 |some k=>cases k<;>first|rfl|exact JD h
structure CellsAt (scope:Scope)(env:Env)(cl:List (Str×Addr))(C:Addr)(h1:Heap):Prop where
 from_:∀x c,cl.lookup x=some c->(env.cells.lookup x=some c/\scope.names.lookup x≠some .cell)\/(C<c/\h1.IsCell c none)
 free:∀x,scope.names.lookup x=some .free->∃c,cl.lookup x=some c/\env.cells.lookup x=some c
 own:∀x,scope.names.lookup x=some .cell->∃c,cl.lookup x=some c
 inj:∀x y c,cl.lookup x=some c->cl.lookup y=some c->x=y
def Oa (f:∀x c,cl.lookup x=some c->env.cells.lookup x=some c)(g:∀y∈a.names,y.2=.free->∃c,cl.lookup y.1=some c)
 (inj:∀x y c,env.cells.lookup x=some c->env.cells.lookup y=some c->x=y) (low:∀x c,env.cells.lookup x=some c->c<=C) (h:h0.objs.size=C+1) (i:∀y∈a.names,y.2=.cell->a.names.lookup y.1=some .cell):
 CellsAt a env (cellsFrom (C+1) a.names cl) C (pushCells h0 a.names):=by
 have ok:=cellsFrom_ok a.names h0 (C+1) [] ⟨(),List.Pairwise.nil⟩ ();rw[h] at ok;have look:∀x c,(cellsFrom (C+1) a.names cl).lookup x=some c->((x,c)∈cellsFrom (C+1) a.names [])\/(cl.lookup x=some c/\a.names.lookup x≠some .cell):=λx c e=>by
  rw[XZ,List.lookup_append] at e;cases q:(cellsFrom (C+1) a.names []).lookup x with
  |some d =>
   grind[Zqi,PySem.mem_of_lookup]
  |none =>
   rw[q] at e;refine .inr ⟨e,λz=>?_⟩;have:=W.cellsFrom_some a.names (C+1) [] (.inl z);rw[q] at this;exact JD this
 refine⟨λx c e=>?_,λx e=>?_,λx e=>?_,λx y c j l=>?_⟩
 .rcases look x c e with z|⟨z1,z2⟩
  .exact .inr ⟨(ok.empty x c z).2,(ok.empty x c z).1⟩
  simp_all
 .obtain⟨c,b⟩:=g (x,.free) (PySem.mem_of_lookup e) rfl;refine⟨c,?_,f x c b⟩;rw[XZ,List.lookup_append];cases q:(cellsFrom (C+1) a.names []).lookup x with
  |some d =>
   rcases Cp _ _ _ (PySem.mem_of_lookup q) with z|z
   .cases z
   .have:=i (x,.cell) z rfl;rw[e] at this;cases this
  |none=>exact b
 .exact Js.mp (W.cellsFrom_some a.names (C+1) cl (.inl e))
 .rcases look x c j with z|⟨z1,_⟩<;>rcases look y c l with w|⟨w1,_⟩
  .exact PySem.name_of_addr ok.apart z w
  .exact Zn (low y c (f y c w1)) (Nat.not_le_of_lt (ok.empty x c z).2)
  .exact Zn (low x c (f x c z1)) (Nat.not_le_of_lt (ok.empty y c w).2)
  .exact by grind
def Ob
 (a:Q (newEnv scope s.heap.objs.size globals (cellsFrom (s.heap.objs.size+1) scope.names cl) qual none .none (some env) builtinsNs) { s with heap:=pushCells (s.heap.push { cls:=.type "dict",data:=.dict #[] }) scope.names }):
 wpAny M A (newFunctionEnv scope globals cl [] qual none .none (some env)) Q E s:=by
 refine Za (wpAny_alloc (Za (wpAny_layCells _ () _ _ _ _ ?_)));rw[Heap.size_push ..];exact Za (Zb (Zb a))
def Y0 (X:Cx)(C:Addr):Ya:=λx s'=>∃m,s'.heap.Ns C m/\∀h',Heap.SameBut C s'.heap h'->∀a:Env,a.locals=C->YI X (passOn "comprehension.variables-let-go" x a:Sem Value) (λ_ _=>False) X.xe { s' with heap:=h' }
def JI (X:Cx)(a:Scope)(N:Yk)(b:List (Str×Addr))(C:Addr)(s:Shared)(H:Hp)(ex:Yl):Cx where
 prog:=X.prog
 w:=X.w
 K:=X.K
 mg:=X.mg
 base:=X.base
 A:=X.A
 N:=N
 s₀:=s
 H₀:=H
 env:=compEnvC a b C X.env
 outer:=X.stack
 stack:=X.stack
 ex:=ex
 fn:=λx=>EN (a.names.lookup x)
 calm:=X.calm
 pn:=[]
 xe:=notedBy (model X.prog X.w) X.A (compEnvC a b C X.env) (Y0 X C)
def WI (X:Cx)(C:Addr)(s:Shared)(H:Hp)(a:Yl):Prop:=∃Y Z,Inv X Y Z H s/\(∀b∈a,xc X Y H b)/\s.heap.objs.size<=C
def KN (cap:List (Option Nat))(Z: St):St:=cap.map λo=>o.bind λj=>(Z[j]?).join
structure CompOk (X:Cx)(scope:Scope)(N:Yk)(cap:List (Option Nat)):Prop where
 kind:scope.kind=.function
 loc:∀y∈scope.names,y.2=.local->scope.names.lookup y.1=some .local
 cell:∀y∈scope.names,y.2=.cell->scope.names.lookup y.1=some .cell
 free:∀y∈scope.names,y.2=.free->X.env.kindOf y.1=some .cell\/X.env.kindOf y.1=some .free
 len:cap.length=N.length
 cap:∀(i j:Nat) (x:Str),cap[i]? = some (some j)->N[i]? = some x->X.N[j]? = some x/\scope.names.lookup x=some .free
def QL (a:Scope)(env:Env)(b N:Yk)(cap:List (Option Nat)):Bool:=
 decide (a.kind=.function)&&a.names.all (λy => !decide (y.2=.local)||decide (a.names.lookup y.1=some .local))&&a.names.all (λy => !decide (y.2=.cell)||decide (a.names.lookup y.1=some .cell)) &&
 a.names.all (λy => !decide (y.2=.free)||(decide (env.kindOf y.1=some .cell)||decide (env.kindOf y.1=some .free)))&&decide (cap.length=b.length) &&
 (b.zip cap).all (λp=>match p.2 with|none=>true|some j=>decide (N[j]? = some p.1)&&decide (a.names.lookup p.1=some .free))
def CompOk.of {X:Cx}{a:Scope}{N:Yk}{cap:List (Option Nat)}(h:QL a X.env N X.N cap=true):CompOk X a N cap:=by
 unfold QL at h;simp only[Ud,decide_eq_true_eq,U8] at h;obtain⟨⟨⟨⟨⟨c,m⟩,n⟩,o⟩,e⟩,p⟩:=h;refine⟨c,λy b f=>?_,λy b f=>?_,λy b q=>?_,e,λi j x g l=>?_⟩
 .grind
 .grind
 .grind
 .have r:(x,some j)∈N.zip cap:=by
   refine Uf (i:=i) ?_;rw[VS];exact⟨l,g⟩
  grind
section
variable {X:Cx}{scope:Scope}{N:Yk}{cap:List (Option Nat)}{Y:Yb}{Z: St}{H:Hp}{s:Shared}{cl:List (Str×Addr)}{C D:Addr}{fp:Yl}
def Oc (ok:CompOk X scope N cap)(I:Inv X Y Z H s)(B:∀b∈fp,xc X Y H b)(y:∀b∈fp,b<s.heap.objs.size)
 (a:CellsAt scope X.env cl C h1)
 (t:s.heap.objs.size<=C) (g:∀b o,s.heap.get? b=some o->h1.get? b=some o) (E:h1.Ns C m):
 Inv (JI X scope N cl C s H fp) [] (KN cap Z) H { s with heap:=h1,toks:=tk }:=by
 have K:∀x,(JI X scope N cl C s H fp).env.kindOf x=some .cell\/(JI X scope N cl C s H fp).env.kindOf x=some .free->scope.names.lookup x=some .free\/scope.names.lookup x=some .cell:=λx h=>by
  rcases h with h|h
  .exact(An (env:=X.env) (x:=x) (names:=scope.names)).2 _ h (.inl rfl)
  .exact(An (env:=X.env) (x:=x) (names:=scope.names)).2 _ h (.inr rfl)
 refine⟨⟨I.ok.mod,ok.kind,I.ok.glob,I.ok.blt,t,a.inj,λx h=>?_,λx c z e=>?_,I.ok.hd,I.ok.frames,.inl rfl,λb n=>⟨?_,λx c e=>?_⟩,I.bs,Zh I.ok.bsz I.sz,
  λb o e n=>?_,λb n z=>?_,I.stack,I.stkFree⟩,rfl,I.bare,Un.kept g,⟨m,E,λi x v F f U=>?_⟩,λx c e=>?_,I.hok.fresh t,λx c e=>?_,λp hp=>Zn hp (by show ¬p∈([]:Yb)++[];simp),I.hok.kept g,?_⟩
 .rcases K x h with q|q
  .obtain⟨c,e,_⟩:=a.free x q;exact⟨c,e⟩
  .exact a.own x q
 .rcases a.from_ x c e with ⟨_,q⟩|⟨q,_⟩
  .exact Zn (NZ z) q
  .exact Zh t (Zz q)
 .exact Zi (Zg (y b n) t)
 .rcases a.from_ x c e with ⟨q,_⟩|⟨q,_⟩
  .exact(B b n).2.2.2.2.1 x c q
  .exact UJ (Uh (Zg (y b n) t) q)
 .rcases(B b n).2.2.2.1 with z|z
  .exact I.ok.noex b o e z
  .exact Zn (Zg (Zk e) (Zh I.ok.bsz z)) (Zy _)
 .rcases UI.mp (I.stkSub b z) with q|q
  .exact(B b n).2.1 q
  .exact(B b n).2.2.1 q
 .have F:N[i]? = some x:=F;have L:∃j,cap[i]? = some (some j) /\ Z[j]? = some (some v):=by
   have f:(cap.map λo=>o.bind λj=>(Z[j]?).join)[i]? = some (some v):=f;rw[Zv] at f;cases q:cap[i]? with
   |none=>rw[q] at f;exact J3 f
   |some o =>
    rw[q] at f;cases o with
    |none=>cases f
    |some j =>
     have f:some ((Z[j]?).join)=some (some v):=f;cases G:Z[j]? with
     |none=>rw[G] at f;cases f
     |some w=>rw[G] at f;exact⟨j,rfl,by cases f;exact G⟩
  obtain⟨j,M,O⟩:=L;obtain⟨P,J⟩:=ok.cap i j x M F;obtain⟨m0,_,Q⟩:=I.loc;have R:=ok.free (x,.free) (PySem.mem_of_lookup J) rfl;obtain⟨u,r,l⟩:=Q j x v P O (R.elim (λz=>.inr (.inl z)) λz=>.inr (.inr z));refine⟨u,r,.inr ⟨(An (x:=x)).1 J,?_⟩⟩;rcases l with ⟨k,_⟩|⟨_,c,S,z⟩
  .simp_all
  .obtain⟨c',T,A⟩:=a.free x J;rw[S] at A;obtain rfl:=Zqi A;exact⟨c,T,z.keeps g⟩
 .rcases a.from_ x c e with ⟨q,_⟩|⟨_,q⟩
  .obtain⟨v,z⟩:=I.cell x c q;exact⟨v,z.keeps g⟩
  .exact⟨none,q⟩
 .rcases a.from_ x c e with ⟨q,_⟩|⟨q,_⟩
  .exact I.freeC x c q
  .exact I.hok.fresh (Zh t (Zz q))
 .show(cap.map _).length=N.length;rw[Zql];exact ok.len
def Od (I:Inv X Y Z H s)(g:∀b∈fp,xc X Y H b)(l:s.heap.objs.size<=C)(m:s.heap.objs.size<=D)(h:D≠C)
 (J:Inv (JI X scope N cl C s H fp) [] Z' H' s') (p:s'.heap.get? D=some { cls:=.type "list",data:=.seq its.toArray k }) (y:H' D=none) (r:jq ys its) (hz:ys.length<=sizeLine) (hs:Heap.SameBut C s'.heap h')
 (q:Q (.ref D) (upd H' D (.lst ys))):EP X Y Z Q (.ref D) { s' with heap:=h' }:=by
 have i:∀b o,s.heap.get? b=some o->b≠C:=λb o e=>Zi (Zg (Zk e) l);have t:∀b o,s.heap.get? b=some o->b≠D:=λb o e=>Zi (Zg (Zk e) m);have tD:∀b u,H' b=some u->b≠D:=by grind
 have tC:∀b u,H' b=some u->b≠C:=λb u e z=>by
  have:=J.free;rw[z,show H' C=none from this] at e;exact J3 e
 have B:=J.base;refine⟨.ref D,upd H' D (.lst ys),I.call' J.os ?_ ?_ J.bare (λb a=>⟨(g b a).2.2.2.1,(g b a).2.1,(g b a).2.2.2.2.1,(g b a).2.2.2.2.2⟩),rfl,q⟩
 .refine⟨λb o e n a f=>(hs.2 b (i b o e)).trans (B.keep b o e n a f),λb o e n a f=>?_,λb o e n f=>?_,λb o e f=>?_,λb j e=>?_,λb o u e=>?_,λb ps e=>?_⟩
  .obtain⟨w,z⟩:=B.slot b o e n a f;exact⟨w,(hs.2 b (i b o e)).trans z⟩
  .rw[JG (t b o e)];exact B.free b o e n f
  .obtain⟨x,z⟩:=B.there b o e f;exact⟨x,(hs.2 b (i b o e)).trans z⟩
  .have z:=B.tups b j e
   rwa [JG (tD b _ z)]
  .have z:=B.frzs b o u e
   rwa [JG (tD b _ z)]
  .obtain⟨more,z⟩:=B.tbls b ps e;exact⟨more,by rwa [JG (tD b _ z)]⟩
 .intro b u e;by_cases a:b=D
  .subst a;rw[JK] at e;obtain rfl:=Zqi e;exact⟨hz,its,k,r,(hs.2 b h).trans p⟩
  .rw[JG a] at e;refine(J.hok b u e).stay (λc v A z=>(hs.2 c ?_).trans z) (λc z=>by rwa [JG (tD c _ z)]) (λc j z=>by rwa [JG (tD c _ z)])
   grind
end
def f8 (cap:List (Option Nat))(g:TG)(h:TE)(Z: St)(Q:VK):It->Hp->Prop:=λJ j=>∃W:Nat->Nat->YE->St->Hp->Prop,(∃m,W 0 m [] (KN cap Z) j)/\∀i m ys b a,W i m ys b a->ys.length<sizeLine /\
 (
  (J.stop i a/\∀D,a D=none->Q (.ref D) (upd a D (.lst ys))) \/
  (J.go i a/\∀x c,J.yld i a x c->g x b c λe l=>h e l λy n=>∃f,f<m/\W (i+1) f (ys++[y]) e n))
def Xm (cap:List (Option Nat))(wi:TI)(g:TG)(a:TE):TE:=λZ H Q=>wi Z H (f8 cap g a Z Q)
def Oe (cap:List (Option Nat))(g:TG)(l:TT)(n:TE)(Z: St)(Q:VK):It->Hp->Prop:=λJ o=>∃W:Nat->Nat->YE->St->Hp->Prop,(∃m,W 0 m [] (KN cap Z) o)/\∀i m ys f a,W i m ys f a->ys.length<sizeLine /\
 (
  (J.stop i a/\∀D,a D=none->Q (.ref D) (upd a D (.lst ys))) \/
  (J.go i a/\∀x h,J.yld i a x h->g x f h λe p=>l e p λb j=>if b=true then n e j (λy q=>∃c,c<m/\W (i+1) c (ys++[y]) e q) else ∃c,c<m/\W (i+1) c ys e j))
def Y1 (cap:List (Option Nat))(wi:TI)(g:TG)(a:TT)(b:TE):TE:=λZ H Q=>wi Z H (Oe cap g a b Z Q)
section
variable {X:Cx}{tg iter elt c:Expr}{scope:Scope}{pos:Pos}{wi:TI}{g:TG}{te:TE}{tt:TT}
def Y2 (X:Cx)(Y:Yb)(Z: St)(Q:VK)(use:Option (Value->Sem Unit))(R:Ya):Prop:=
 ∀(C D:Addr) (m:Ye) (a:Shared) (r:Flow),a.heap.Ns C m->¬C=X.env.locals->C∉X.fs->X.s₀.heap.objs.size<=C->(∀x c,X.env.cells.lookup x=some c->c≠C)->(∀p∈X.pn++Y,p.1≠C) ->
  (∀h',Heap.SameBut C a.heap h'->EP X Y Z (λv b=>b C=none/\Q v b) (.ref D) { a with heap:=h' })->compPost (model X.prog X.w) X.A X.xe use R (.ref D) C (.ok r) a
def EO:Y2 X Y Z Q none (EP X Y Z Q):=λC D m i r b _ _ _ _ _ k=>⟨m,b,λh' a=>by
 obtain⟨v,e,f,h,_,q⟩:=k h' a;exact⟨v,e,f,h,q⟩⟩
def fH (X:Cx)(tg elt:Expr)(it a:Value)(env:Env)(R:Result->YC)(I:Nat->YC)(test:(Bool->YC)->YC)(n:Nat)(s:Shared):Prop:=
 let E:Ya:=notedBy (model X.prog X.w) X.A env λe s'=>R (.error e) s'
 YI X (pyNext it) (λr b=>match r with
  |none=>R (.ok .next) b
  |some v=>YI X (letOwnedTupleGo tg it v) (λ_ h=>YI X (assign tg env v) (λ_ i=>test (λok f=>if ok=true then YI X (eval elt env) (λx j=>YI X (call (.builtin "list.append") [a,x]) (λ_ l=>∃m,m<n/\I m l) E j) E f else ∃m,m<n/\I m f) i) E h) E b) E s
def EQ {ifs:Ym}(N){test:Env->(Result->YC)->(Bool->YC)->YC}
 (lp:∀{it acc:Value} {env:Env} {R:Result->YC} {s:Shared} I,(∀n s,I n s->fH X tg elt it acc env R I (test env R) n s)->∀n,I n s->codeAny (model X.prog X.w) X.A (.compLoop (.ListComp elt [⟨tg,iter,ifs,0⟩] scope pos) 0 it acc env) R s)
 (ht:∀t C s H S {Y:Yb} {s7:Shared} {U:St} {H7:Hp} {R:Result->YC} {q:Bool->Hp->Prop} {Q:Bool->YC},WI X C s H S->(∀e s',Y0 X C e s'->R (.error e) s')->Inv (JI X scope N t C s H S) Y U H7 s7->tt U H7 q->(∀b s8 H8,Inv (JI X scope N t C s H S) Y U H8 s8->q b H8->Q b s8)->test (compEnvC scope t C X.env) R Q s7)
 (cap) (hc:X.calm=true) (okB:QL scope X.env N X.N cap=true) (hi:PI X tg iter wi) (hg:∀t C s H S,PG (JI X scope N t C s H S) tg g) (he:∀t C s H S,WI X C s H S->PE (JI X scope N t C s H S) elt te)
 (hs:∀x,foldedSetIterable iter X.env x=pure x) {use:Option (Value->Sem Unit)} {R:Ya} {fpos:Pos} {Y:Yb} {s:Shared} {Z: St} {H:Hp} {Q:VK} (I:Inv X Y Z H s) (h:Y1 cap wi g tt te Z H Q) (fin:Y2 X Y Z Q use R):
 YI X (comprehension (.ListComp elt [⟨tg,iter,ifs,0⟩] scope pos) scope X.env fpos (newList []) false (eval iter X.env) use) R X.xe s:=by
 have ok:=CompOk.of okB;obtain⟨cl0,hcl,hcl1,hcl2⟩:=NY X.env scope λy hy hf=>I.ok.has y.1 (ok.free y hy hf);refine wpAny_comprehension_free (use:=use) rfl hs hcl ok.kind ok.loc (jG (hi Y s Z H _ I h) λxv s1 h1=>jG h1 λitv a h2=>?_);obtain⟨it,l,tn,J,B,e,A,T,st2,f2,W,⟨m0,w0⟩,turn⟩:=h2;subst e;have G:∀b∈l,b<a.heap.objs.size:=λb w=>let ⟨_,e,_⟩:=T.obj _ _ st2 b w;Zk e
 refine wpAny_newObj_type (Ob ?_);dsimp only;generalize hP:a.heap.push { cls:=.type "list",dict:=none,data:=.seq ([]:Yf).toArray }=P2;have hC:P2.objs.size=a.heap.objs.size+1:=by rw[<- hP,Heap.size_push]
 have K:a.heap.objs.size≠P2.objs.size:=by rw[hC];exact by lia
 have j:a.heap.objs.size<=P2.objs.size:=by rw[hC];exact Nat.le_succ _
 have below:∀b,b<a.heap.objs.size->b≠P2.objs.size/\b≠a.heap.objs.size:=()
 have L:CellsAt scope X.env (cellsFrom (P2.objs.size+1) scope.names cl0) P2.objs.size (pushCells (P2.push { cls:=.type "dict",data:=.dict #[] }) scope.names):=
  Oa hcl1 hcl2 A.ok.inj (λx c e=>Zh (Zz (let ⟨_,_,ho,_⟩:=A.cell x c e;Zk ho)) j) (Heap.size_push ..) ok.cell
 have hns1:(pushCells (P2.push { cls:=.type "dict",data:=.dict #[] }) scope.names).Ns P2.objs.size (λ_=>none):=(Heap.Ns.new P2 (.type "dict")).keeps (pushCells_keeps _ _);generalize cellsFrom (P2.objs.size+1) scope.names cl0=t at L ⊢;have M:∀b o,a.heap.get? b=some o->(pushCells (P2.push { cls:=.type "dict",data:=.dict #[] }) scope.names).get? b=some o:=λb o e=>pushCells_keeps _ _ b o (Zq _ (hP ▸ Zq _ e));have hacc:(pushCells (P2.push { cls:=.type "dict",data:=.dict #[] }) scope.names).get? a.heap.objs.size=some { cls:=.type "list",data:=.seq ([]:Yf).toArray 0 }:=pushCells_keeps _ _ _ _ (Zq _ (hP ▸ Zr _ rfl));generalize pushCells (P2.push { cls:=.type "dict",data:=.dict #[] }) scope.names=g1 at L hns1 M hacc ⊢;have E:∀{H':Hp} {pl:Yb},(∀b∈l,H' b=none)->(∀p∈pl,p.1∉l)->∀b∈l,xc (JI X scope N t P2.objs.size a B l) pl H' b:=λ{H' pl} hn hp b w=>by
  refine⟨hn b w,(below b (G b w)).1,λz=>?_,.inl w,λx c e=>?_,λp hq z=>?_⟩
  .rcases UI.mp (A.stkSub b z) with q|q
   .exact(f2 b w).2.1 q
   .exact(f2 b w).2.2.1 q
  .rcases L.from_ x c e with ⟨q,_⟩|⟨q,_⟩
   .exact(f2 b w).2.2.2.2.1 x c q
   .exact UJ (Uh (Zg (G b w) j) q)
  .have hq:p∈([]:Yb)++pl:=hq
   grind[List.nil_append]
 have nD:a.heap.objs.size∉l:=λz=>Zn (G _ z) (Zy _);have loop:∀s3:Shared,s3={ a with heap:=g1 } ->
  codeAny (model X.prog X.w) X.A (.compLoop (.ListComp elt [⟨tg,iter,ifs,0⟩] scope pos) 0 (.ref it) (.ref a.heap.objs.size) (compEnvC scope t P2.objs.size X.env))
   (compPost (model X.prog X.w) X.A X.xe use R (.ref a.heap.objs.size) P2.objs.size) s3:=by
  rintro s3 rfl;have I0:=Oc (tk:=a.toks) ok A f2 G L j M hns1;refine lp (λn s'=>∃i ys its k Z' H',Inv (JI X scope N t P2.objs.size a B l) [] Z' H' s'/\tn i s'.heap/\(∀b∈l,H' b=none)/\s'.heap.get? a.heap.objs.size=some { cls:=.type "list",data:=.seq (List.toArray its) k } /\
   H' a.heap.objs.size=none/\jq ys its/\W i n ys Z' H') ?_ m0
   ⟨0,[],[],0,KN cap Z,B,I0,T.keep _ _ _ st2 (λb _ o e=>M b o e),λb w=>(f2 b w).1,hacc,A.hok.fresh (Zf _),.nil,w0⟩
  have cat:WI X P2.objs.size a B l:=⟨_,_,A,f2,j⟩;have ce:∀e s',Y0 X P2.objs.size e s'->compPost (model X.prog X.w) X.A X.xe use R (.ref a.heap.objs.size) P2.objs.size (.error e) s':=λe s' h=>by cases use<;>exact h
  have xe:∀e s',(JI X scope N t P2.objs.size a B l).xe e s'->notedBy (model X.prog X.w) X.A (compEnvC scope t P2.objs.size X.env) (λe s'=>compPost (model X.prog X.w) X.A X.xe use R (.ref a.heap.objs.size) P2.objs.size (.error e) s') e s':=λe s' h=>Zc h (λ_ a q=>ce e a q) λe a q=>ce e a q;rintro n s4 ⟨i,ys,its,k,Z4,H4,I4,st4,fr4,hd4,hn4,O,w4⟩;obtain⟨hz,tn4⟩:=turn i n ys Z4 H4 w4;have J4:Inv (JI X scope N t P2.objs.size a B l) [(a.heap.objs.size,{ cls:=.type "list",data:=.seq its.toArray k })] Z4 H4 s4:=I4.pins_of λp hp=>by
   have e:=Jc.mp hp;subst e;refine⟨hd4,hn4,K,?_,λv z=>by cases z⟩;exact λz=>Zn (Zg (by
    rcases UI.mp (A.stkSub _ z) with q|q
    .exact UL (Yx q) A.lt
    .obtain⟨_,o,ho,_⟩:=A.ok.funs.mem q;exact Zg (Zk ho) A.sz) (Zf a.heap.objs.size)) (Zy _)
  have np:∀p ∈ [(a.heap.objs.size,({ cls:=.type "list",data:=.seq its.toArray k }:Obj))],p.1∉l:=λp hp=>by
   have e:=Jc.mp hp;subst e;exact nD
  rcases tn4 with ⟨stop,qn⟩|⟨go,step⟩
  .refine Zc (T.done (JI X scope N t P2.objs.size a B l) rfl rfl rfl hc i _ s4 Z4 H4 (λ_ _=>False) J4 (E fr4 np) st4 stop) (λr s5 h5=>?_) λ_ _ f=>f.elim;obtain⟨rfl,I5⟩:=h5;obtain⟨m,hm,_⟩:=id I5.loc;have p5:=I5.pin (a.heap.objs.size,_) (Ut _ Zqs);refine fin _ _ m _ _ hm (UJ (Zg A.lt j)) (A.nofs j) (Zh A.sz j) (λx c e z=>?_) (λp hp z=>?_) λh' hs'=>Od A f2 j (Zf _) K (I5.pins_of λp hp=>nomatch hp) p5.1 p5.2.1 O (Zz hz) hs' ⟨by rw[JG (Ne.symm K)];exact I5.free,qn _ p5.2.1⟩
   .obtain⟨v,o,ho,hd⟩:=A.cell x c e;have:=Zk ho;rw[z] at this;exact Zn (Zg this j) (Zy _)
   .have:=Zk (A.pin p hp).1;rw[z] at this;exact Zn (Zg this j) (Zy _)
  .refine Zc (T.item (JI X scope N t P2.objs.size a B l) rfl rfl rfl hc i _ s4 Z4 H4 (λ_ _=>False) J4 (E fr4 np) st4 go) (λr s5 h5=>?_) λ_ _ f=>f.elim;obtain⟨u,rfl,h5⟩:=h5;refine Zc h5 (λ_ s6 h6=>?_) λ_ _ f=>f.elim;obtain⟨x,H6,I6,r6,y6,P,fr6⟩:=h6;have I6':=I6.pinned (E fr6 np) (T.obj _ _ P);refine Zc (hg t P2.objs.size a B l _ s6 Z4 H6 x u _ I6' r6 (step x H6 y6)) (λ_ s7 h7=>?_) xe;obtain⟨U,H7,I7,q7⟩:=h7;refine ht t P2.objs.size a B l cat ce I7 q7 λbv s8 H8 I8 q8=>?_;have F:∀H9 s9 Z9,Inv (JI X scope N t P2.objs.size a B l) ([(a.heap.objs.size,{ cls:=.type "list",data:=.seq its.toArray k })]++XT l s6.heap) Z9 H9 s9->(∀b∈l,∀o,s6.heap.get? b=some o->s9.heap.get? b=some o)/\∀b∈l,H9 b=none:=λH9 s9 Z9 I9=>by
    refine⟨λb w o e=>(I9.pin (b,o) (Ut _ (Ut _ (Ah w e)))).1,λb w=>?_⟩;obtain⟨o,e,d⟩:=T.obj _ _ P b w;exact(I9.pin (b,o) (Ut _ (Ut _ (Ah w e)))).2.1
   have p8:=I8.pin (a.heap.objs.size,_) (Ut _ (VH _ Zqs));cases bv with
   |false =>
    rw[Ze ()] at q8 ⊢;obtain⟨m',hm',w8⟩:=q8;obtain⟨z1,z2⟩:=F _ _ _ I8;exact⟨m',hm',i+1,ys,its,k,U,H8,I8.pins_of (λp hp=>nomatch hp),T.keep _ _ _ P z1,z2,p8.1,p8.2.1,O,w8⟩
   |true =>
    rw[Zd rfl] at q8 ⊢;refine Zc (he t P2.objs.size a B l cat _ s8 U H8 _ I8 q8) (λyv s9 h9=>?_) xe;obtain⟨y,H9,I9,ry,m',hm',w9⟩:=h9;have p9:=I9.pin (a.heap.objs.size,_) (Ut _ (VH _ Zqs));have hl:=O.length;refine append_at (hsz:=by show its.toArray.size<=sizeLine;rw[Zm,<- hl];exact Zz hz) p9.1 λh10 hs10 hd10=>?_;have I10:Inv (JI X scope N t P2.objs.size a B l) [] U H9 { s9 with heap:=h10 }:=(I9.pins_of (Y':=[]) λp hp=>nomatch hp).turned (t':=s9.toks) (it:=a.heap.objs.size) (λb o w e=>(hs10.2 b w).trans e) p9.2.1 K (.inr (Zf _))
     (λx c e z=>by
      obtain⟨v,o,ho,hd⟩:=I9.cell x c e;rw[z,p9.1] at ho;cases ho;cases hd) (λp hp=>Zn hp (by show ¬p∈([]:Yb)++[];simp))
    obtain⟨z1,z2⟩:=F _ _ _ I9;refine⟨m',hm',i+1,ys++[y],its++[yv],k+1,U,H9,I10,T.keep _ _ _ P (λb w o e=>?_),z2,?_,p9.2.1,jq.append O (.cons ry .nil),w9⟩
    .have hb':b≠a.heap.objs.size:=λz=>nD (by rw[<- z];exact w);exact(hs10.2 b hb').trans (z1 b w o e)
    .refine hd10.trans ?_;simp
 exact codeAny_compStart_list (loop _ rfl) (T.self _ 0 _ _ _ (T.keep _ _ _ st2 (λb _ o e=>M b o e)) (loop _ rfl))
def ER (N)(cap)(l:X.calm=true)(f:QL scope X.env N X.N cap=true)(m:PI X tg iter wi)(o:∀i C s H e,PG (JI X scope N i C s H e) tg g)(p:∀i C s H e,WI X C s H e->PE (JI X scope N i C s H e) elt te)
 (hs:∀x,foldedSetIterable iter X.env x=pure x) {use:Option (Value->Sem Unit)} {R:Ya} {a:Pos} {Y:Yb} {s:Shared} {Z: St} {H:Hp} {Q:VK} (I:Inv X Y Z H s) (h:Xm cap wi g te Z H Q) (j:Y2 X Y Z Q use R):
 YI X (comprehension (.ListComp elt [⟨tg,iter,[],0⟩] scope pos) scope X.env a (newList []) false (eval iter X.env) use) R X.xe s:=
 EQ (test:=λ_ _ Q s=>Q true s) N (λI b n h=>W.kcp_loop I b n h) (λ_ _ _ _ _ _ _ _ _ _ _ _ _ _ I q k=>k true _ _ I q) cap l f m o p hs I h j
def ES (N)(cap)(f:X.calm=true)(b:QL scope X.env N X.N cap=true)(i:PI X tg iter wi)(j:∀e C s H a,PG (JI X scope N e C s H a) tg g)(l:∀e C s H a,WI X C s H a->PE (JI X scope N e C s H a) elt te)
 (hs:∀x,foldedSetIterable iter X.env x=pure x:=by intro _;rfl):PE X (.ListComp elt [⟨tg,iter,[],0⟩] scope pos) (Xm cap wi g te):=λY s Z H Q I h=>ER N cap f b i j l hs I h EO
def Og (N)(cap)(f:X.calm=true)(a:QL scope X.env N X.N cap=true)(h:PI X tg iter wi)(i:∀b C s H e,PG (JI X scope N b C s H e) tg g)(j:∀b C s H e,PE (JI X scope N b C s H e) elt te)
 (hs:∀x,foldedSetIterable iter X.env x=pure x:=by intro _;rfl):PE X (.ListComp elt [⟨tg,iter,[],0⟩] scope pos) (Xm cap wi g te):=ES N cap f a h i () hs
end
mutual
def Is (H:Hp):PyData->V->Prop
 | .none,v=>v=.non
 | .bool b,v=>v=.bl b
 | .int i,v=>v=.int i
 | .str x,v=>v=.str x
 | .list ds,v=>∃a c,v=.ref a/\H a=some (.lst c)/\qm H ds c
 | .tuple ds,v=>∃a c,v=.ref a/\H a=some (.tup c)/\qm H ds c
 | .dict _,_=>False
def qm (H:Hp):List PyData->YE->Prop
 | [],xs=>xs=[]
 |d::ds,xs=>∃x r,xs=x::r/\Is H d x/\qm H ds r
end
mutual
theorem Is.same (e:jl H H'):∀d v,Is H d v->Is H' d v
 | .none,_,h=>h
 | .bool _,_,h=>h
 | .int _,_,h=>h
 | .str _,_,h=>h
 | .list ds,v,h=>have ⟨a,b,c,f,g⟩:=h;⟨a,b,c,e _ _ f,qm.same e ds b g⟩
 | .tuple ds,v,h=>have ⟨a,b,c,f,g⟩:=h;⟨a,b,c,e _ _ f,qm.same e ds b g⟩
 | .dict _,_,h=>h.elim
theorem qm.same (e:jl H H'):∀ds a,qm H ds a->qm H' ds a
 | [],_,h=>by simp_all [qm]
 |d::ds,a,h=>have ⟨x,r,b,c,f⟩:=h;⟨x,r,b,Is.same e d x c,qm.same e ds r f⟩
end
theorem qm.length:∀{ds:List PyData} {a:YE},qm H ds a->a.length=ds.length
 | [],_,h=>by simp_all [qm]
 |d::ds,a,h=>by
  obtain⟨x,r,rfl,_,b⟩:=h;rw[Zu,Zu,qm.length b]
theorem qm.get:∀{ds:List PyData} {a:YE} {i:Nat} {d:PyData},qm H ds a->ds[i]? = some d->∃x,a[i]? = some x/\Is H d x
 | [],_,_,_,_,e=>by simp at e
 |d::ds,a,0,d',h,e=>by
  grind[qm]
 |d::ds,a,i+1,d',h,e=>by
  obtain⟨x,r,rfl,_,b⟩:=h;obtain⟨y,c,f⟩:=qm.get b (by simpa using e)
  simp_all
theorem ET:∀(ns:Yh),qm H (ns.map PyData.int) (ns.map V.int)
 | []=>by rfl
 |n::ns=>⟨_,_,rfl,by rfl,ET ns⟩
theorem EU:∀{ns:Yh} {a:YE},qm H (ns.map PyData.int) a->a=ns.map V.int
 | [],_,h=>by
  simp_all [qm]
 |n::ns,a,h=>by
  obtain⟨x,r,rfl,b,c⟩:=h;rw[b,EU c];rfl
def xC:Is H (.list ds) v↔∃a b,v=.ref a/\H a=some (.lst b)/\qm H ds b:=Iff.rfl
def ym:Is H (.tuple ds) v↔∃a b,v=.ref a/\H a=some (.tup b)/\qm H ds b:=Iff.rfl
mutual
def QU:PyData->Bool
 | .int _=>true
 | .list xs=>Y3 xs
 | .tuple xs=>Y3 xs
 | .none=>false
 | .bool _=>false
 | .str _=>false
 | .dict _=>false
def Y3:List PyData->Bool
 | []=>true
 |x::xs=>QU x&&Y3 xs
end
mutual
theorem Cq:∀d e:PyData,QU d=true->QU e=true->(PyData.eqv d e=true↔d=e)
 | .int i,.int j,_,_=>by unfold PyData.eqv;simp
 | .int i,.list ys,_,_=>by unfold PyData.eqv;simp
 | .int i,.tuple ys,_,_=>by unfold PyData.eqv;simp
 | .list xs,.int j,_,_=>by unfold PyData.eqv;simp
 | .list xs,.list ys,h1,h2=>by
  have q:=Cr xs ys h1 h2
  simp_all [PyData.eqv]
 | .list xs,.tuple ys,_,_=>by unfold PyData.eqv;simp
 | .tuple xs,.int j,_,_=>by unfold PyData.eqv;simp
 | .tuple xs,.list ys,_,_=>by unfold PyData.eqv;simp
 | .tuple xs,.tuple ys,h1,h2=>by
  have q:=Cr xs ys h1 h2
  simp_all [PyData.eqv]
 | .none,_,h,_=>by simp_all [QU]
 | .bool _,_,h,_=>by simp_all [QU]
 | .str _,_,h,_=>by simp_all [QU]
 | .dict _,_,h,_=>by simp_all [QU]
 |_,.none,_,h=>by simp_all [QU]
 |_,.bool _,_,h=>by simp_all [QU]
 |_,.str _,_,h=>by simp_all [QU]
 |_,.dict _,_,h=>by simp_all [QU]
theorem Cr:∀a ys:List PyData,Y3 a=true->Y3 ys=true->(PyData.eqvAll a ys=true↔a=ys)
 | [],[],_,_=>by unfold PyData.eqvAll;simp
 | [],y::ys,_,_=>by unfold PyData.eqvAll;simp
 |x::a,[],_,_=>by unfold PyData.eqvAll;simp
 |x::a,y::ys,h1,h2=>by
  have ⟨b,c⟩:=Jt.mp h1;have ⟨e,f⟩:=Jt.mp h2;unfold PyData.eqvAll;rw[Bool.and_eq_true_iff,Cq x y b e,Cr a ys c f];simp
end
def Oh (a:QU d=true)(b:QU e=true)(h:d≠e):PyData.eqv d e=false:=by
 grind[Cq]
def Oi (a:QU d=true):PyData.eqv d d=true:=(Cq d d a a).mpr rfl
section
variable {X:Cx}
def qp:Yh->Int
 | []=>0
 |x::r=>r.foldl max x
def qx:Yh->Int
 | []=>0
 |x::r=>r.foldl min x
theorem EV:∀(r:Yh) x,x<=r.foldl max x/\(∀y∈r,y<=r.foldl max x)/\(r.foldl max x=x\/r.foldl max x∈r)
 | [],x=>by simp
 |y::r,x=>by
  obtain⟨b,a,c⟩:=EV r (max x y);show x<=r.foldl max (max x y)/\(∀z∈y::r,z<=r.foldl max (max x y))/\(r.foldl max (max x y)=x\/r.foldl max (max x y)∈y::r);refine⟨(),λz hz=>?_,?_⟩
  .rcases UI.mp hz with rfl|hz
   .omega
   .exact a z hz
  grind
def Kq (h:l ≠ []):qp l∈l/\∀y∈l,y<=qp l:=by
 cases l with
 |nil=>simp_all
 |cons x r =>
  obtain⟨a,b,h3⟩:=EV r x;refine⟨?_,λy hy=>?_⟩
  .rcases h3 with h3|h3
   .show r.foldl max x∈x::r;rw[h3];exact Zqs
   .exact Zqm _ h3
  .rcases UI.mp hy with rfl|hy
   .exact a
   .exact b y hy
def Cs (a:M∈l)(b:∀y∈l,y<=M):M=qp l:=by
 obtain⟨c,e⟩:=Kq (l:=l) ()
 grind
theorem EW:∀(r:Yh) x,r.foldl min x<=x/\(∀y∈r,r.foldl min x<=y)/\(r.foldl min x=x\/r.foldl min x∈r)
 | [],x=>by simp
 |y::r,x=>by
  obtain⟨b,a,c⟩:=EW r (min x y);show r.foldl min (min x y)<=x/\(∀z∈y::r,r.foldl min (min x y)<=z)/\(r.foldl min (min x y)=x\/r.foldl min (min x y)∈y::r);refine⟨(),λz hz=>?_,?_⟩
  .rcases UI.mp hz with rfl|hz
   .omega
   .exact a z hz
  grind
def Xn (h:l ≠ []):qx l∈l/\∀y∈l,qx l<=y:=by
 cases l with
 |nil=>simp_all
 |cons x r =>
  obtain⟨a,b,h3⟩:=EW r x;refine⟨?_,λy hy=>?_⟩
  .rcases h3 with h3|h3
   .show r.foldl min x∈x::r;rw[h3];exact Zqs
   .exact Zqm _ h3
  .rcases UI.mp hy with rfl|hy
   .exact a
   .exact b y hy
def Ct (a:M∈l)(b:∀y∈l,M<=y):M=qx l:=by
 obtain⟨c,e⟩:=Xn (l:=l) ()
 grind
def Oj (m:X.calm=true):jO X (.builtin "max") (λg H Q=>∃a ns,g=[.ref a]/\qE X.K H a (ns.map V.int)/\ns ≠ []/\Q (.int (qp ns)) H):=by
 intro Y s Z H g C Q I r h;obtain⟨a,ns,rfl,n,o,q⟩:=h;obtain⟨u,rfl,w⟩:=Q6 r;obtain rfl:=w;obtain⟨its,x,p,hz⟩:=I.list n;have i:=Cd x;obtain⟨ys,e⟩:=i.allInts.items;have c:ns=ys.toList.map (·.1):=by
  rw[<- i.numsOf,<- nums_intItems,<- e]
 have hsz:0<ys.size:=by
  grind
 have f:=p.isList;rw[e] at f;refine max_intList (I.ok.hd m) f hsz λv h' tk y z=>?_;obtain⟨t,rfl⟩:=intItems_at y;obtain⟨E,A⟩:=argBest_gt (numAt ys) (ys.size-1);refine⟨.int (qp ns),H,I.kept z,⟨t,?_⟩,q⟩
 congr 1
 refine Cs ?_ λb l=>?_
 .rw[c,numAt_eq];exact PySem.getD_mem (by rw[Zql,Ul];lia)
 .rw[c] at l;obtain⟨j,B,rfl⟩:=PySem.mem_getD l;rw[Zql,Ul] at B;rw[<- numAt_eq];exact A j ()
def Ol (m:X.calm=true):jO X (.builtin "min") (λg H Q=>∃a ns,g=[.ref a]/\qE X.K H a (ns.map V.int)/\ns ≠ []/\Q (.int (qx ns)) H):=by
 intro Y s Z H g C Q I r h;obtain⟨a,ns,rfl,n,o,q⟩:=h;obtain⟨u,rfl,w⟩:=Q6 r;obtain rfl:=w;obtain⟨its,x,p,hz⟩:=I.list n;have i:=Cd x;obtain⟨ys,e⟩:=i.allInts.items;have c:ns=ys.toList.map (·.1):=by
  rw[<- i.numsOf,<- nums_intItems,<- e]
 have hsz:0<ys.size:=by
  grind
 have f:=p.isList;rw[e] at f;refine min_intList (I.ok.hd m) f hsz λv h' tk y z=>?_;obtain⟨t,rfl⟩:=intItems_at y;obtain⟨E,A⟩:=argBest_lt (numAt ys) (ys.size-1);refine⟨.int (qx ns),H,I.kept z,⟨t,?_⟩,q⟩
 congr 1
 refine Ct ?_ λb l=>?_
 .rw[c,numAt_eq];exact PySem.getD_mem (by rw[Zql,Ul];lia)
 .rw[c] at l;obtain⟨j,B,rfl⟩:=PySem.mem_getD l;rw[Zql,Ul] at B;rw[<- numAt_eq];exact A j ()
def Om:jO X (.builtin "isinstance") (λa H Q=>∃x n t b,a=[x,.ty n]/\TyOf X.K H x t/\W.kitOne X.K t (.type n)=some b/\Q (.bl b) H):=by
 intro Y s Z H a i Q I r h;obtain⟨x,n,t,b,rfl,c,e,q⟩:=h;obtain⟨u,j,rfl,f,g⟩:=XU r;obtain rfl:=g;exact Nj I f c e λtk=>⟨.bl b,H,I.tok tk,rfl,q⟩
def zV (P:Program)(w:World)(K:W.Frag)(mg:Ye)(a:Heap)(name:Str)(k:Nat)(ps:Yk)(sp:Sp):Prop:=
 ∃f b,FnOk P w K mg a yw k f b ps sp/\zp K b ps []/\W.keepIn K (.ref f)=true/\mg name=some (.ref f)
theorem zV.mono {P:Program}{w:World}{K:W.Frag}{mg:Ye}{a:Heap}{name:Str}{j k:Nat}{ps:Yk}{sp:Sp}(c:zV P w K mg a name j ps sp)(h:j<=k):zV P w K mg a name k ps sp:=by
 obtain⟨f,b,F,r⟩:=c;exact⟨f,b,F.mono h,r⟩
def Ao (c:zV X.prog X.w X.K X.mg X.base name k ps sp)(h:Room k X.A)(i:Gl X name)(j:PA X (e::es) t)
 (a:(name == ("__debug__" : Str))=false:=by decide) (l:starEach (e::es) X.env=(false,eval e X.env)::starEach es X.env:=by rfl) (g:(backTo pos (starEach es X.env)).any (·.1)=false:=by rfl):
 PE X (.Call (.Name name p) (e::es) [] pos) (Cc sp [] E0 t):=by
 obtain⟨f,o,F,b,m,n⟩:=c;exact E2 F h i n m b .nil EL j a l g
end
def K4 (h:H p=none)(o):jl H (upd H p o):=λb u q=>by rwa [JG (Kb q h)]
def Ke (h:n<=1000):n<=sizeLine:=Zz (EM h)
def pD (p:Int×Int):PyData:=.tuple [.int p.1,.int p.2]
def rD (r:Jy):PyData:=.tuple (r.map pD)
def bQ:Is H (pD p) v↔∃a,v=.ref a/\H a=some (.tup [.int p.1,.int p.2]):=by
 constructor
 .rintro⟨a,g,b,c,f⟩;have e:=EU (ns:=[p.1,p.2]) f
  simp_all
 .rintro⟨a,b,c⟩;exact⟨a,_,b,c,ET [p.1,p.2]⟩
def Cu (o)(s:jl H H')(h:H l=none):jl H (upd H' l o):=λb u e=>by
 rw[JG (Kb e h)];exact s b u e
def Cv (p):QU (pD p)=true:=by rfl
def Kf:bootBuiltins "len" = some (.builtin "len"):=boot_len
def Y4:bootBuiltins "max" = some (.builtin "max"):=boot_max
def Ap:bootBuiltins "min" = some (.builtin "min"):=boot_min
def Aq:bootBuiltins "isinstance" = some (.builtin "isinstance"):=boot_isinstance
def Cw:bootBuiltins "sorted" = some (.builtin "sorted"):=boot_sorted
def Oo:bootBuiltins "sum" = some (.builtin "sum"):=boot_sum
def Op:bootBuiltins "int" = some (.type "int"):=boot_int
def Oq:bootBuiltins "bool" = some (.type "bool"):=boot_bool
def EX:bootBuiltins "str" = some (.type "str"):=boot_str
def KO:bootBuiltins "list" = some (.type "list"):=boot_list
def Y5:bootBuiltins "tuple" = some (.type "tuple"):=boot_tuple
def Ar:bootBuiltins "dict" = some (.type "dict"):=boot_dict
def bt_set:bootBuiltins "set" = some (.type "set"):=boot_set
def EY:entryFor table "dict.update.loop" = some Builtin.«dict.update.loop»:=entryFor_of_tree (by rfl)
def Au:plainId "dict.update.loop" = true:=by decide +kernel
section
variable {prog:Program}{w:World}{K:Type}[DecidableEq K]{knd:KeyKind prog w K}
def fq (knd:KeyKind prog w K)(it t d:Addr)(c:Yn)(ps:List (K×Value))(y:Heap)(hlen:c.size=ps.length)
 (J:∀(j:Nat) k v,ps[j]? = some (k,v)->∃n h,c[j]? = some (.ref n)/\y.IsTuple n #[h,v]/\knd.is k h=true/\n≠it/\n≠d)
 (z:y.IsTuple t c) (n1:t≠it) (n2:t≠d) (L:d≠it) (m:Nat):
 ∀i:Nat,ps.length-i=m->∀A R s (a:List (K×Value)),A.handled=none->s.heap.IsTupleIter it t i->(∀b o,b≠it->b≠d->y.get? b=some o->s.heap.get? b=some o) ->
  s.heap.DictOf knd d a->a.length+(ps.length-i)<=sizeLine ->
  (∀h' tk,h'.DictOf knd d (merged a (ps.drop i))->(∀b o,b≠it->b≠d->y.get? b=some o->h'.get? b=some o)->R (.ok (.ret .none)) { s with heap:=h',toks:=tk }) ->
  wpAny (model prog w) A.in1 (Builtin.«dict.update.loop» ⟨[.ref d,.ref it,rawInt i,.none],[]⟩) (λq s'=>match q with | .done f=>R (.ok f) s' | .again c'=>c'.quiet=true/\codeAny (model prog w) A c' R s') (λe s'=>R (.error e) s') s:=by
 induction m with
 |zero =>
  intro i H A R s a M st keep N hz I;have O:c[i]? = none:=by rw[Array.getElem?_eq_none_iff];lia
  have P:s.heap.IsTuple t c:=by
   obtain⟨o,l,r⟩:=z;exact⟨o,keep t o n1 n2 l,r⟩
  unfold Builtin.«dict.update.loop»;refine Za (wpAny_pyNext_tuple_end M st P O λh' eb=>?_);have Q:ps.drop i=[]:=Vk ();rw[Q] at I;have B:h'.DictOf knd d a:=by
   obtain⟨o,es,ep,l,r⟩:=N;exact⟨o,es,ep,eb d o L l,r⟩
  have q:=I h' s.toks B (λb o C E e=>eb b o C (keep b o C E e));unfold Builtin.Dict.addKeywords;exact Za (Zb (Zb q))
 |succ m ih =>
  intro i H A R s a M st keep N hz I;have u:i<ps.length:=()
  obtain⟨g,hkv⟩:∃g,ps[i]? = some g:=⟨_,Zqg u⟩;obtain⟨n,h,O,S,F,a1,a2⟩:=J i g.1 g.2 hkv;have P:s.heap.IsTuple t c:=by
   obtain⟨o,l,r⟩:=z;exact⟨o,keep t o n1 n2 l,r⟩
  unfold Builtin.«dict.update.loop»;refine Za (wpAny_pyNext_tuple_item st P O λC U x=>?_);obtain⟨X,Y,Z,nn,hod⟩:=S;have p:C.get? n=some X:=(x.2 n a1).trans (keep n X a1 a2 Y);have hD1:C.DictOf knd d a:=by
   obtain⟨o,es,ep,l,r⟩:=N;exact⟨o,es,ep,(x.2 d L).trans l,r⟩
  dsimp only;refine Za (wpAny_holding (Za (wpAny_tryCatch ?_)));unfold Builtin.Dict.pairItems;refine Za (wpAny_typeOf (T:= "tuple") ⟨X,p,Z⟩ ?_);rw[Zd (by decide)];refine Za (wpAny_seqItems p hod (Zb ?_));show wpAny _ _ (holding [h,g.2] (dictSet d h g.2)) _ _ _;refine wpAny_holding (wpAny_dictSet_pairs F hD1 (λE hD2 G=>?_) ());have hc:((i:Int)+1)=((i+1:Nat):Int):=by push_cast;rfl
  refine Zb ?_;rw[hc];have st2:E.IsTupleIter it t (i+1):=by
   obtain⟨o,l,r⟩:=U;exact⟨o,(G.2 it (Ne.symm L)).trans l,r⟩
  have k2:∀b o,b≠it->b≠d->y.get? b=some o->E.get? b=some o:=λb o b1 b2 e=>(G.2 b b2).trans ((x.2 b b1).trans (keep b o b1 b2 e));have z2:(stored a g.1 g.2).length+(ps.length-(i+1))<=sizeLine:=by
   have:(stored a g.1 g.2).length<=a.length+1:=by
    unfold stored
    split
    .rw[Zql];lia
    .rw[Ub,Uu];lia
   rw[H] at hz;rw[Nat.sub_succ,H];exact Zh (Nat.add_le_add_right this m) (Zh (Yx (Nat.succ_add_eq_add_succ a.length m)) hz)
  have e:merged a (ps.drop i)=merged (stored a g.1 g.2) (ps.drop (i+1)):=by
   rw[Ur u];have:ps[i]=g:=by
    have:=Zqg u;rw[this] at hkv;exact Zqi hkv
   rw[this];rfl
  exact⟨plainId_quiet Au _,codeAny_builtin EY (by
   rw[Around.under_plainId Au _];exact ih (i+1) (by rw[Nat.sub_succ,H];rfl) A R { s with heap:=E,toks:=s.toks+1 } (stored a g.1 g.2) M st2 k2 hD2 z2 λh' tk B kk=>I h' tk (by rwa [e]) kk)⟩
end
def Os:typeLookup (.type "tuple") "keys" = pure none:=by rw[typeLookup_type,builtinLookup_eq_fast];kernel_rfl
def Ot
 (n:s.heap.get? a=some o) (p:o.cls=.type "tuple") (f:o.data=.seq xs k) (q:o.dict=none) (i:typeLookup (.type "tuple") name=pure none) (j:(["__module__", "__name__", "__qualname__", "__doc__", "__annotations__"]:Yk).contains name=false) (t:A.handled=none)
 (h:∀h' tk,(∀b o,s.heap.get? b=some o->h'.get? b=some o)->Q none { s with heap:=h',toks:=tk }) (hsz:name.length+100<=sizeLine:=by size_fits):
 YJ prog w A (getAttr? (.ref a) name) Q E s:=by
 obtain⟨c,u,v,x⟩:=o;simp only at p f q;subst p f q;obtain⟨hp,g,d,tk,os⟩:=s;have r:∀l,(⟨hp,g,d,l,os⟩:Shared).TypeIs (.ref a) "tuple" := λ_=>⟨_,n,rfl⟩;have y:=sub_AttributeError;have z:=F.slot_tuple_getattribute.lookup;have B:=F.slot_tuple_getattribute.bind (.ref a);have C:=am_tuple_getattr_none;unfold getAttr? getAttrBy? getAttrBy
 repeat (any_goals (first|assumption|exact r _|((with_reducible show wpAny _ _ (call (Value.builtin "tuple.__getattribute__") _ _) _ _ _);refine call_meets F.slot_tuple_getattribute (r _) am_entry_tuple_getattribute (F.args_tuple_getattribute_2 _ _) (meets_getattribute_miss_tuple a xs k x name _ i j hsz) ⟨n,t,λh' l e m=>?_⟩)|wp_step))
 obtain⟨t',G,H⟩:=m.there;show wpAny _ _ (getattributeRaised _ _ _ _ _ _ _) _ _ _;unfold getattributeRaised
 repeat (any_goals (first|assumption|wp_step))
 exact h _ _ m.of.keeps
section
variable {prog:Program}{w:World}{K:Type}[DecidableEq K]{A:Around}{E:Ya}{s:Shared}
def Ou (knd:KeyKind prog w K)(M:A.handled=none)(C:s.heap.get? t=some o)(G:o.cls=.type "tuple")(l:o.data=.seq items n)(O:o.dict=none)
 (p:items.size=ps.length) (H:∀(j:Nat) k v,ps[j]? = some (k,v)->∃g a,items[j]? = some (.ref g)/\s.heap.IsTuple g #[a,v]/\knd.is k a=true) (hz:ps.length<=sizeLine)
 (h:∀h' tk,h'.DictOf knd s.heap.objs.size (merged [] ps)->(∀b u,s.heap.get? b=some u->h'.get? b=some u)->Q (.ref s.heap.objs.size) { s with heap:=h',toks:=tk }):
 YJ prog w A (call (.type "dict") [.ref t]) Q E s:=by
 refine callType_codes (Q₁:=λq s₁=>q=.ref s.heap.objs.size/\s₁={ s with heap:=s.heap.push { cls:=.type "dict",data:=.dict #[] } }) F.kt_called_dict (F.kt_typeCall_dict_1 _) F.entry_dict_init (kt_code_dict_new _ ⟨rfl,rfl⟩) ?_;rintro q s₁ ⟨rfl,rfl⟩;have c:(s.heap.push { cls:=.type "dict",data:=.dict #[] }).DictOf knd s.heap.objs.size []:=Heap.DictOf.new s.heap;refine⟨c.typeIs,F.args_dict_init_2 _ _,?_⟩;have m:(s.heap.push { cls:=.type "dict",data:=.dict #[] }).get? t=some o:=Zq _ C;unfold Builtin.«dict.__init__»;refine Za ?_;unfold Builtin.Dict.selfAndRest;refine Za (wpAny_notOrdered_dict c.typeIs ?_);show wpAny _ _ (pure (s.heap.objs.size,[Value.ref t])) _ _ _;refine Zb ?_;show wpAny _ _ (Builtin.Dict.updateFrom "dict.__init__" s.heap.objs.size (.ref t) [] .none) _ _ _;unfold Builtin.Dict.updateFrom;refine Za (wpAny_typeOf (T:= "tuple") ⟨o,m,G⟩ ?_);rw[Zd (by decide)];refine Za (Ot m G l O Os (by decide +kernel) M (λi P k2=>?_) (by decide));rw[Zd (by rfl)];have x:i.IsTuple t items:=⟨o,k2 _ _ m,G,n,l⟩;have lt:s.heap.objs.size<i.objs.size:=by
  obtain⟨B,_,_,e,_⟩:=c;exact Zk (k2 _ _ e)
 have R:i.DictOf knd s.heap.objs.size []:=by
  obtain⟨B,es,ep,e,r⟩:=c;exact⟨B,es,ep,k2 _ _ e,r⟩
 refine Za (wpAny_rule ?_);refine Za (wpAny_pyIter_tuple x ?_);have f:∀b u,s.heap.get? b=some u->b≠s.heap.objs.size/\b≠i.objs.size:=λb u e=>by
  have z:=Zk e;exact⟨Zi z,Zi (Uh z lt)⟩
 have N:∀b u,s.heap.get? b=some u->i.get? b=some u:=λb u e=>k2 b u (Zq _ e);have y:∀(j:Nat) k v,ps[j]? = some (k,v)->∃g a,items[j]? = some (.ref g)/\i.IsTuple g #[a,v]/\knd.is k a=true/\g≠i.objs.size/\g≠s.heap.objs.size:=λj k v e=>by
  obtain⟨g,a,S,⟨I,J,U⟩,X⟩:=H j k v e;exact⟨g,a,S,⟨I,N _ _ J,U⟩,X,(f g I J).2,(f g I J).1⟩
 refine Zb ⟨plainId_quiet Au _,codeAny_builtin EY ?_⟩;rw[Around.under_plainId Au _];refine fq knd i.objs.size t s.heap.objs.size items ps i p y x (f t o C).2 (f t o C).1 (Zi lt) ps.length 0 () A.in1 _ _ [] M ⟨_,Zr _ rfl,rfl,rfl⟩ (λb u _ _ e=>Zq _ e) ?_ (by simpa using hz) ?_
 .obtain⟨B,es,ep,e,r⟩:=R;exact⟨B,es,ep,Zq _ e,r⟩
 .intro h' tk L Y;exact⟨rfl,h h' tk L λb u e=>Y b u (f b u e).2 (f b u e).1 (N b u e)⟩
end
def xy (r:Jy):List (j6×V):=r.map λp=>(Ue p.1,V.int p.2)
def Av (r:Jy):List (j6×V):=WG [] (xy r)
theorem EZ (ok:qP P w H h):∀{r:Jy} {f:YE} {b:Yf},qm H (r.map pD) f->jq f b ->
 ∃ps:List (j6×Value),KV (xy r) ps/\b.length=ps.length/\∀(j:Nat) k v,ps[j]? = some (k,v)->∃g c,b[j]? = some (.ref g)/\h.IsTuple g #[c,v]/\(Q0 P w).is k c=true
 | [],f,b,ha,r=>by
  subst ha;cases r;exact⟨[],.nil,rfl,()⟩
 |p::r,f,b,ha,rv=>by
  obtain⟨x,ys,rfl,l,m⟩:=ha;cases rv with
  | @cons _ u _ q s t =>
   obtain⟨ps,k1,k2,k3⟩:=EZ ok m t;obtain⟨a,rfl,y⟩:=bQ.mp l;obtain rfl:=s;obtain⟨_,its,z,o,A,B,n,C⟩:=(ok a _ y);obtain⟨I,E,rfl,F,G⟩:=XU z;obtain⟨i,rfl⟩:=(F);refine⟨(Ue p.1,E)::ps,.cons ⟨rfl,G⟩ k1,(),λj k v e=>?_⟩;cases j with
   |zero =>
    cases e;exact⟨a,.int p.1 i,rfl,⟨o,A,B,n,C⟩,Ei p.1 i⟩
   |succ j =>
    exact k3 j k v (by simpa using e)
section
variable {X:Cx}
def Ov (g:X.calm=true):jO X (.type "dict") (λb H Q=>∃a r,b=[.ref a]/\Is H (rD r) (.ref a)/\r.length<=100/\∀p,H p=none->Q (.ref p) (upd H p (.dK (Av r)))):=by
 intro Y s Z H b G Q I i h;obtain⟨a,r,rfl,l,hz,q⟩:=h;obtain⟨u,rfl,m⟩:=Q6 i;obtain rfl:=m;obtain⟨J,b,t,w,x⟩:=l;cases t;obtain⟨⟨K,L,c,d0⟩,its,y,o,f,A,n,B⟩:=(I.hok a _ w);rw[c] at f;obtain rfl:=Zqi f;obtain⟨ps,k1,k2,k3⟩:=EZ I.hok x y;have M:=k1.length;have C:(xy r).length=r.length:=Zql _;refine Ou (Q0 X.prog X.w) (I.ok.hd g) c A B d0 () (λj k v e=>?_) (Ke ()) λh' tk E F=>?_
 .simp_all
 .refine⟨.ref s.heap.objs.size,upd H s.heap.objs.size (.dK (Av r)),I.laid F (Zf _) (EI ?_ (beq_eq_false_iff_ne.mpr (Ne.symm (Zi I.big))) (zP k1 .nil) E),rfl,q _ (I.hok.fresh (Zf _))⟩;have z:=EK (xy r) [];rw[ZC,C] at z;exact Ke (by unfold Av;lia)
end
def J5:Jy->Int->Option Int
 | [],_=>none
 |p::r,t=>match J5 r t with
  |some w=>some w
  |none=>if p.1=t then some p.2 else none
def Fa (r s)(t):J5 (r++s) t=match J5 s t with|some w=>some w|none=>J5 r t:=by
 induction r with
 |nil=>grind[J5]
 |cons p r a =>
  grind[List.cons_append,J5]
def Qn (h:J5 r t=some w):(t,w)∈r:=by
 induction r with
 |nil=>simp[J5] at h
 |cons p r a =>
  grind[J5]
theorem Fb (h:J5 r t=none):∀w,(t,w)∉r:=by
 induction r with
 |nil=>simp
 |cons p r a =>
  grind[J5]
def j4 (r:Jy):Prop:=(r.map (·.1)).Nodup
def j4.eq (h:j4 r)(a:(t,v)∈r)(b:(t,w)∈r):v=w:=by
 induction r with
 |nil=>cases a
 |cons p r c =>
  obtain⟨f,e⟩:=Jl.mp (h);rcases UI.mp a with e1|e1<;>rcases UI.mp b with e2|e2
  .grind
  .grind
  .grind
  .exact c e e1 e2
def j4.look (h:j4 r)(a:(t,w)∈r):J5 r t=some w:=by
 cases q:J5 r t with
 |none=>exact Zn a (Fb q w)
 |some v=>rw[h.eq (Qn q) a]
def xR (o:Jy)(p:Int×Int):Bool:=match J5 o p.1 with
 |some w=>decide (p.2<=w)
 |none=>false
def JE (r o:Jy):Bool:=r.all (xR o)
def Fc {r o:Jy}{i:Nat}{p:Int×Int}(hp:r[i]? = some p)(h:xR o p=false):JE r o=false:=by
 grind[JE,List.all_eq_false]
def QV {α: Type}{r:List α}{p:α}(hp:r[i]? = some p):r.take (i+1)=r.take i++[p]:=by
 rw[Vu,hp];rfl
def Ow {r o:Jy}{i:Nat}{p:Int×Int}(hp:r[i]? = some p)(h:JE (r.take i) o=true)(a:xR o p=true):JE (r.take (i+1)) o=true:=by
 rw[QV hp]
 simp_all [JE]
open PySem PyProof.Rows
def Fd (h:l<r)(c:r-l<=k-x):∃m,(l+r) / 2=m/\l<=m/\m<r/\m-l<=k-(x+1)/\r-(m+1)<=k-(x+1):=by
 have a:l<=(l+r) / 2:=()
 have b:(l+r) / 2<r:=()
 generalize (l+r) / 2=m at a b ⊢;exact⟨m,rfl,a,b,Nat.le_pred_of_lt (Zg (Nat.sub_lt_sub_right a b) c),Nat.pred_le_pred (Zh (Nat.sub_le_sub_left a r) c)⟩
structure Wk (lt:Yd):Prop where
 asy:∀i j,lt i j=true->lt j i=false
 neg:∀i j k,lt i k=true->lt i j=true\/lt j k=true
def jJ (lt:Yd)(i j:Nat):Prop:=lt i j=true\/(lt j i=false/\i<j)
section
variable {lt:Yd}(W:Wk lt)
include W
theorem jJ.no (h:jJ lt i j):lt j i=false:=by
 rcases h with h|h
 .exact W.asy _ _ h
 .exact h.1
theorem jJ.trans (c:jJ lt i j)(e:jJ lt j k):jJ lt i k:=by
 have g:=jJ.no W e;have f:lt k i=false:=by
  cases q:lt k i with
  |false=>rfl
  |true =>
   rcases W.neg k j i q with z|z
   .simp_all
   .rw[(jJ.no W c)] at z;exact JD z
 rcases c with a|a
 .rcases W.neg i k j a with z|z
  .exact .inl z
  simp_all
 .rcases e with b|b
  .rcases W.neg j i k b with z|z
   .simp_all
   .exact .inl z
  .exact .inr ⟨f,()⟩
end
def gx (ix:Yi)(k:Nat):Nat:=(ix[k]?).getD 0
theorem Cy (h:k<ix.size):ix[k]? = some (gx ix k):=by
 simp_all [gx]
def Fe (hs:src<ix.size)(a:d<=src)(k):gx (bubble ix src d) k=if k=src-d then gx ix src else if src-d<k/\k<=src then gx ix (k-1) else gx ix k:=by
 unfold gx;rw[getElem?_bubble hs d a k]
 repeat' split
 all_goals rfl
def Y6 (a:j<=ix.size)(k):gx (mirror ix i j ((j-i) / 2)) k=if i<=k/\k<j then gx ix (i+j-1-k) else gx ix k:=by
 unfold gx;rw[getElem?_mirror_all a k]
 split
 all_goals rfl
def Ox {α β: Type}(f:α -> β)(b:Array α)(i j:Nat):(b.map f).swapIfInBounds i j=(b.swapIfInBounds i j).map f:=by
 apply Array.ext_getElem?;intro k;by_cases a:i<b.size
 .by_cases c:j<b.size
  .rw[getElem?_swapIB (by simpa using a) (by simpa using c),UR,UR,UR,UR,getElem?_swapIB a c]
   repeat' split
   all_goals rfl
  .rw[VI,VI,dif_pos (by simpa using a),dif_neg (by simpa using c),dif_pos a,dif_neg c]
 .rw[VI,VI,dif_neg (by simpa using a),dif_neg a]
theorem Cz {α β γ: Type}(f:α -> β)(p q:γ -> Nat):∀(l:List γ) (b:Array α),l.foldl (λa k=>a.swapIfInBounds (p k) (q k)) (b.map f)=(l.foldl (λa k=>a.swapIfInBounds (p k) (q k)) b).map f
 | [],b=>rfl
 |k::l,b=>by
  rw[U7,U7,Ox,Cz f p q l]
def Oy {α β: Type}(f:α -> β)(xs)(src d):bubble (xs.map f) src d=(bubble xs src d).map f:=Cz f _ _ _ xs
def Oz {α β: Type}(f:α -> β)(xs)(i j d):mirror (xs.map f) i j d=(mirror xs i j d).map f:=Cz f _ _ _ xs
structure Pl (n:Nat)(ix:Yi)(k:Nat):Prop where
 size:ix.size=n
 perm:ix.Perm (Array.range n)
 pre:∀a,a<k->gx ix a<k
 suf:∀a,k<=a->a<n->gx ix a=a
def Pl.lt (h:Pl n ix k)(b:k<=n)(e:a<n):gx ix a<n:=by
 by_cases c:a<k
 .exact Zg (h.pre a c) b
 .rwa [h.suf a () e]
def Up (lt:Yd)(ix:Yi)(k:Nat):Prop:=∀a b,a<b->b<k->jJ lt (gx ix a) (gx ix b)
structure SB (it:Nat->Keyed)(kind:SortKind)(ix:Yi)(st:SortSt):Prop where
 arr:arrOf st=ix.map it
 kd:kindOf st=kind
 fl:failedOf st=none
 pd:pendingOf st = #[]
def yc (prog:Program)(w:World)(A:Around)(s:Shared)(kind:SortKind)(it:Nat->Keyed)(lt:Yd)(n:Nat):Prop:=
 ∀i j,i<n->j<n->∀(E:Ya) (Q:Bool->YC),Q (lt i j) s->YJ prog w A (keyLt' kind (it i).1 (it j).1) Q E s
end L2
set_option maxHeartbeats 4000000
namespace L2
def Wq:Bool->Keyed->Array Keyed->Nat->Nat->Nat->StateT SortSt Sem (Option Nat):=sortPriv% PySem.Builtin.gallop
def C0:Array Keyed->Array Keyed->StateT SortSt Sem (Array Keyed):=sortPriv% PySem.Builtin.mergeLo
def C1:Array Keyed->Array Keyed->StateT SortSt Sem (Array Keyed):=sortPriv% PySem.Builtin.mergeHi
abbrev KA:=Array Keyed
abbrev SM:=StateT SortSt Sem
abbrev C3:=Option (Option Nat)×Nat×Nat
def be (lt:Yd)(left:Bool)(x k:Nat):Bool:=if left then lt x k else !lt k x
section
variable {prog:Program}{w:World}{A:Around}{E:Ya}{s:Shared}{kind:SortKind}{it:Nat->Keyed}{lt:Yd}{N:Nat}{st:SortSt}
def Y7 {i j:Nat}{Q:Option Bool->YB}(O:yc prog w A s kind it lt N)(a:kindOf st=kind)(b:i<N)(c:j<N)(h:Q (some (lt i j)) st):YK prog w A E s (lt' (it i) (it j)) Q st:=by
 rw[lt'_eq];refine Yo (wpS_get ?_);rw[a];exact Yo (wpS_lift (wpAny_attempt (O _ _ b c _ _ ⟨rfl,Yp h⟩)))
def Qw {a:Yi}{p:Nat}{Q:Keyed->YB}(hp:p<a.size)(h:Q (it (gx a p)) st):YK prog w A E s (elem' (a.map it) p) Q st:=by
 grind[Array.getElem?_map,elem'_eq,Cy,PyProof.Rows.wpS_pure]
noncomputable def wi {α: Type}{c:Prop}[Decidable c]{m n:SM α}{Q:α -> YB}(h:c->YK prog w A E s m Q st)(k:¬c->YK prog w A E s n Q st):YK prog w A E s (if c then m else n) Q st:=()
noncomputable def kN (left:Bool)(a:Keyed)(e:KA)(c i:Nat):SM (Option Bool):=elem' e (c+i) >>= λx=>if left=true then lt' x a else lt' a x >>= λr=>pure (r.map λb => !b)
def nj {left:Bool}{k:Nat}{b:Yi}{p a:Nat}{Q:Option Bool->YB}(O:yc prog w A s kind it lt N)(c:kindOf st=kind)(e:k<N)(hp:a+p<b.size)(f:gx b (a+p)<N)(h:Q (some (be lt left (gx b (a+p)) k)) st):
 YK prog w A E s (kN left (it k) (b.map it) a p) Q st:=by
 refine Yo (Qw hp ?_);cases left with
 |true=>exact Y7 O c f e h
 |false=>exact Yo (Y7 O c e f (Yp h))
noncomputable def pJ (b:Nat->SM (Option Bool))(lo a:Nat):SM (ForInStep C3):=if lo ≥ a then pure (.done (none,lo,a)) else b (lo+(a-lo) / 2) >>= λr=>match r with
 |some t=>if t=true then pure (.yield (none,lo+(a-lo) / 2+1,a)) else pure (.yield (none,lo,lo+(a-lo) / 2))
 |_=>pure (.done (some none,lo,a))
noncomputable def kM (b:Nat->SM (Option Bool))(n lo a:Nat):SM (Option Nat):=(forIn [:n] ((none,lo,a):C3) λ_ c=>pJ b c.2.1 c.2.2) >>= λc=>match c.1 with
 |some r=>pure r
 |none=>pure (some c.2.2)
noncomputable def pL (b:Nat->SM (Option Bool))(a c l o:Nat):SM (ForInStep C3):=if o ≥ c then pure (.done (none,l,o)) else b (a+o) >>= λr=>match r with
 |some t=>if(!t)=true then pure (.done (none,l,o)) else pure (.yield (none,o,2*o+1))
 |_=>pure (.done (some none,l,o))
noncomputable def pK (b:Nat->SM (Option Bool))(a c l o:Nat):SM (ForInStep C3):=if o ≥ c then pure (.done (none,l,o)) else b (a-o) >>= λr=>match r with
 |some t=>if t=true then pure (.done (none,l,o)) else pure (.yield (none,o,2*o+1))
 |_=>pure (.done (some none,l,o))
noncomputable def rT (b:Nat->SM (Option Bool))(n a:Nat):SM (Option Nat):=(forIn [:n] ((none,0,1):C3) λ_ c=>pL b a (n-a) c.2.1 c.2.2) >>= λc=>match c.1 with
 |some r=>pure r
 |none=>kM b n (a+c.2.1+1) (a+min c.2.2 (n-a))
noncomputable def rV (b:Nat->SM (Option Bool))(n a:Nat):SM (Option Nat):=(forIn [:n] ((none,0,1):C3) λ_ c=>pK b a (a+1) c.2.1 c.2.2) >>= λc=>match c.1 with
 |some r=>pure r
 |none=>kM b n (a+1-min c.2.2 (a+1)) (a-c.2.1)
set_option smartUnfolding false in
def kK {left:Bool}{k:Keyed}{a:KA}{b n c:Nat}:Wq left k a b n c=(kN left k a b c >>= λr=>match r with
 |some t=>if t=true then rT (kN left k a b) n c else rV (kN left k a b) n c
 |_=>pure none):=rfl
section
variable {P:Nat->Bool}{b:Nat->SM (Option Bool)}{n:Nat}{Q:Option Nat->YB}(hb:∀{i:Nat} {Q:Option Bool->YB},i<n->Q (some (P i)) st->YK prog w A E s (b i) Q st)
 (mono:∀i j,i<j->j<n->P j=true->P i=true) (h:∀m,m<=n->(∀i,i<m->P i=true)->(∀i,m<=i->i<n->P i=false)->Q (some m) st)
include hb mono h
theorem kL {lo a:Nat}(l:lo<=a)(f:a<=n)(t:∀i,i<lo->P i=true)(u:∀i,a<=i->i<n->P i=false):YK prog w A E s (kM b n lo a) Q st:=by
 refine Yo (Yq (Yr (I:=λx c j=>j=st/\∃lo a,c=(none,lo,a)/\lo<=a/\a<=n/\(∀i,i<lo->P i=true)/\(∀i,a<=i->i<n->P i=false)/\a-lo<=n-x) (Q:=λc j=>j=st/\∃m,c=(none,m,m)/\m<=n/\(∀i,i<m->P i=true)/\∀i,m<=i->i<n->P i=false) ?_ ?_ ()) ?_)
 .rintro x c j _ B ⟨rfl,lo,a,rfl,l,f,t,u,g⟩;refine wi (λc=>?_) λc=>?_
  .have e:lo=a:=Nat.le_antisymm l c;subst e;exact Yp ⟨rfl,lo,rfl,f,t,u⟩
  .have c:lo<a:=Yv c;obtain⟨m,em,m0,m1⟩:∃m,lo+(a-lo) / 2=m/\lo<=m/\m<a:=⟨_,rfl,Ui _ _,Nat.add_lt_of_lt_sub' (Nat.div_lt_self (Nat.sub_pos_of_lt c) (by decide))⟩;have o:a-(m+1)<=n-(x+1):=Nat.pred_le_pred (Zh (Nat.sub_le_sub_left m0 a) g);have p:m-lo<=n-(x+1):=Nat.le_pred_of_lt (Zg (Nat.sub_lt_sub_right m0 m1) g);rw[em];refine Yo (hb (Zg m1 f) (wi (λq=>Yp ⟨rfl,_,_,rfl,m1,f,λi r=>?_,u,o⟩) λq=>Yp ⟨rfl,_,_,rfl,m0,Zh (Zz m1) f,t,λi C v=>?_,p⟩))
   .by_cases z:i=m
    .rw[z];exact q
    .exact mono _ _ () (Zg m1 f) q
   .cases y:P i with
    |false=>rfl
    |true =>
     by_cases z:i=m
     .rw[z] at y;exact Zn y q
     .exact Zn (mono _ _ () v y) q
 .rintro c j ⟨rfl,lo,a,rfl,l,f,t,u,g⟩;rw[Nat.zero_max,Nat.sub_self] at g;have e:lo=a:=Nat.le_antisymm l (Nat.le_of_sub_eq_zero (Nat.le_zero.mp g));subst e;exact⟨rfl,lo,rfl,f,t,u⟩
 grind[PyProof.Rows.wpS_pure]
theorem ng {a:Nat}(t:a<n)(e:P a=true):YK prog w A E s (rT b n a) Q st:=by
 refine Yo (Yq (Yr (I:=λx c j=>j=st/\∃l o,c=(none,l,o)/\l<o/\x+1<=o/\a+l<n/\P (a+l)=true) (Q:=λc j=>j=st/\∃l o,c=(none,l,o)/\l<o/\a+l<n/\P (a+l)=true/\(n-a<=o\/(o<n-a/\P (a+o)=false))) ?_ ?_ ⟨rfl,0,1,rfl,Yw,Zf _,t,e⟩) ?_)
 .rintro x c j _ _ ⟨rfl,l,o,rfl,m,u,f,g⟩;refine wi (λc=>Yp ⟨rfl,l,o,rfl,m,f,g,.inl c⟩) λc=>?_;have v:o<n-a:=Yv c;have B:a+o<n:=Nat.add_lt_of_lt_sub' v;refine Yo (hb B (wi (λq=>Yp ⟨rfl,l,o,rfl,m,f,g,.inr ⟨v,by simpa using q⟩⟩) λq=>Yp ⟨rfl,o,2*o+1,rfl,(),(),B,by simpa using q⟩))
 .rintro c j ⟨rfl,l,o,rfl,m,u,f,g⟩;rw[Nat.zero_max] at u;exact⟨rfl,l,o,rfl,m,f,g,.inl (Zh (U9 _ _) (UA u))⟩
 .rintro c j ⟨rfl,l,o,rfl,m,f,g,p⟩;show wpS _ _ _ _ (kM b n (a+l+1) (a+min o (n-a))) _ _;refine kL hb mono h (Nat.add_lt_add_left (Nat.lt_min.mpr ⟨m,Nat.lt_sub_iff_add_lt'.mpr f⟩) a) (Zh (Nat.add_le_add_left (Nat.min_le_right _ _) _) (Yx (Vv (Zz t)))) (λi F=>?_) λi r C=>?_
  .by_cases z:i=a+l
   .rw[z];exact g
   .exact mono _ _ () f g
  .rcases p with p|⟨p,h8⟩
   .rw[Nat.min_eq_right p,Vv (Zz t)] at r;exact Zn C (Nat.not_lt_of_le r)
   .rw[Vl (Zz p)] at r;cases y:P i with
    |false=>rfl
    |true =>
     by_cases z:i=a+o
     .rw[z,h8] at y;cases y
     .rw[mono _ _ (UE r (Ne.symm z)) C y] at h8;cases h8
theorem nh {a:Nat}(r:a<n)(e:P a=false):YK prog w A E s (rV b n a) Q st:=by
 refine Yo (Yq (Yr (I:=λx c g=>g=st/\∃l o,c=(none,l,o)/\l<o/\x+1<=o/\l<=a/\P (a-l)=false) (Q:=λc g=>g=st/\∃l o,c=(none,l,o)/\l<o/\l<=a/\P (a-l)=false/\(a+1<=o\/(o<a+1/\P (a-o)=true))) ?_ ?_ ⟨rfl,0,1,rfl,Yw,Zf _,Ua _,e⟩) ?_)
 .rintro x c g _ _ ⟨rfl,l,o,rfl,j,u,m,f⟩;refine wi (λc=>Yp ⟨rfl,l,o,rfl,j,m,f,.inl c⟩) λc=>?_;have v:o<a+1:=Yv c;refine Yo (hb (UL (U9 _ _) r) (wi (λq=>Yp ⟨rfl,l,o,rfl,j,m,f,.inr ⟨v,q⟩⟩) λq=>Yp ⟨rfl,o,2*o+1,rfl,(),(),Uo v,Yu.mpr q⟩))
 .rintro c g ⟨rfl,l,o,rfl,j,u,m,f⟩;rw[Nat.zero_max] at u;exact⟨rfl,l,o,rfl,j,m,f,.inl (Zh r (UA u))⟩
 .rintro c g ⟨rfl,l,o,rfl,j,m,f,p⟩;show wpS _ _ _ _ (kM b n (a+1-min o (a+1)) (a-l)) _ _;refine kL hb mono h (Zh (Nat.sub_le_sub_left (Nat.lt_min.mpr ⟨j,Nat.lt_succ_of_le m⟩) (a+1)) (Yx (Nat.add_sub_add_right a 1 l))) (Zh (U9 _ _) (Zz r)) (λi t=>?_) λi F B=>?_
  .rcases p with p|⟨p,h8⟩
   .rw[Nat.min_eq_right p,Nat.sub_self] at t;exact Zn t (US _)
   .rw[Vl (Zz p),Nat.succ_sub (Uo p)] at t;have C:a-o<n:=UL (U9 _ _) r;by_cases z:i=a-o
    .rwa [z]
    .exact mono _ _ (UE (Uo t) z) C h8
  .cases y:P i with
   |false=>rfl
   |true =>
    by_cases z:i=a-l
    .rw[z,f] at y;cases y
    .rw[mono _ _ () B y] at f;cases f
end
def Xo {left:Bool}{k:Nat}{b:Yi}{a n c:Nat}{Q:Option Nat->YB}(O:yc prog w A s kind it lt N)(l:kindOf st=kind)(o:k<N)(hz:a+n<=b.size)(p:∀i,i<n->gx b (a+i)<N)(f:c<n)
 (mono:∀i j,i<j->j<n->be lt left (gx b (a+j)) k=true->be lt left (gx b (a+i)) k=true)
 (h:∀m,m<=n->(∀i,i<m->be lt left (gx b (a+i)) k=true)->(∀i,m<=i->i<n->be lt left (gx b (a+i)) k=false)->Q (some m) st):YK prog w A E s (Wq left (it k) (b.map it) a n c) Q st:=by
 have g:∀{i:Nat} {Q:Option Bool->YB},i<n->Q (some (be lt left (gx b (a+i)) k)) st->YK prog w A E s (kN left (it k) (b.map it) a i) Q st:=λr q=>nj O l o () (p _ r) q;rw[kK];exact Yo (g f (wi (λe=>ng g mono h f e) λe=>nh g mono h f (Yu.mpr e)))
end
structure MInv (lt:Yd)(xs ys:Yi)(ia ib:Nat)(o:Yj):Prop where
 a:(o++xs.toList.drop ia).Pairwise (jJ lt)
 b:(o++ys.toList.drop ib).Pairwise (jJ lt)
 pm:(o++xs.toList.drop ia++ys.toList.drop ib).Perm (xs.toList++ys.toList)
def zo (lt:Yd)(a ys:Yi)(o:Yj):Prop:=o.Perm (a.toList++ys.toList)/\o.Pairwise (jJ lt)
section
variable {lt:Yd}{xs ys:Yi}{ia ib:Nat}{o:Yj}
theorem Xp {ix:Yi}{i:Nat}(h:i<ix.size):ix.toList.drop i=gx ix i::ix.toList.drop (i+1):=by
 rw[Ur (by simpa using h)];unfold gx;rw[Us h];simp
def Q7 {ix:Yi}{i:Nat}(h:i<ix.size):gx ix i∈ix.toList:=by
 simp_all [gx]
def Ff {ix:Yi}{i x:Nat}(h:x∈ix.toList.drop i):∃j,i<=j/\j<ix.size/\x=gx ix j:=by
 obtain⟨j,a,e⟩:=Ju.mp h;have hz:i+j<ix.size:=by grind
 refine⟨i+j,(),hz,?_⟩
 simp_all [gx]
def MInv.addA {k:Nat}(M:MInv lt xs ys ia ib o)(h:∀c∈(xs.toList.drop ia).take k,∀y∈ys.toList.drop ib,jJ lt c y):MInv lt xs ys (ia+k) ib (o++(xs.toList.drop ia).take k):=by
 have e:xs.toList.drop ia=(xs.toList.drop ia).take k++xs.toList.drop (ia+k):=by rw[<- List.drop_drop,UM]
 have a:=M.a;have b:=M.b;have f:=M.pm;rw[e,<- Ug] at a f;refine⟨a,?_,f⟩;rw[VJ] at a b ⊢;refine⟨a.1,b.2.1,λx i y g=>?_⟩;rcases Jb.mp i with z|z
 .exact b.2.2 x z y g
 .exact h x z y g
def MInv.addB {k:Nat}(M:MInv lt xs ys ia ib o)(g:∀c∈(ys.toList.drop ib).take k,∀x∈xs.toList.drop ia,jJ lt c x):MInv lt xs ys ia (ib+k) (o++(ys.toList.drop ib).take k):=by
 have e:ys.toList.drop ib=(ys.toList.drop ib).take k++ys.toList.drop (ib+k):=by rw[<- List.drop_drop,UM]
 have b:=M.a;have a:=M.b;have h:=M.pm;rw[e] at a h;rw[<- Ug] at a;refine⟨?_,a,?_⟩
 .rw[VJ] at b a ⊢;refine⟨a.1,b.2.1,λx i y f=>?_⟩;rcases Jb.mp i with z|z
  .exact b.2.2 x z y f
  .exact g x z y f
 .exact by grind
def MInv.doneA (M:MInv lt xs ys ia ib o)(h:ys.size<=ib):zo lt xs ys (o++xs.toList.drop ia++ys.toList.drop ib):=by
 have e:=Vk ();refine⟨M.pm,?_⟩;rw[e,ZA];exact M.a
def MInv.doneB (M:MInv lt xs ys ia ib o)(h:xs.size<=ia):zo lt xs ys (o++xs.toList.drop ia++ys.toList.drop ib):=by
 refine⟨M.pm,?_⟩;rw[(Vk ()),ZA];exact M.b
def MInv.last (M:MInv lt xs ys ia ib o)(h:ia+1=xs.size)(a:∀y∈ys.toList,jJ lt y (gx xs ia)):zo lt xs ys (o++ys.toList.drop ib++xs.toList.drop ia):=by
 have e:xs.toList.drop ia=[gx xs ia]:=by
  grind[Xp,List.drop_eq_nil_of_le]
 have b:=M.a;have c:=M.b;refine⟨Vw ?_ M.pm,?_⟩
 .grind
 grind
def MInv.one (W:Wk lt)(M:MInv lt xs ys ia ib o)(a:ib<ys.size)(b:ia<xs.size)(q:lt (gx ys ib) (gx xs ia)=true):MInv lt xs ys ia (ib+1) (o++[gx ys ib]):=by
 have e:(ys.toList.drop ib).take 1=[gx ys ib]:=by rw[Xp a];rfl
 have:=M.addB λc f x g=>by
  rw[e] at f;rw[Jc.mp f];have hs:=(VJ.mp M.a).2.1;rw[Xp b] at g hs;rcases UI.mp g with z|z
  .rw[z];exact .inl q
  .exact jJ.trans W (.inl q) ((Ji.mp hs).1 x z)
 simp_all
def MInv.two (W:Wk lt)(f:∀x∈xs.toList,∀y∈ys.toList,x<y)(M:MInv lt xs ys ia ib o)(a:ib<ys.size)(b:ia<xs.size)(q:lt (gx ys ib) (gx xs ia)=false):MInv lt xs ys (ia+1) ib (o++[gx xs ia]):=by
 have e:(xs.toList.drop ia).take 1=[gx xs ia]:=by rw[Xp b];rfl
 have r:jJ lt (gx xs ia) (gx ys ib):=.inr ⟨q,f _ (Q7 b) _ (Q7 a)⟩;have:=M.addA λc g y h=>by
  rw[e] at g;rw[Jc.mp g];have hs:=(VJ.mp M.b).2.1;rw[Xp a] at h hs;rcases UI.mp h with z|z
  .rwa [z]
  .exact jJ.trans W r ((Ji.mp hs).1 y z)
 simp_all
end
def ar (it:Nat->Keyed)(o:Yj):Array Keyed:=(o.map it).toArray
section
variable {it:Nat->Keyed}{o:Yj}{xs ys:Yi}{i j k:Nat}
def Fg {x:Nat}:(ar it o).push (it x)=ar it (o++[x]):=by simp[ar]
def Aw:(xs.map it).extract i j=ar it ((xs.toList.take j).drop i):=by
 apply Vm;simp[ar,List.drop_take]
def Ax {p:Yj}:ar it o++ar it p=ar it (o++p):=by simp[ar]
def Fh:(ar it o).reverse=ar it o.reverse:=by simp[ar]
def Ay {x:Nat} : #[it x]=ar it [x]:=by simp[ar]
def f5:(xs.toList.take (i+k)).drop i=(xs.toList.drop i).take k:=by simp_all [List.drop_take]
def O0:(xs.toList.take xs.size).drop i=xs.toList.drop i:=by rw[Uv ()]
theorem gD:ar it o++(xs.map it).extract i xs.size++(ys.map it).extract j ys.size=ar it (o++xs.toList.drop i++ys.toList.drop j):=by
 simp_all [Aw,O0,Ax]
theorem Xq (h:xs.toList.Pairwise R)(b:i<j)(a:j<xs.size):R (gx xs i) (gx xs j):=by
 have:=Jk.mp h i j (by simp;lia) (by simpa using a) b;unfold gx;rw[Us (),Us a];simpa using this
def C4 {x:Nat}(h:x∈(xs.toList.drop i).take k):∃j,j<k/\i+j<xs.size/\x=gx xs (i+j):=by
 obtain⟨j,a,e⟩:=Ju.mp h;rw[Uw,List.length_drop] at a;have hz:i+j<xs.size:=by grind
 refine⟨j,(),hz,?_⟩
 simp_all [gx]
end
structure SEq (s t:SortSt):Prop where
 arr:arrOf t=arrOf s
 kd:kindOf t=kindOf s
 fl:failedOf t=failedOf s
 pd:pendingOf t=pendingOf s
theorem SEq.refl (s):SEq s s:=⟨rfl,rfl,rfl,rfl⟩
theorem SEq.trans {s t u:SortSt}(h:SEq s t)(k:SEq t u):SEq s u:=⟨k.arr.trans h.arr,k.kd.trans h.kd,k.fl.trans h.fl,k.pd.trans h.pd⟩
section
variable {lt:Yd}{xs ys:Yi}{ia ib m:Nat}{o:Yj}(W:Wk lt)
include W
theorem Fi {k:Nat}(a:xs.toList.Pairwise (jJ lt)){n:Nat}(b:ia+n<=xs.size):∀i j,i<j->j<n->be lt false (gx xs (ia+j)) k=true->be lt false (gx xs (ia+i)) k=true:=λi j c e h=>by
 have h:(!lt k (gx xs (ia+j)))=true:=h;show(!lt k (gx xs (ia+i)))=true;cases q:lt k (gx xs (ia+i)) with
 |false=>rfl
 |true =>
  rcases W.neg _ (gx xs (ia+j)) _ q with z|z
  .simp_all
  grind[jJ.no,Xq]
theorem Fj {k:Nat}(a:xs.toList.Pairwise (jJ lt)){n:Nat}(b:ia+n<=xs.size):∀i j,i<j->j<n->be lt true (gx xs (ia+j)) k=true->be lt true (gx xs (ia+i)) k=true:=λi j c e h=>by
 rcases W.neg _ (gx xs (ia+i)) _ h with z|z
 .grind[jJ.no,Xq]
 .exact z
theorem MInv.galA (a:∀x∈xs.toList,∀y∈ys.toList,x<y)(n:ys.toList.Pairwise (jJ lt))(M:MInv lt xs ys ia ib o)(b:ib<ys.size)(h:∀i,i<m->be lt false (gx xs (ia+i)) (gx ys ib)=true):MInv lt xs ys (ia+m) ib (o++(xs.toList.drop ia).take m):=by
 refine M.addA λc e y f=>?_;obtain⟨j,g,hz,rfl⟩:=C4 e;obtain⟨l,p,s,rfl⟩:=Ff f;have q:(!lt (gx ys ib) (gx xs (ia+j)))=true:=h j g;have q:lt (gx ys ib) (gx xs (ia+j))=false:=by simpa using q
 have r:jJ lt (gx xs (ia+j)) (gx ys ib):=.inr ⟨q,a _ (Q7 hz) _ (Q7 b)⟩
 grind[jJ.trans,Xq]
theorem MInv.galB (f:xs.toList.Pairwise (jJ lt))(M:MInv lt xs ys ia ib o)(g:ia<xs.size)(h:∀i,i<m->be lt true (gx ys (ib+i)) (gx xs ia)=true):MInv lt xs ys ia (ib+m) (o++(ys.toList.drop ib).take m):=by
 refine M.addB λc a y b=>?_;obtain⟨j,e,hz,rfl⟩:=C4 a;obtain⟨l,n,p,rfl⟩:=Ff b;have r:jJ lt (gx ys (ib+j)) (gx xs ia):=.inl (h j e)
 grind[jJ.trans,Xq]
end
section
variable {prog:Program}{w:World}{A:Around}{E:Ya}{s:Shared}{kind:SortKind}{it:Nat->Keyed}{lt:Yd}{N:Nat}{st:SortSt}
structure MH (lt:Yd)(N:Nat)(xs ys:Yi):Prop where
 W:Wk lt
 xn:∀x∈xs.toList,x<N
 yn:∀y∈ys.toList,y<N
 hxy:∀x∈xs.toList,∀y∈ys.toList,x<y
 px:xs.toList.Pairwise (jJ lt)
 py:ys.toList.Pairwise (jJ lt)
abbrev G7 (α β γ: Type):=Option KA × α × β × γ × Nat×Nat×Nat
abbrev G6 (α β γ: Type):=Option KA × α × β × γ × Nat×Nat
abbrev G5 (α β γ: Type):=Option KA × α × β × γ × Nat
def Az:Nat->SM PUnit:=sortPriv% PySem.Builtin.setMinGallop
def C5 {m:Nat}{a:SortSt}{Q:PUnit->YB}(b:SEq a st)(h:∀s',SEq a s'->Q ⟨⟩ s'):YK prog w A E s (Az m) Q st:=wpS_modify (h _ (b.trans ⟨rfl,rfl,rfl,rfl⟩))
section
variable {α β γ: Type}(n:Nat)(f:Nat -> α -> β -> γ -> Nat->Nat->SM (ForInStep (G6 α β γ)))(k:α -> β -> γ -> Nat->Nat->Nat->SM (ForInStep (G7 α β γ)))
noncomputable def mC (c:G7 α β γ):SM (ForInStep (G5 α β γ)):=match c.1 with
 |some r=>pure (.done (some r,c.2.1,c.2.2.1,c.2.2.2.1,c.2.2.2.2.1))
 |none=>Az (c.2.2.2.2.1+1) >>= λ_=>pure (.yield (none,c.2.1,c.2.2.1,c.2.2.2.1,c.2.2.2.2.1+1))
noncomputable def m2 (x:α)(y:β)(z:γ)(mg ac bc:Nat):SM (ForInStep (G7 α β γ)):=if mg > 1 then k x y z ac bc (mg-1) else k x y z ac bc mg
noncomputable def mB (mg:Nat)(c:G6 α β γ):SM (ForInStep (G5 α β γ)):=match c.1 with
 |some r=>pure (.done (some r,c.2.1,c.2.2.1,c.2.2.2.1,mg))
 |none=>(liftM (rule "list.sort.gallop"):SM PUnit) >>= λ_=>(forIn [:n] ((none,c.2.1,c.2.2.1,c.2.2.2.1,mg+1,c.2.2.2.2.1,c.2.2.2.2.2):G7 α β γ) λ_ c=>m2 k c.2.1 c.2.2.1 c.2.2.2.1 c.2.2.2.2.1 c.2.2.2.2.2.1 c.2.2.2.2.2.2) >>= mC
noncomputable def mA (c:G5 α β γ):SM (ForInStep (G5 α β γ)):=
 (forIn [:n] ((none,c.2.1,c.2.2.1,c.2.2.2.1,0,0):G6 α β γ) λ_ d=>f c.2.2.2.2 d.2.1 d.2.2.1 d.2.2.2.1 d.2.2.2.2.1 d.2.2.2.2.2) >>= mB n k c.2.2.2.2
noncomputable def mT (x:α)(y:β)(z:γ):SM KA:=get >>= λs=>(forIn [:n] ((none,x,y,z,gallopOf s):G5 α β γ) λ_ c=>mA n f k c) >>= λc=>match c.1 with
 |some r=>pure r
 |none=>liftM (unsupported "internal:list.sort.merge-bound")
variable {n f k}{P:Nat -> α -> β -> γ -> Prop}{D:KA->Prop}
structure MR (P:α -> β -> γ -> Prop)(D:KA->Prop)(st0:SortSt)(R:ForInStep (G7 α β γ)->YB):Prop where
 dn:∀{v t sy},SEq st0 sy->D v->R (.done (some v,t)) sy
 go:∀{x y z mg ac bc sy},SEq st0 sy->P x y z->R (.done (none,x,y,z,mg,ac,bc)) sy/\R (.yield (none,x,y,z,mg,ac,bc)) sy
def pB {x:α}{y:β}{z:γ}{mg ac bc:Nat}{R:ForInStep (G7 α β γ)->YB}(h:∀mg,YK prog w A E s (k x y z ac bc mg) R st):YK prog w A E s (m2 k x y z mg ac bc) R st:=wi (λ_=>h _) λ_=>h _
def rM {x:α}{y:β}{z:γ}{Q:KA->YB}(l:kindOf st=kind)(m:P 1 x y z)(o:∀{g x y z},P g x y z->1<=n/\g<=n)(le:∀{g g' x y z},P g x y z->g'<=g->P g' x y z)
 (q:∀{g mg x y z ac bc st} {R:ForInStep (G6 α β γ)->YB},kindOf st=kind->P g x y z->(∀{v t},D v->R (.done (some v,t)) st)->(∀{x y z ac bc},P (g+1) x y z->R (.done (none,x,y,z,ac,bc)) st/\R (.yield (none,x,y,z,ac,bc)) st)->YK prog w A E s (f mg x y z ac bc) R st)
 (r:∀{g x y z ac bc mg i R},MR (P g) D st R->SEq st i->P g x y z->YK prog w A E s (k x y z ac bc mg) R i)
 (h:∀{v i},SEq st i->D v->Q v i):YK prog w A E s (mT n f k x y z) Q st:=by
 refine Yo (wpS_get (Yo (Yq (Yr (I:=λg c j=>SEq st j/\c.1=none/\P (g+1) c.2.1 c.2.2.1 c.2.2.2.1) (Q:=λc j=>SEq st j/\∃v,D v/\c.1=some v) ?_ ?_ ⟨.refl _,rfl,m⟩) ?_)))
 .rintro g c j _ _ ⟨a,_,p⟩;refine Yo (Yq (Yr (I:=λy c b=>b=j/\c.1=none/\P (g+1+y) c.2.1 c.2.2.1 c.2.2.2.1) (Q:=λc b=>b=j/\((∃v,D v/\c.1=some v)\/c.1=none/\P (g+2) c.2.1 c.2.2.1 c.2.2.2.1)) ?_ ?_ ⟨rfl,rfl,p⟩) ?_)
  .rintro y c b _ _ ⟨rfl,_,p⟩;exact q (a.kd.trans l) p (λd=>⟨rfl,.inl ⟨_,d,rfl⟩⟩) λp=>⟨⟨rfl,.inr ⟨rfl,le p ()⟩⟩,rfl,rfl,p⟩
  .rintro c b ⟨rfl,e,p⟩;exact()
  .rintro c b ⟨rfl,⟨v,d,e⟩|⟨e,p⟩⟩
   .unfold mB;rw[e];exact Yp ⟨a,v,d,rfl⟩
   .unfold mB;rw[e];refine Yo (wpS_lift (wpAny_rule ⟨rfl,?_⟩));refine Yo (Yq (Yr (I:=λ_ c b=>SEq st b/\c.1=none/\P (g+2) c.2.1 c.2.2.1 c.2.2.2.1) (Q:=λc b=>SEq st b/\((∃v,D v/\c.1=some v)\/c.1=none/\P (g+2) c.2.1 c.2.2.1 c.2.2.2.1)) ?_ (λc b h=>⟨h.1,.inr h.2⟩) ⟨a,rfl,p⟩) ?_)
    .rintro y c b _ _ ⟨a,_,p⟩;exact pB λ_=>r ⟨λa d=>⟨a,.inl ⟨_,d,rfl⟩⟩,λa p=>⟨⟨a,.inr ⟨rfl,p⟩⟩,a,rfl,p⟩⟩ a p
    .rintro c b ⟨a,⟨v,d,e⟩|⟨e,p⟩⟩
     .unfold mC;rw[e];exact Yp ⟨a,v,d,rfl⟩
     .unfold mC;rw[e];exact Yo (C5 a λb a=>Yp ⟨a,rfl,p⟩)
 .rintro c j ⟨_,_,p⟩;have:=(o p).2;lia
 grind[PyProof.Rows.wpS_pure]
end
theorem sz {a:Yi}:(a.map it).size=a.size:=Uj
def bz {a:Yi}{p:Nat}(h:(p == (a.map it).size)=true):p=a.size:=()
def nz {a:Yi}{p:Nat}(h:¬(p == (a.map it).size)=true):p≠a.size:=()
def va {v:KA}{o:Yj}{x:Nat}(e:v=ar it o):v.push (it x)=ar it (o++[x]):=by rw[e,Fg]
def zG {a:Yi}{v:KA}{o:Yj}{i k:Nat}(e:v=ar it o):v++(a.map it).extract i (i+k)=ar it (o++(a.toList.drop i).take k):=by rw[e,Aw,f5,Ax]
def MD (lt:Yd)(it:Nat->Keyed)(a ys:Yi)(v:KA):Prop:=∃o,zo lt a ys o/\v=ar it o
abbrev L7:=G7 KA Nat Nat
def zY (a b o:KA)(i j:Nat):KA:=o++a.extract i a.size++b.extract j b.size
def vA (a b o:KA)(i j:Nat):KA:=o++b.extract j b.size++a.extract i a.size
noncomputable def mP (a b:KA)(mg ac bc i:Nat)(o:KA)(j:Nat):SM (ForInStep L7):=
 elem' a i >>= λx=>if(i+1+1 == a.size)=true then pure (.done (some (vA a b (o.push x) (i+1) j),o.push x,i+1,j,mg,ac,bc))
  else if(decide (ac<7)&&decide (bc<7))=true then pure (.done (none,o.push x,i+1,j,mg,ac,bc)) else pure (.yield (none,o.push x,i+1,j,mg,ac,bc))
noncomputable def rN (a b:KA)(mg ac i:Nat)(o:KA)(j k:Nat):SM (ForInStep L7):=
 if k > 0 then if(j+k == b.size)=true then pure (.done (some (zY a b (o++b.extract j (j+k)) i (j+k)),o++b.extract j (j+k),i,j+k,mg,ac,k))
  else mP a b mg ac k i (o++b.extract j (j+k)) (j+k) else mP a b mg ac k i o j
noncomputable def mQ (a b:KA)(mg ac bc j:Nat)(o:KA)(i:Nat):SM (ForInStep L7):=
 elem' b j >>= λx=>if(j+1 == b.size)=true then pure (.done (some (zY a b (o.push x) i (j+1)),o.push x,i,j+1,mg,ac,bc))
  else elem' a i >>= λy=>Wq true y b (j+1) (b.size-(j+1)) 0 >>= λr=>match r with
   |some k=>rN a b mg ac i (o.push x) (j+1) k
   |_=>pure (.done (some (zY a b (o.push x) i (j+1)),o.push x,i,j+1,mg,ac,bc))
noncomputable def pC (a b:KA)(bc j:Nat)(o:KA)(i mg k:Nat):SM (ForInStep L7):=
 if k > 0 then if(i+k+1 == a.size)=true then pure (.done (some (vA a b (o++a.extract i (i+k)) (i+k) j),o++a.extract i (i+k),i+k,j,mg,k,bc))
  else if(i+k == a.size)=true then pure (.done (some (zY a b (o++a.extract i (i+k)) (i+k) j),o++a.extract i (i+k),i+k,j,mg,k,bc))
  else mQ a b mg k bc j (o++a.extract i (i+k)) (i+k) else mQ a b mg k bc j o i
noncomputable def rO (a b o:KA)(i j ac bc mg:Nat):SM (ForInStep L7):=
 Az mg >>= λ_=>elem' b j >>= λx=>Wq false x a i (a.size-i) 0 >>= λr=>match r with
  |some k=>pC a b bc j o i mg k
  |_=>pure (.done (some (zY a b o i j),o,i,j,mg,ac,bc))
noncomputable def wv (a b:KA)(mg:Nat)(o:KA)(i j ac bc:Nat):SM (ForInStep (G6 KA Nat Nat)):=
 elem' b j >>= λx=>elem' a i >>= λy=>lt' x y >>= λr=>match r with
  |some t=>if t=true then elem' b j >>= λx=>if(j+1 == b.size)=true then pure (.done (some (zY a b (o.push x) i (j+1)),o.push x,i,j+1,0,bc+1))
   else if bc+1 ≥ mg then pure (.done (none,o.push x,i,j+1,0,bc+1)) else pure (.yield (none,o.push x,i,j+1,0,bc+1))
   else elem' a i >>= λx=>if(i+1+1 == a.size)=true then pure (.done (some (vA a b (o.push x) (i+1) j),o.push x,i+1,j,ac+1,0))
    else if ac+1 ≥ mg then pure (.done (none,o.push x,i+1,j,ac+1,0)) else pure (.yield (none,o.push x,i+1,j,ac+1,0))
  |_=>pure (.done (some (zY a b o i j),o,i,j,ac,bc))
set_option smartUnfolding false in
noncomputable def ku {a b:KA}:C0 a b=((liftM (rule "list.sort.merge-lo"):SM PUnit) >>= λ_=>elem' b 0 >>= λx=>if(1 == b.size)=true then pure (zY a b #[x] 0 1) else if(0+1 == a.size)=true then pure (vA a b #[x] 0 1)
 else mT (a.size+b.size) (wv a b) (rO a b) #[x] 0 1):=rfl
end
structure LI (lt:Yd)(xs ys:Yi)(g i j:Nat)(o:Yj):Prop where
 M:MInv lt xs ys i j o
 a:i+1<xs.size
 b:j<ys.size
 g:g<=i+j
def LP (lt:Yd)(it:Nat->Keyed)(a ys:Yi)(g:Nat)(v:KA)(i j:Nat):Prop:=∃o,LI lt a ys g i j o/\v=ar it o
section
variable {prog:Program}{w:World}{A:Around}{E:Ya}{s:Shared}{kind:SortKind}{it:Nat->Keyed}{lt:Yd}{N:Nat}{st st0:SortSt}{xs ys:Yi}{g mg ac bc i j k:Nat}{o:Yj}{v:KA}{R:ForInStep L7->YB}
def Y8 (e:v=ar it o):zY (xs.map it) (ys.map it) v i j=ar it (o++xs.toList.drop i++ys.toList.drop j):=by
 grind[zY,sz,gD]
def A0 (e:v=ar it o):vA (xs.map it) (ys.map it) v i j=ar it (o++ys.toList.drop j++xs.toList.drop i):=by
 grind[vA,sz,gD]
variable (lst:∀y∈ys.toList,jJ lt y (gx xs (xs.size-1)))
include lst
theorem hO (M:MInv lt xs ys i j o)(z:i+1=xs.size):zo lt xs ys (o++ys.toList.drop j++xs.toList.drop i):=M.last z ()
variable (H:MH lt N xs ys)(L:LI lt xs ys g i j o)(e:v=ar it o)
include H L e
section
variable (C:MR (LP lt it xs ys g) (MD lt it xs ys) st0 R)(se:SEq st0 st)
include C se
theorem ky (q:lt (gx ys j) (gx xs i)=false):YK prog w A E s (mP (xs.map it) (ys.map it) mg ac bc i v j) R st:=by
 have a:=UY L.a;refine Yo (Qw a ?_);have M2:=L.M.two H.W H.hxy L.b a q;refine wi (λz=>Yp (C.dn se ⟨_,hO lst M2 (bz z),A0 (va e)⟩)) λz=>?_;have b:=C.go (mg:=mg) (ac:=ac) (bc:=bc) se ⟨_,⟨M2,UE L.a (nz z),L.b,by have:=L.g;lia⟩,va e⟩;exact wi (λ_=>Yp b.1) λ_=>Yp b.2
theorem mL (k2:j+k<=ys.size)(k3:∀m,m<k->be lt true (gx ys (j+m)) (gx xs i)=true)(q:j+k<ys.size->lt (gx ys (j+k)) (gx xs i)=false):YK prog w A E s (rN (xs.map it) (ys.map it) mg ac i v j k) R st:=by
 refine wi (λk0=>?_) λk0=>?_
 .have a:=L.M.galB H.W H.px (UY L.a) k3;refine wi (λz=>Yp (C.dn se ⟨_,a.doneA (Yx (bz z).symm),Y8 (zG e)⟩)) λz=>?_;have b:=UE k2 (nz z);exact ky lst H ⟨a,L.a,b,by have:=L.g;lia⟩ (zG e) C se (q b)
 .have c:=Nat.eq_zero_of_not_pos k0;subst c;exact ky lst H L e C se (q L.b)
variable (O:yc prog w A s kind it lt N)(kd:kindOf st0=kind)
include O kd
theorem k7 (q:lt (gx ys j) (gx xs i)=true):YK prog w A E s (mQ (xs.map it) (ys.map it) mg ac bc j v i) R st:=by
 have a:=UY L.a;refine Yo (Qw L.b ?_);have c:=L.M.one H.W L.b a q;refine wi (λz=>Yp (C.dn se ⟨_,c.doneA (),Y8 (va e)⟩)) λz=>?_;have b:=UE L.b (nz z);have z:(ys.map it).size=ys.size:=sz;exact Yo (Qw a (Yo (Xo O (se.kd.trans kd) (H.xn _ (Q7 a)) () (λi h=>H.yn _ (Q7 ())) () (Fj H.W H.py ()) λk k2 k3 f=>(mL lst H ⟨c,L.a,b,by have:=L.g;lia⟩ (va e) C se () k3 λy=>f k (Zf _) ()))))
theorem mM:YK prog w A E s (rO (xs.map it) (ys.map it) v i j ac bc mg) R st:=by
 have a:=L.a;have z:(xs.map it).size=xs.size:=sz;refine Yo (C5 se λst se=>Yo (Qw L.b (Yo (Xo O (se.kd.trans kd) (H.yn _ (Q7 L.b)) () (λi h=>H.xn _ (Q7 ())) () (Fi H.W H.px ()) λk k2 k3 f=>?_))));have q:=λhz=>by
  have:(!lt (gx ys j) (gx xs (i+k)))=false:=f k (Zf _) ();simpa using this
 refine wi (λk0=>?_) λk0=>?_
 .have M2:=L.M.galA H.W H.hxy H.py L.b k3;refine wi (λz=>Yp (C.dn se ⟨_,hO lst M2 (bz z),A0 (zG e)⟩)) λb=>wi (λz=>Yp (C.dn se ⟨_,M2.doneB (),Y8 (zG e)⟩)) λc=>?_;have b:=nz b;have c:=nz c;exact k7 lst H ⟨M2,(),L.b,by have:=L.g;lia⟩ (zG e) C se O kd (q ())
 grind[k7]
end
theorem mO {R:ForInStep (G6 KA Nat Nat)->YB}(O:yc prog w A s kind it lt N)(f:kindOf st=kind)(c:∀{v t},MD lt it xs ys v->R (.done (some v,t)) st)(go:∀{v i j ac bc},LP lt it xs ys (g+1) v i j->R (.done (none,v,i,j,ac,bc)) st/\R (.yield (none,v,i,j,ac,bc)) st):
 YK prog w A E s (wv (xs.map it) (ys.map it) mg v i j ac bc) R st:=by
 have a:=UY L.a;refine Yo (Qw L.b (Yo (Qw a (Yo (Y7 O f (H.yn _ (Q7 L.b)) (H.xn _ (Q7 a)) (wi (λq=>Yo (Qw L.b ?_)) λq=>Yo (Qw a ?_)))))))
 .have M2:=L.M.one H.W L.b a q;refine wi (λz=>Yp (c ⟨_,M2.doneA (),Y8 (va e)⟩)) λz=>?_;have b:=go (ac:=0) (bc:=bc+1) ⟨_,⟨M2,L.a,UE L.b (nz z),Vx L.g⟩,va e⟩;exact wi (λ_=>Yp b.1) λ_=>Yp b.2
 .have M2:=L.M.two H.W H.hxy L.b a ();refine wi (λz=>Yp (c ⟨_,hO lst M2 (bz z),A0 (va e)⟩)) λz=>?_;have b:=go (ac:=ac+1) (bc:=0) ⟨_,⟨M2,UE L.a (nz z),L.b,by have:=L.g;lia⟩,va e⟩;exact wi (λ_=>Yp b.1) λ_=>Yp b.2
end
section
variable {prog:Program}{w:World}{A:Around}{E:Ya}{s:Shared}{kind:SortKind}{it:Nat->Keyed}{lt:Yd}{N:Nat}{st:SortSt}{xs ys:Yi}
def O1 {Q:Array Keyed->YB}(H:MH lt N xs ys)(O:yc prog w A s kind it lt N)(b:kindOf st=kind)(l:1<=xs.size)(f:1<=ys.size)(c:lt (gx ys 0) (gx xs 0)=true)(lst:∀y∈ys.toList,jJ lt y (gx xs (xs.size-1)))
 (h:∀o a,SEq st a->zo lt xs ys o->Q (ar it o) a):YK prog w A E s (C0 (xs.map it) (ys.map it)) Q st:=by
 have M1:MInv lt xs ys 0 1 [gx ys 0]:=(MInv.one (o:=[]) (ia:=0) (ib:=0) H.W ⟨H.px,H.py,Vy _⟩ f l c);rw[ku];refine Yo (wpS_lift (wpAny_rule ⟨rfl,Yo (Qw f (wi (λz=>?_) λg=>wi (λz=>?_) λi=>?_))⟩))
 .rw[Y8 Ay];exact Yp (h _ _ (.refl _) (M1.doneA ()))
 .rw[A0 Ay];exact Yp (h _ _ (.refl _) (hO lst M1 (bz z)))
 have g:=nz g;have i:=nz i;have n:LI lt xs ys 1 0 1 [gx ys 0]:=⟨M1,(),(),()⟩;have q:(xs.map it).size=xs.size:=sz;have r:(ys.map it).size=ys.size:=sz;exact rM (P:=LP lt it xs ys) b ⟨_,n,Ay⟩ (λp=>by
  obtain⟨_,L,_⟩:=p;have:=L.a;have:=L.b;have:=L.g;lia) (λ⟨o,L,e⟩ h=>⟨o,⟨L.M,L.a,L.b,Zh h L.g⟩,e⟩) (λb ⟨_,L,e⟩ dn go=>mO lst H L e O b dn go) (λC j ⟨_,L,e⟩=>mM lst H L e C j O b) λj ⟨o,m,e⟩=>by simp_all
end
structure MInvH (lt:Yd)(xs ys:Yi)(na nb:Nat)(o:Yj):Prop where
 a:(xs.toList.take na++o).Pairwise (jJ lt)
 b:(ys.toList.take nb++o).Pairwise (jJ lt)
 pm:(xs.toList.take na++ys.toList.take nb++o).Perm (xs.toList++ys.toList)
section
variable {it:Nat->Keyed}{o:Yj}{xs ys:Yi}{i j k:Nat}
def O2 {x:Nat}:(ar it o.reverse).push (it x)=ar it (x::o).reverse:=by rw[Fg,Vz]
def O3 {p:Yj}:ar it o.reverse++(ar it p).reverse=ar it (p++o).reverse:=by rw[Fh,Ax,List.reverse_append]
def nu:(xs.map it).extract 0 i++(ys.map it).extract 0 j++(ar it o.reverse).reverse=ar it (xs.toList.take i++ys.toList.take j++o):=by
 simp_all [Aw,Fh,Ax]
def Fk (h:i<=j):xs.toList.take j=xs.toList.take i++(xs.toList.take j).drop i:=by
 grind[List.take_append_drop]
def C6 {x:Nat}(h:x∈(xs.toList.take j).drop i):∃l,i<=l/\l<j/\l<xs.size/\x=gx xs l:=by
 obtain⟨m,a,e⟩:=Ju.mp h;rw[List.length_drop,Uw] at a;have hz:i+m<xs.size:=by grind
 refine⟨i+m,(),(),hz,?_⟩
 simp_all [gx]
def C7 (h:j<=xs.size)(a:1<=j):(xs.toList.take j).drop (j-1)=[gx xs (j-1)]:=by
 grind[List.drop_take,Xp]
def Fl {x:Nat}(h:x∈xs.toList.take j):∃l,l<j/\l<xs.size/\x=gx xs l:=have ⟨l,_,a,b,c⟩:=C6 (i:=0) ();⟨l,a,b,c⟩
end
section
variable {lt:Yd}{xs ys:Yi}{na nb m:Nat}{o:Yj}
def MInvH.addA (M:MInvH lt xs ys na nb o)(f:m<=na)(g:∀c∈(xs.toList.take na).drop m,∀y∈ys.toList.take nb,jJ lt y c):MInvH lt xs ys m nb ((xs.toList.take na).drop m++o):=by
 have a:=M.a;have b:=M.b;have h:=M.pm;rw[(Fk f)] at a h;rw[Ug] at a;refine⟨a,?_,?_⟩
 .rw[VJ] at a b ⊢;refine⟨b.1,a.2.1,λy e x i=>?_⟩;rcases Jb.mp i with z|z
  .exact g x z y e
  .exact b.2.2 y e x z
 grind
def MInvH.addB (M:MInvH lt xs ys na nb o)(f:m<=nb)(g:∀c∈(ys.toList.take nb).drop m,∀x∈xs.toList.take na,jJ lt x c):MInvH lt xs ys na m ((ys.toList.take nb).drop m++o):=by
 have b:=M.a;have a:=M.b;have h:=M.pm;rw[(Fk f)] at a h;rw[Ug] at a;refine⟨?_,a,?_⟩
 .rw[VJ] at b a ⊢;refine⟨b.1,a.2.1,λy e x i=>?_⟩;rcases Jb.mp i with z|z
  .exact g x z y e
  .exact b.2.2 y e x z
 simp_all
def MInvH.doneA (M:MInvH lt xs ys na nb o)(h:na=0):zo lt xs ys (xs.toList.take na++ys.toList.take nb++o):=by
 refine⟨M.pm,?_⟩;rw[h,List.take_zero,List.nil_append];exact M.b
def MInvH.doneB (M:MInvH lt xs ys na nb o)(h:nb=0):zo lt xs ys (xs.toList.take na++ys.toList.take nb++o):=by
 refine⟨M.pm,?_⟩;rw[h,List.take_zero,ZA];exact M.a
def MInvH.first (M:MInvH lt xs ys na nb o)(h:nb=1)(a:1<=ys.size)(b:∀x∈xs.toList,jJ lt (gx ys 0) x):zo lt xs ys (ys.toList.take nb++xs.toList.take na++o):=by
 have c:=M.a;have f:=M.b;have e:ys.toList.take 1=[gx ys 0]:=by
  have:=C7 a (Zf _)
  simp_all
 refine⟨Vw () M.pm,?_⟩
 grind
variable (W:Wk lt)
include W
theorem MInvH.galA (n:ys.toList.Pairwise (jJ lt))(M:MInvH lt xs ys na nb o)(a:m<=na)(p:1<=nb)(q:nb<=ys.size)(h:∀i,m<=i->i<na->lt (gx ys (nb-1)) (gx xs i)=true):MInvH lt xs ys m nb ((xs.toList.take na).drop m++o):=by
 refine M.addA a λc b y e=>?_;obtain⟨j,f,g,s,rfl⟩:=C6 b;obtain⟨l,t,u,rfl⟩:=Fl e;have r:jJ lt (gx ys (nb-1)) (gx xs j):=.inl (h j f g)
 grind[jJ.trans,Xq]
theorem MInvH.galB (a:∀x∈xs.toList,∀y∈ys.toList,x<y)(q:xs.toList.Pairwise (jJ lt))(M:MInvH lt xs ys na nb o)(b:m<=nb)(s:1<=na)(t:na<=xs.size)(h:∀i,m<=i->i<nb->lt (gx ys i) (gx xs (na-1))=false):MInvH lt xs ys na m ((ys.toList.take nb).drop m++o):=by
 refine M.addB b λc e x f=>?_;obtain⟨j,g,n,p,rfl⟩:=C6 e;obtain⟨l,u,v,rfl⟩:=Fl f;have r:jJ lt (gx xs (na-1)) (gx ys j):=.inr ⟨h j g n,a _ (Q7 ()) _ (Q7 p)⟩
 grind[jJ.trans,Xq]
theorem MInvH.one (a:ys.toList.Pairwise (jJ lt))(M:MInvH lt xs ys na nb o)(b:1<=na)(c:na<=xs.size)(e:1<=nb)(f:nb<=ys.size)(q:lt (gx ys (nb-1)) (gx xs (na-1))=true):MInvH lt xs ys (na-1) nb (gx xs (na-1)::o):=by
 have:=M.galA (m:=na-1) W a () e f ()
 rwa [C7 c b] at this
theorem MInvH.two (a:∀x∈xs.toList,∀y∈ys.toList,x<y)(b:xs.toList.Pairwise (jJ lt))(M:MInvH lt xs ys na nb o)(c:1<=na)(e:na<=xs.size)(f:1<=nb)(g:nb<=ys.size)(q:lt (gx ys (nb-1)) (gx xs (na-1))=false):MInvH lt xs ys na (nb-1) (gx ys (nb-1)::o):=by
 have:=M.galB (m:=nb-1) W a b () c e ()
 rwa [C7 g f] at this
end
abbrev H7:=G7 Nat Nat KA
def yU (a b:KA)(i j:Nat)(o:KA):KA:=a.extract 0 i++b.extract 0 j++o.reverse
noncomputable def mZ (a b:KA)(mg ac bc i j:Nat)(o:KA):SM (ForInStep H7):=
 elem' a (i-1) >>= λx=>if(i-1 == 0)=true then pure (.done (some (yU a b (i-1) j (o.push x)),i-1,j,o.push x,mg,ac,bc))
  else if(decide (ac<7)&&decide (bc<7))=true then pure (.done (none,i-1,j,o.push x,mg,ac,bc)) else pure (.yield (none,i-1,j,o.push x,mg,ac,bc))
noncomputable def rQ (a b:KA)(mg ac i j:Nat)(o:KA)(t:Nat):SM (ForInStep H7):=
 if j-t > 0 then if(t == 1)=true then pure (.done (some (yU b a t i (o++(b.extract t j).reverse)),i,t,o++(b.extract t j).reverse,mg,ac,j-t))
  else if(t == 0)=true then pure (.done (some (yU a b i t (o++(b.extract t j).reverse)),i,t,o++(b.extract t j).reverse,mg,ac,j-t))
  else mZ a b mg ac (j-t) i t (o++(b.extract t j).reverse) else mZ a b mg ac (j-t) i j o
noncomputable def nc (a b:KA)(mg ac bc j i:Nat)(o:KA):SM (ForInStep H7):=
 elem' b (j-1) >>= λx=>if(j-1 == 1)=true then pure (.done (some (yU b a (j-1) i (o.push x)),i,j-1,o.push x,mg,ac,bc))
  else elem' a (i-1) >>= λy=>Wq true y b 0 (j-1) (j-1-1) >>= λr=>match r with
   |some t=>rQ a b mg ac i (j-1) (o.push x) t
   |_=>pure (.done (some (yU a b i (j-1) (o.push x)),i,j-1,o.push x,mg,ac,bc))
noncomputable def pE (a b:KA)(bc j i:Nat)(o:KA)(mg t:Nat):SM (ForInStep H7):=
 if i-t > 0 then if(t == 0)=true then pure (.done (some (yU a b t j (o++(a.extract t i).reverse)),t,j,o++(a.extract t i).reverse,mg,i-t,bc))
  else nc a b mg (i-t) bc j t (o++(a.extract t i).reverse) else nc a b mg (i-t) bc j i o
noncomputable def rR (a b:KA)(i j:Nat)(o:KA)(ac bc mg:Nat):SM (ForInStep H7):=
 Az mg >>= λ_=>elem' b (j-1) >>= λx=>Wq false x a 0 i (i-1) >>= λr=>match r with
  |some t=>pE a b bc j i o mg t
  |_=>pure (.done (some (yU a b i j o),i,j,o,mg,ac,bc))
noncomputable def rS (a b:KA)(mg i j:Nat)(o:KA)(ac bc:Nat):SM (ForInStep (G6 Nat Nat KA)):=
 elem' b (j-1) >>= λx=>elem' a (i-1) >>= λy=>lt' x y >>= λr=>match r with
  |some t=>if t=true then elem' a (i-1) >>= λx=>if(i-1 == 0)=true then pure (.done (some (yU a b (i-1) j (o.push x)),i-1,j,o.push x,ac+1,0))
   else if ac+1 ≥ mg then pure (.done (none,i-1,j,o.push x,ac+1,0)) else pure (.yield (none,i-1,j,o.push x,ac+1,0))
   else elem' b (j-1) >>= λx=>if(j-1 == 1)=true then pure (.done (some (yU b a (j-1) i (o.push x)),i,j-1,o.push x,0,bc+1))
    else if bc+1 ≥ mg then pure (.done (none,i,j-1,o.push x,0,bc+1)) else pure (.yield (none,i,j-1,o.push x,0,bc+1))
  |_=>pure (.done (some (yU a b i j o),i,j,o,ac,bc))
set_option smartUnfolding false in
noncomputable def kH {a b:KA}:C1 a b=((liftM (rule "list.sort.merge-hi"):SM PUnit) >>= λ_=>elem' a (a.size-1) >>= λx=>if(a.size-1 == 0)=true then pure (yU a b (a.size-1) b.size #[x]) else if(b.size == 1)=true then pure (yU b a b.size (a.size-1) #[x])
 else mT (a.size+b.size) (rS a b) (rR a b) (a.size-1) b.size #[x]):=rfl
structure HI (lt:Yd)(xs ys:Yi)(g i j:Nat)(o:Yj):Prop where
 M:MInvH lt xs ys i j o
 a:1<=i
 b:2<=j
 ax:i<=xs.size
 bx:j<=ys.size
 g:g+i+j<=xs.size+ys.size
def HL (lt:Yd)(it:Nat->Keyed)(a ys:Yi)(g i j:Nat)(v:KA):Prop:=∃o,HI lt a ys g i j o/\v=ar it o.reverse
section
variable {prog:Program}{w:World}{A:Around}{E:Ya}{s:Shared}{kind:SortKind}{it:Nat->Keyed}{lt:Yd}{N:Nat}{st st0:SortSt}{xs ys:Yi}{g mg ac bc i j k t:Nat}{o:Yj}{v:KA}{R:ForInStep H7->YB}
def V1 (e:v=ar it o.reverse):yU (xs.map it) (ys.map it) i j v=ar it (xs.toList.take i++ys.toList.take j++o):=by
 unfold yU;rw[e,nu]
def yy {x:Nat}(e:v=ar it o.reverse):v.push (it x)=ar it (x::o).reverse:=by rw[e,O2]
def zH (e:v=ar it o.reverse):v++((xs.map it).extract t i).reverse=ar it ((xs.toList.take i).drop t++o).reverse:=by rw[e,Aw,O3]
variable (fst:∀x∈xs.toList,jJ lt (gx ys 0) x)(H:MH lt N xs ys)(L:HI lt xs ys g i j o)(e:v=ar it o.reverse)
include fst H L e
section
variable (C:MR (HL lt it xs ys g) (MD lt it xs ys) st0 R)(se:SEq st0 st)
include C se
theorem kI (q:lt (gx ys (j-1)) (gx xs (i-1))=true):YK prog w A E s (mZ (xs.map it) (ys.map it) mg ac bc i j v) R st:=by
 have a:=L.a;have c:=L.ax;refine Yo (Qw () ?_);have M2:=L.M.one H.W H.py a c (UA L.b) L.bx q;refine wi (λz=>Yp (C.dn se ⟨_,M2.doneA (Ys.mp z),V1 (yy e)⟩)) λz=>?_;have b:=C.go (mg:=mg) (ac:=ac) (bc:=bc) se ⟨_,⟨M2,(),L.b,(),L.bx,by have:=L.g;lia⟩,yy e⟩;exact wi (λ_=>Yp b.1) λ_=>Yp b.2
theorem mW (f:t<=j)(p:∀m,t<=m->m<j->lt (gx ys m) (gx xs (i-1))=false)(q:1<=t->lt (gx ys (t-1)) (gx xs (i-1))=true):YK prog w A E s (rQ (xs.map it) (ys.map it) mg ac i j v t) R st:=by
 have b:=L.b;have c:=L.bx;refine wi (λk0=>?_) λk0=>?_
 .have a:=L.M.galB H.W H.hxy H.px f L.a L.ax p;refine wi (λz=>Yp (C.dn se ⟨_,a.first (Ys.mp z) () fst,V1 (zH e)⟩)) λh=>wi (λz=>Yp (C.dn se ⟨_,a.doneB (Ys.mp z),V1 (zH e)⟩)) λl=>?_;have n:2<=t:=by
   have h:t≠1:=λy=>h (Ys.mpr y);have l:t≠0:=λy=>l (Ys.mpr y);lia
  exact kI fst H ⟨a,L.a,n,L.ax,Zh f c,by have:=L.g;lia⟩ (zH e) C se (q (UA n))
 .have r:t=j:=()
  subst r;exact kI fst H L e C se (q (UA b))
variable (O:yc prog w A s kind it lt N)(kd:kindOf st0=kind)
include O kd
theorem kJ (q:lt (gx ys (j-1)) (gx xs (i-1))=false):YK prog w A E s (nc (xs.map it) (ys.map it) mg ac bc j i v) R st:=by
 have a:=L.a;have b:=L.b;have c:=L.bx;have f:=L.ax;refine Yo (Qw () ?_);have h:=L.M.two H.W H.hxy H.px a f (UA b) c q;refine wi (λz=>Yp (C.dn se ⟨_,h.first (Ys.mp z) () fst,V1 (yy e)⟩)) λz=>?_;have z:j-1≠1:=λy=>z (Ys.mpr y);have p:i-1<xs.size:=()
 refine Yo (Qw p (Yo (Xo O (se.kd.trans kd) (H.xn _ (Q7 p)) () (λi r=>H.yn _ (Q7 ())) () (Fj H.W H.py ()) λt n l m=>?_)));simp at l m;exact mW fst H ⟨h,a,(),f,(),by have:=L.g;lia⟩ (yy e) C se n m λy=>l (t-1) (Nat.sub_lt y Yw)
theorem mX:YK prog w A E s (rR (xs.map it) (ys.map it) i j v ac bc mg) R st:=by
 have a:=L.a;have b:=L.b;have c:=L.bx;have n:=L.ax;have p:j-1<ys.size:=()
 refine Yo (C5 se λst se=>Yo (Qw p (Yo (Xo O (se.kd.trans kd) (H.yn _ (Q7 p)) () (λi B=>H.xn _ (Q7 ())) () (Fi H.W H.px ()) λt f h l=>?_))));simp at h l;have q:=λhz=>by
  have:(!lt (gx ys (j-1)) (gx xs (t-1)))=true:=h (t-1) (Nat.sub_lt hz Yw);simpa using this
 refine wi (λk0=>?_) λk0=>?_
 .have M2:=L.M.galA H.W H.py f (UA b) c λi r u=>by
   have:(!lt (gx ys (j-1)) (gx xs i))=false:=l i r u;simpa using this
  refine wi (λz=>Yp (C.dn se ⟨_,M2.doneA (Ys.mp z),V1 (zH e)⟩)) λz=>?_;have m:=Nat.pos_of_ne_zero λy=>z (Ys.mpr y);exact kJ fst H ⟨M2,m,b,Zh f n,c,by have:=L.g;lia⟩ (zH e) C se O kd (q m)
 .have x:t=i:=()
  subst x;exact kJ fst H L e C se O kd (q a)
end
theorem mY {R:ForInStep (G6 Nat Nat KA)->YB}(O:yc prog w A s kind it lt N)(p:kindOf st=kind)(n:∀{v t},MD lt it xs ys v->R (.done (some v,t)) st)(go:∀{i j v ac bc},HL lt it xs ys (g+1) i j v->R (.done (none,i,j,v,ac,bc)) st/\R (.yield (none,i,j,v,ac,bc)) st):
 YK prog w A E s (rS (xs.map it) (ys.map it) mg i j v ac bc) R st:=by
 have a:=L.a;have b:=L.b;have c:=L.bx;have m:=L.ax;have r:=L.g;have h:i-1<xs.size:=()
 have l:j-1<ys.size:=()
 refine Yo (Qw l (Yo (Qw h (Yo (Y7 O p (H.yn _ (Q7 l)) (H.xn _ (Q7 h)) (wi (λq=>Yo (Qw h ?_)) λq=>Yo (Qw l ?_)))))))
 .have M2:=L.M.one H.W H.py a m (UA b) c q;refine wi (λz=>Yp (n ⟨_,M2.doneA (Ys.mp z),V1 (yy e)⟩)) λz=>?_;have f:=go (ac:=ac+1) (bc:=0) ⟨_,⟨M2,(),b,Zz h,c,()⟩,yy e⟩;exact wi (λ_=>Yp f.1) λ_=>Yp f.2
 .have M2:=L.M.two H.W H.hxy H.px a m (UA b) c (Yu.mpr q);refine wi (λz=>Yp (n ⟨_,M2.first (Ys.mp z) () fst,V1 (yy e)⟩)) λz=>?_;have f:=go (ac:=0) (bc:=bc+1) ⟨_,⟨M2,a,(),m,Zz l,()⟩,yy e⟩;exact wi (λ_=>Yp f.1) λ_=>Yp f.2
end
section
variable {prog:Program}{w:World}{A:Around}{E:Ya}{s:Shared}{kind:SortKind}{it:Nat->Keyed}{lt:Yd}{N:Nat}{st:SortSt}{xs ys:Yi}
def O4 {Q:Array Keyed->YB}(H:MH lt N xs ys)(O:yc prog w A s kind it lt N)(c:kindOf st=kind)(j:1<=xs.size)(g:1<=ys.size)(a:∀x∈xs.toList,jJ lt (gx ys 0) x)(lst:lt (gx ys (ys.size-1)) (gx xs (xs.size-1))=true)
 (h:∀o b,SEq st b->zo lt xs ys o->Q (ar it o) b):YK prog w A E s (C1 (xs.map it) (ys.map it)) Q st:=by
 have M1:MInvH lt xs ys (xs.size-1) ys.size [gx xs (xs.size-1)]:=by
  refine MInvH.one (o:=[]) (na:=xs.size) (nb:=ys.size) H.W H.py ⟨?_,?_,?_⟩ j (Zf _) g (Zf _) lst
  .rw[Uv (),ZA];exact H.px
  .rw[Uv (),ZA];exact H.py
  grind[List.append_nil,List.take_of_length_le]
 rw[kH,sz,sz];have p:xs.size-1<xs.size:=()
 have f: #[it (gx xs (xs.size-1))]=ar it [gx xs (xs.size-1)].reverse:=Ay;refine Yo (wpS_lift (wpAny_rule ⟨rfl,Yo (Qw p (wi (λz=>?_) λl=>wi (λz=>?_) λn=>?_))⟩))
 .rw[V1 f];exact Yp (h _ _ (.refl _) (M1.doneA (Ys.mp z)))
 .rw[V1 f];exact Yp (h _ _ (.refl _) (M1.first (Ys.mp z) g a))
 have l:xs.size-1≠0:=by grind
 have n:ys.size≠1:=by grind
 have q:HI lt xs ys 1 (xs.size-1) ys.size [gx xs (xs.size-1)]:=⟨M1,(),(),(),(),()⟩;exact rM (P:=HL lt it xs ys) c ⟨_,q,f⟩ (λr=>by
  obtain⟨_,L,_⟩:=r;have:=L.g;lia) (λ⟨o,L,e⟩ h=>⟨o,⟨L.M,L.a,L.b,L.ax,L.bx,by have:=L.g;lia⟩,e⟩) (λc ⟨_,L,e⟩ dn go=>mY a H L e O c dn go) (λC i ⟨_,L,e⟩=>mX a H L e C i O c) λi ⟨o,m,e⟩=>by simp_all
end
theorem Fo {α: Type}(k):∀l i (a:Array α),k+i+l.length<=a.size->((l.zipIdx i).foldl (λa (p:α × Nat)=>a.setIfInBounds (k+p.2) p.1) a).toList=a.toList.take (k+i)++l++a.toList.drop (k+i+l.length)
 | [],i,a,h=>by simp
 |x::r,i,a,h=>by
  rw[Zu] at h;rw[List.zipIdx_cons,U7,Fo k r (i+1) _ (by rw[Array.size_setIfInBounds];lia),Array.toList_setIfInBounds,Zu];have b:(a.toList.set (k+i) x).take (k+(i+1))=a.toList.take (k+i)++[x]:=by
   rw[show k+(i+1)=(k+i)+1 by lia,Vu,List.take_set_of_le (Zf _),UQ (by simp;lia)];rfl
  grind[List.append_assoc,List.drop_set_of_lt]
def Fp {α β: Type}(f:α -> β)(a:Array α)(i j):(a.map f).extract i j=(a.extract i j).map f:=()
theorem Y9 {ix:Yi}{i j a:Nat}(h:i+a<j)(b:j<=ix.size):gx (ix.extract i j) a=gx ix (i+a):=by
 grind[gx,Array.getElem?_extract]
section
variable {prog:Program}{w:World}{A:Around}{E:Ya}{s:Shared}{kind:SortKind}{it:Nat->Keyed}{lt:Yd}{st:SortSt}{n:Nat}
theorem Wr {ix:Yi}{i j x:Nat}(a:j<=ix.size)(h:x∈(ix.extract i j).toList):∃l,i<=l/\l<j/\x=gx ix l:=by
 rw[Array.toList_extract,VT] at h;obtain⟨l,b,c,e⟩:=C4 h
 grind
def Fq {ix:Yi}{R:Nat->Nat->Prop}{i j:Nat}(g:j<=ix.size)(h:∀a b,i<=a->a<b->b<j->R (gx ix a) (gx ix b)):(ix.extract i j).toList.Pairwise R:=by
 rw[List.pairwise_iff_getElem];have e:∀c f,c<j-i->(ix.extract i j).toList[c]=gx ix (i+c):=λc f h=>by
  grind[gx,sz,Y9,Array.getElem?_eq_getElem]
 grind
def O5 {x y k:Nat}(W:Wk lt)(b:jJ lt x y)(h:be lt false y k=true):be lt false x k=true:=by
 have h:(!lt k y)=true:=h;show(!lt k x)=true;cases q:lt k x with
 |false=>rfl
 |true =>
  rcases W.neg _ y _ q with z|z
  .simp_all
  .rw[(jJ.no W b)] at z;cases z
def O6 {x y k:Nat}(W:Wk lt)(b:jJ lt x y)(h:be lt true y k=true):be lt true x k=true:=by
 rcases W.neg _ x _ h with z|z
 .rw[(jJ.no W b)] at z;cases z
 .exact z
end
structure PlO (lo N:Nat)(bs ix:Yi)(k:Nat):Prop where
 size:ix.size=N
 perm:ix.Perm (Array.range N)
 low:∀a,a<lo->gx ix a=gx bs a
 mid:∀a,lo<=a->a<k->lo<=gx ix a/\gx ix a<k
 suf:∀a,k<=a->a<N->gx ix a=a
def Fs {N a:Nat}{ix:Yi}(p:ix.Perm (Array.range N))(b:a<ix.size):gx ix a<N:=by
 have:=(Jp.mp p).mem_iff.mp (Q7 b)
 simp_all
section
variable {lo N k:Nat}{bs ix:Yi}
def PlO.all (h:PlO lo N bs ix k){a:Nat}(b:a<N):gx ix a<N:=Fs h.perm (by rwa [h.size])
def PlO.succ (h:PlO lo N bs ix k)(g:lo<=k)(b:k<N):PlO lo N bs ix (k+1):=by
 refine⟨h.size,h.perm,h.low,λa e i=>?_,λa j f=>h.suf a () f⟩;by_cases c:a<k
 .have:=h.mid a e c;lia
 .have:a=k:=()
  subst this;rw[h.suf a (Zf _) b];lia
def PlO.rev {i:Nat}(h:PlO lo N bs ix k)(g:k<=N)(j:lo<=i)(l:i<=k):PlO lo N bs (mirror ix i k ((k-i) / 2)) k:=by
 have hz:k<=ix.size:=by rwa [h.size]
 refine⟨by rw[mirror_size];exact h.size,(mirror_perm _ _ _ _).trans h.perm,λa b=>?_,λa c b=>?_,λa e f=>?_⟩
 .rw[Y6 hz,Ze ()];exact h.low a b
 .rw[Y6 hz]
  split
  .exact h.mid _ () ()
  .exact h.mid a c b
 .rw[Y6 hz,Ze ()];exact h.suf a e f
end
def yW (lt:Yd)(lo:Nat)(ix:Yi)(k:Nat):Prop:=∀a b,lo<=a->a<b->b<k->jJ lt (gx ix a) (gx ix b)
def bO (lt:Yd)(lo:Nat)(ix:Yi)(k:Nat):Prop:=∀a b,lo<=a->a<b->b<k->jJ lt (gx ix b) (gx ix a)
structure SBp (it:Nat->Keyed)(kind:SortKind)(pn:Array (Nat×Nat×Nat))(ix:Yi)(st:SortSt):Prop where
 arr:arrOf st=ix.map it
 kd:kindOf st=kind
 fl:failedOf st=none
 pd:pendingOf st=pn
structure EqO (lt:Yd)(lo:Nat)(ix:Yi)(x u:Nat):Prop where
 le:lo<=u
 ux:u<x
 out:∀a b,lo<=a->a<b->b<x->a<u->lt (gx ix b) (gx ix a)=true\/(b<u/\jJ lt (gx ix b) (gx ix a))
 same:∀a b,u<=a->a<x->u<=b->b<x->lt (gx ix a) (gx ix b)=false
 rise:∀a b,u<=a->a<b->b<x->gx ix a<gx ix b
def Ws {ix:Yi}{i j k:Nat}(a:j<=ix.size)(b:i<=k)(c:k<j):∃m,i<=m/\m<j/\k+m+1=i+j/\gx (mirror ix i j ((j-i) / 2)) k=gx ix m:=by
 refine⟨i+j-1-k,(),(),(),?_⟩;rw[Y6 a,Zd ⟨b,c⟩]
def YL {ix:Yi}{i j k:Nat}(a:j<=ix.size)(h:k<i\/j<=k):gx (mirror ix i j ((j-i) / 2)) k=gx ix k:=by
 rw[Y6 a,Ze ()]
section
variable {lt:Yd}{lo:Nat}{ix:Yi}(W:Wk lt)
include W
theorem A1 {a:Nat}:lt a a=false:=by
 cases z:lt a a with
 |false=>rfl
 |true=>have:=W.asy _ _ z;simp_all
theorem EqO.down {x u:Nat}(h:EqO lt lo ix x u)(hz:x<=ix.size):bO lt lo (mirror ix u x ((x-u) / 2)) x:=by
 intro a b j ab g;by_cases f:u<=b
 .obtain⟨n,i,l,p,e⟩:=Ws hz f g;rw[e];by_cases c:u<=a
  .obtain⟨q,o,m,r,e⟩:=Ws hz c (Uh ab g);rw[e];exact .inr ⟨h.same _ _ o m i l,h.rise _ _ i () m⟩
  .have c:=Yv c;rw[YL hz (.inl c)];rcases h.out a n j (Zg c i) l c with z|z
   .exact .inl z
   .exact z.2
 .have f:=Yv f;have c:=Uh ab f;rw[YL hz (.inl f),YL hz (.inl c)];rcases h.out a b j ab g c with z|z
  .exact .inl z
  .exact z.2
theorem EqO.down0 {x:Nat}(h:EqO lt lo ix (x+1) x):bO lt lo ix (x+1):=by
 intro a b e ab c;rcases h.out a b e ab c (Zg ab (Uo c)) with z|z
 .exact .inl z
 .exact z.2
theorem xp {x y:Nat}(m:y+1=x)(n:lo<=y)(D:bO lt lo ix x)(f:lt (gx ix x) (gx ix y)=true):EqO lt lo ix (x+1) x:=by
 have we:∀a,lo<=a->a<x->lt (gx ix x) (gx ix a)=true:=λa e g=>by
  by_cases c:a=y
  .rwa [c]
  .rcases W.neg _ (gx ix a) _ f with z|z
   .exact z
   .rw[jJ.no W (D a y e () ())] at z;exact JD z
 have eq:∀{a},x<=a->a<x+1->a=x:=()
 refine⟨(),UK _,λa b e ab o g=>?_,λa b h i j l=>?_,()⟩
 .by_cases c:b<x
  .exact .inr ⟨c,D a b e ab c⟩
  simp_all
 .rw[eq h i,eq j l];exact A1 W
theorem EqO.more {x y u:Nat}(h:EqO lt lo ix x u)(G:y+1=x)(v:gx ix x=x)(l:∀a,lo<=a->a<x->gx ix a<x)(A:lt (gx ix x) (gx ix y)=false)(B:lt (gx ix y) (gx ix x)=false):EqO lt lo ix (x+1) u:=by
 have le:=h.le;have C:=h.ux;have E:∀k,lt (gx ix y) k=true->lt (gx ix x) k=true:=λk z=>by
  rcases W.neg _ (gx ix x) _ z with y|y
  .rw[B] at y;exact JD y
  lia
 have F:∀k,lt k (gx ix x)=true->lt k (gx ix y)=true:=λk z=>by
  rcases W.neg _ (gx ix y) _ z with y|y
  .exact y
  simp_all
 have m:∀k,lt (gx ix x) k=true->lt (gx ix y) k=true:=λk z=>by
  rcases W.neg _ (gx ix y) _ z with y|y
  .rw[A] at y;exact JD y
  lia
 have n:y<x:=()
 have i:u<=y:=()
 have e:∀{b},b<x+1->¬b=x->b<x:=λh k=>UE (Uo h) k;refine⟨le,UF C,λa b q ab o p=>?_,λa b g r s t=>?_,λa b g ab o=>?_⟩
 .by_cases c:b=x
  .rw[c];rcases h.out a y q (Zg p i) n p with z|z
   .exact .inl (E _ z)
   .exact Zn z.1 (Nat.not_lt_of_le i)
  .exact h.out a b q ab (e o c) p
 .by_cases j:a=x
  .by_cases f:b=x
   .rw[j,f];exact A1 W
   .rw[j];cases z:lt (gx ix x) (gx ix b) with
    |false=>rfl
    |true =>
     have w:=m _ z;rw[h.same y b i n s (e t f)] at w;exact JD w
  .by_cases f:b=x
   .rw[f];cases z:lt (gx ix a) (gx ix x) with
    |false=>rfl
    |true =>
     have w:=F _ z;rw[h.same a y g (e r j) i n] at w;exact JD w
   .exact h.same a b g (e r j) s (e t f)
 .by_cases f:b=x
  .rw[f,v];exact l a (Zh le g) (f ▸ ab)
  .exact h.rise a b g ab (e o f)
end
abbrev C2:=Option (Option Nat)×Nat
noncomputable def bI (p c:Nat):SM (ForInStep C2):=ltAt' p (p-1) >>= λr=>match r with
 |some t=>if t=true then pure (.done (none,c)) else pure (.yield (none,c+1))
 |_=>pure (.done (some none,c))
noncomputable def nV (lo a n:Nat):SM (Option Nat):=reverseSlice' lo (lo+n) >>= λ_=>(forIn [n:a] ((none,n):C2) λ_ c=>bI (lo+c.2) c.2) >>= λc=>match c.1 with
 |some r=>pure r
 |none=>pure (some c.2)
noncomputable def sk (lo a n q:Nat):SM (Option Nat):=if q > 0 then reverseSlice' (lo+n-(q+1)) (lo+n) >>= λ_=>nV lo a n else nV lo a n
noncomputable def sj (p n q:Nat):SM (ForInStep C3):=ltAt' p (p-1) >>= λr=>match r with
 |some t=>if t=true then(if q > 0 then reverseSlice' (p-(q+1)) p >>= λ_=>pure (.yield (none,n+1,0)) else pure (.yield (none,n+1,0)))
  else ltAt' (p-1) p >>= λr=>match r with
   |some t=>if t=true then pure (.done (none,n,q)) else pure (.yield (none,n+1,q+1))
   |_=>pure (.done (some none,n,q))
 |_=>pure (.done (some none,n,q))
noncomputable def nW (lo a n:Nat):SM (Option Nat):=(liftM (rule "list.sort.descending-run"):SM PUnit) >>= λ_=>(forIn [n+1:a] ((none,n+1,0):C3) λ_ c=>sj (lo+c.2.1) c.2.1 c.2.2) >>= λc=>match c.1 with
 |some r=>pure r
 |none=>sk lo a c.2.1 c.2.2
noncomputable def pN (lo a n:Nat):SM (Option Nat):=if(n == a)=true then pure (some n) else if n > 1 then ltAt' lo (lo+n-1) >>= λr=>match r with
 |some t=>if t=true then pure (some n) else reverseSlice' lo (lo+n) >>= λ_=>nW lo a n
 |_=>pure none
 else nW lo a n
set_option smartUnfolding false in
def f6 {lo a:Nat}:countRun' lo a=((forIn [1:a] ((none,1):C2) λ_ c=>bI (lo+c.2) c.2) >>= λc=>match c.1 with|some r=>pure r|none=>pN lo a c.2):=rfl
section
variable {prog:Program}{w:World}{A:Around}{E:Ya}{s:Shared}{kind:SortKind}{it:Nat->Keyed}{lt:Yd}{lo N:Nat}{bs ix:Yi}{st:SortSt}{pn:Array (Nat×Nat×Nat)}
def YM {a b k:Nat}{Q:Option Bool->YB}(O:yc prog w A s kind it lt N)(B:SBp it kind pn ix st)(L:PlO lo N bs ix k)(c:a<N)(e:b<N)(h:Q (some (lt (gx ix a) (gx ix b))) st):
 YK prog w A E s (ltAt' a b) Q st:=by
 have f:(arrOf st)[a]? = some (it (gx ix a)):=by rw[B.arr,UR,Cy (by rwa [L.size])];rfl
 have g:(arrOf st)[b]? = some (it (gx ix b)):=by rw[B.arr,UR,Cy (by rwa [L.size])];rfl
 show wpS _ _ _ _ (elem' (arrOf st) a >>= λx=>elem' (arrOf st) b >>= λy=>lt' x y) Q st;rw[elem'_eq,elem'_eq,f,g];exact Yo (Yp (Yo (Yp (Y7 O B.kd (L.all c) (L.all e) h))))
def SBp.set {a:Yi}(B:SBp it kind pn ix st){b:Array Keyed}(e:b=a.map it):SBp it kind pn a (setArr st b):=⟨e,B.kd,B.fl,B.pd⟩
def SBp.rev {i j m:Nat}(B:SBp it kind pn ix st):SBp it kind pn (mirror ix i j m) (setArr st (mirror (arrOf st) i j m)):=B.set (by rw[B.arr,Oz])
variable (W:Wk lt)(O:yc prog w A s kind it lt N)
include W O
theorem O7 {p c:Nat}{R:ForInStep C2->YB}(a:p<N)(g:lo<p)(B:SBp it kind pn ix st)(L:PlO lo N bs ix p)(U:yW lt lo ix p)
 (h:lt (gx ix p) (gx ix (p-1))=true->R (.done (none,c)) st) (go:PlO lo N bs ix (p+1)->yW lt lo ix (p+1)->R (.yield (none,c+1)) st):YK prog w A E s (bI p c) R st:=by
 obtain⟨y,rfl⟩:∃y,p=y+1:=⟨p-1,()⟩;have b:=Uo g;refine Yo (YM O B L a (UY a) (wi (λq=>Yp (h q)) λq=>Yp (go (L.succ (Vn b) a) λi j f l m=>?_)));have last:jJ lt (gx ix y) (gx ix (y+1)):=.inr ⟨Yu.mpr q,by rw[L.suf _ (Zf _) a];exact(L.mid _ b (UK _)).2⟩;by_cases c:j<y+1
 .exact U i j f l c
 .have e:j=y+1:=()
  subst e;by_cases d:i=y
  .simp_all
  .exact jJ.trans W (U i y f () (UK _)) last
theorem Ft {a b:Nat}{Q:C2->YB}
 (j:lo+b<=N) (l:1<=a) (f:a<=b) (B:SBp it kind pn ix st) (L:PlO lo N bs ix (lo+a)) (U:yW lt lo ix (lo+a))
 (h:∀m,a<=m->m<=b->PlO lo N bs ix (lo+m)->yW lt lo ix (lo+m)->(m=b\/lt (gx ix (lo+m)) (gx ix (lo+m-1))=true)->Q (none,m) st):YK prog w A E s (forIn [a:b] ((none,a):C2) λ_ c=>bI (lo+c.2) c.2) Q st:=by
 refine Yr (I:=λx c e=>e=st/\c=(none,x)/\PlO lo N bs ix (lo+x)/\yW lt lo ix (lo+x)) ?_ ?_ ⟨rfl,rfl,L,U⟩
 .rintro x c e n o ⟨rfl,rfl,g,i⟩;exact O7 W O () () B g i () ()
 simp_all
variable {nr x q u:Nat}{Q:Option Nat->YB}(hn:lo+nr<=N)(h:∀k jx st',SBp it kind pn jx st'->1<=k->k<=nr->PlO lo N bs jx (lo+k)->yW lt lo jx (lo+k)->Q (some k) st')
include hn h
theorem Fu (c:1<=x)(i:x<=nr)(B:SBp it kind pn ix st)(L:PlO lo N bs ix (lo+x))(D:bO lt lo ix (lo+x)):YK prog w A E s (nV lo nr x) Q st:=by
 have hz:lo+x<=ix.size:=by rw[L.size];lia
 refine Yo (wpS_reverse (Yo (Ft W O hn c i B.rev (L.rev () (Zf _) ()) (λa b f ab g=>?_) λk k1 k2 j l _=>Yp (h k _ _ B.rev (Zh c k1) k2 j l))));have ⟨p,r,m,t,e⟩:=Ws hz f (Uh ab g);have ⟨v,n,y,z,o⟩:=Ws hz (Zz (UL f ab)) g;rw[e,o];exact D _ _ n () m
theorem O8 (a:1<=x)(b:x<=nr)(B:SBp it kind pn ix st)(L:PlO lo N bs ix (lo+x))(X:EqO lt lo ix (lo+x) u)(e:u+(q+1)=lo+x):YK prog w A E s (sk lo nr x q) Q st:=by
 refine wi (λc=>?_) λc=>?_
 .rw[show lo+x-(q+1)=u by lia];exact Yo (wpS_reverse (Fu W O hn h a b B.rev (L.rev () X.le (Zz X.ux)) (X.down W (by rw[L.size];lia))))
 .have f:q=0:=()
  subst f;rw[<- e] at X;exact Fu W O hn h a b B L (e ▸ X.down0 W)
omit hn h in
theorem O9 {p:Nat}{R:ForInStep C3->YB}(b:p<N)(B:SBp it kind pn ix st)(L:PlO lo N bs ix p)(X:EqO lt lo ix p u)(e:u+(q+1)=p)
 (n:R (.done (none,x,q)) st) (go:∀i u q c,SBp it kind pn i c->PlO lo N bs i (p+1)->EqO lt lo i (p+1) u->u+(q+1)=p+1->R (.yield (none,x+1,q)) c):YK prog w A E s (sj p x q) R st:=by
 have le:=X.le;have g:=X.ux;have hz:p<=ix.size:=by rw[L.size];exact Zz b
 obtain⟨y,rfl⟩:∃y,p=y+1:=⟨p-1,()⟩;have j:=UY b;have f:=Zh le (Uo g);refine Yo (YM O B L b j (wi (λz=>wi (λl=>?_) λl=>?_) λz=>?_))
 .have z:lt (gx ix (y+1)) (gx ix y)=true:=z;rw[show y+1-(q+1)=u by lia];refine Yo (wpS_reverse (Yp (go _ _ 0 _ B.rev ((L.rev (Zz b) le (Zz g)).succ (Vn f) b) (xp W rfl f (X.down W hz) ?_) rfl)));have ⟨m,o,m2,_,e⟩:=Ws hz (Uo g) (UK y);rw[YL hz (.inr (Zf _)),e];rcases W.neg _ (gx ix m) _ z with y|y
  .exact y
  .rw[X.same _ _ o m2 (Uo g) (UK _)] at y;exact JD y
 .have r:=Nat.eq_zero_of_not_pos l;subst r;have e:=UN e;subst e;exact Yp (go ix _ 0 st B (L.succ (Vn f) b) (xp W rfl f (X.down0 W) z) rfl)
 .exact Yo (YM O B L j b (wi (λ_=>Yp n) λt=>(Yp (go ix u _ st B (L.succ (Vn f) b) (X.more W rfl (L.suf _ (Zf _) b) (λa v C=>(L.mid a v C).2) (Yu.mpr z) (Yu.mpr t)) (Zt (· + 1) e)))))
theorem Fv (m:x+1<=nr)(B:SBp it kind pn ix st)(L:PlO lo N bs ix (lo+x+1))(X:EqO lt lo ix (lo+x+1) (lo+x)):YK prog w A E s (nW lo nr x) Q st:=by
 refine Yo (wpS_lift (wpAny_rule ⟨rfl,Yo (Yq (Yr (I:=λx c i=>∃u q a,c=(none,x,q)/\SBp it kind pn a i/\PlO lo N bs a (lo+x)/\EqO lt lo a (lo+x) u/\u+(q+1)=lo+x) (Q:=λc i=>∃y u q a,c=(none,y,q)/\1<=y/\y<=nr/\SBp it kind pn a i/\PlO lo N bs a (lo+y)/\EqO lt lo a (lo+y) u/\u+(q+1)=lo+y) ?_ ?_ ⟨lo+x,0,ix,rfl,B,L,X,rfl⟩) ?_)⟩))
 .rintro y c i n o ⟨u,q,a,rfl,j,f,g,e⟩;exact O9 W O (show lo+y<N from ()) j f g e ⟨y,u,q,a,rfl,Zh (Nat.le_add_left 1 x) n,Zz o,j,f,g,e⟩ λp u q r b l x e=>⟨u,q,p,rfl,b,l,x,e⟩
 .rintro c i ⟨u,q,a,rfl,j,f,g,e⟩;rw[Nat.max_eq_right m] at f g e ⊢;exact⟨nr,u,q,a,rfl,Zh (Nat.le_add_left 1 x) m,Zf _,j,f,g,e⟩
 .rintro c i ⟨x,u,q,a,rfl,t,m,j,f,g,e⟩;exact O8 W O hn h t m j f g e
theorem OA (T:1<=nr)(B:SBp it kind pn ix st)(L:PlO lo N bs ix (lo+1)):YK prog w A E s (countRun' lo nr) Q st:=by
 rw[f6];refine Yo (Ft W O hn (Zf 1) T B L (λa b g ab r=>()) λm S m2 j n G=>?_);refine wi (λ_=>Yp (h m ix st B S m2 j n)) λt=>?_;have t:m≠nr:=λz=>t (Ys.mpr z);have v:lt (gx ix (lo+m)) (gx ix (lo+m-1))=true:=G.resolve_left t;have m2:m+1<=nr:=UE m2 t;have l:lo+m<N:=()
 have C:lo<lo+m:=()
 have hz:lo+m<=ix.size:=by rw[j.size];exact Zz l
 refine wi (λU=>?_) λU=>?_
 .have H:=λ{I J}=>Fv (E:=E) (bs:=bs) (ix:=I) (st:=J) W O hn h m2;have X:=h m ix st B S (UA m2) j n;generalize lo+m=p at *;obtain⟨y,rfl⟩:∃y,p=y+1:=⟨p-1,()⟩;have v:lt (gx ix (y+1)) (gx ix y)=true:=v;have K:=Uo C;have Y:=UY l;have M:=UK y;refine Yo (YM O B j (Uh C l) Y (wi (λ_=>Yp X) λc=>?_));have c:lt (gx ix lo) (gx ix y)=false:=Yu.mpr c;have f:∀a b,lo<=a->a<y+1->lo<=b->b<y+1->lt (gx ix a) (gx ix b)=false:=λa b g Z lb i=>by
   cases z:lt (gx ix a) (gx ix b) with
   |false=>rfl
   |true =>
    rcases W.neg _ (gx ix lo) _ z with w|w
    .by_cases a0:a=lo
     .rw[a0,A1 W] at w;exact JD w
     .rw[jJ.no W (n lo a (Zf _) () Z)] at w;exact JD w
    .rcases W.neg _ (gx ix y) _ w with u|u
     .rw[c] at u;exact JD u
     .by_cases P:b=y
      .rw[P,A1 W] at u;exact JD u
      .rw[jJ.no W (n b y lb () M)] at u;exact JD u
  have o:∀a b,lo<=a->a<b->b<y+1->gx ix a<gx ix b:=λa b g ab i=>by
   rcases n a b g ab i with z|z
   .rw[f a b g (Uh ab i) (Zh g (Zz ab)) i] at z;exact JD z
   .exact z.2
  refine Yo (wpS_reverse (H B.rev ((j.rev (Zz l) (Zf _) (Zz C)).succ (Zz C) l) (xp W rfl K (λa b g ab i=>?_) ?_)))
  .obtain⟨a',R,F,a3,e⟩:=Ws hz g (Uh ab i);obtain⟨b',r,b2,b3,e'⟩:=Ws hz (Zh g (Zz ab)) i;rw[e,e'];exact .inr ⟨f _ _ R F r b2,o _ _ r () F⟩
  .obtain⟨m,R,F,_,e⟩:=Ws hz K M;rw[YL hz (.inr (Zf _)),e];rcases W.neg _ (gx ix m) _ v with z|z
   .exact z
   .rw[f _ _ R F K M] at z;exact JD z
 .have e1:m=1:=()
  subst e1;exact Fv W O hn h m2 B (j.succ (Ui _ _) l) (xp W rfl (Zf _) (λa b g ab r=>()) v)
omit hn h
omit O W in
theorem Xr {ix:Yi}{p l k:Nat}(hs:p<ix.size)(a:l<=p)(b:k<=p):(k<l/\gx (bubble ix p (p-l)) k=gx ix k)\/(k=l/\gx (bubble ix p (p-l)) k=gx ix p)\/∃j,k=j+1/\l<=j/\j<p/\gx (bubble ix p (p-l)) k=gx ix j:=by
 rw[Fe hs (U9 _ _),show p-(p-l)=l by lia]
 grind
omit O W in
theorem OB {p l:Nat}(v:p<N)(f:l<=p)(o:lo<=l)(L:PlO lo N bs ix p)(U:yW lt lo ix p)(low:∀i,lo<=i->i<l->lt p (gx ix i)=false)(y:∀i,l<=i->i<p->lt p (gx ix i)=true):PlO lo N bs (bubble ix p (p-l)) (p+1)/\yW lt lo (bubble ix p (p-l)) (p+1):=by
 have hs:p<ix.size:=by rw[L.size];exact v
 have ep:gx ix p=p:=L.suf p (Zf _) v;have md:∀{i},lo<=i->i<p->lo<=gx ix i/\gx ix i<p+1:=λh k=>⟨(L.mid _ h k).1,UF (L.mid _ h k).2⟩;refine⟨⟨by rw[bubble_size];exact L.size,(bubble_perm _ _ _).trans L.perm,λa r=>?_,λa B r=>?_,λa C F=>?_⟩,λa b t ab m=>?_⟩
 .rcases Xr hs f (Zz (Zg r (Zh o f))) with ⟨_,e⟩|⟨z,_⟩|⟨j,z,h,_⟩
  .rw[e];exact L.low a r
  .omega
  .omega
 .rcases Xr hs f (Uo r) with ⟨z,e⟩|⟨z,e⟩|⟨j,z,h,k,e⟩
  .rw[e];exact md B (Zg z f)
  .rw[e,ep];exact⟨Zh o f,UK _⟩
  .rw[e];exact md (Zh o h) k
 .rw[Fe hs (U9 _ _),Ze (),Ze ()];exact L.suf a (UA C) F
 .have m:=Uo m;rcases Xr hs f (Zh (Zz ab) m) with ⟨z,e⟩|⟨z,e⟩|⟨i,z,h,k,e⟩
  .rcases Xr hs f m with ⟨g,c⟩|⟨g,c⟩|⟨j,g,h',n,c⟩
   .rw[e,c];exact U a b t ab (Zg g f)
   .rw[e,c,ep];exact .inr ⟨low a t z,(L.mid a t (Zg z f)).2⟩
   .rw[e,c];exact U a j t (Zg z h') n
  .rcases Xr hs f m with ⟨g,c⟩|⟨g,c⟩|⟨j,g,h',n,c⟩
   .omega
   .omega
   .rw[e,c,ep];exact .inl (y j h' n)
  .rcases Xr hs f m with ⟨g,c⟩|⟨g,c⟩|⟨j,g,h',n,c⟩
   .omega
   .omega
   .rw[e,c];exact U i j (Zh o h) () n
theorem OC {j ok:Nat}{Q:Bool->YB}(Y:lo+j<=N)(Z:ok<=j)(p:1<=ok)(B:SBp it kind pn ix st)(L:PlO lo N bs ix (lo+ok))(U:yW lt lo ix (lo+ok))
 (h:∀f g,SBp it kind pn f g->PlO lo N bs f (lo+j)->yW lt lo f (lo+j)->Q true g):YK prog w A E s (binarySort' lo j ok) Q st:=by
 rw[binarySort'_eq];have H:max ok 1=ok:=()
 rw[H];refine Yo (Yq (Yr (I:=λk c g=>c=(none,Yt)/\∃f,SBp it kind pn f g/\PlO lo N bs f (lo+k)/\yW lt lo f (lo+k)) (Q:=λc g=>c=(none,Yt)/\∃f,SBp it kind pn f g/\PlO lo N bs f (lo+j)/\yW lt lo f (lo+j)) ?_ ?_ ⟨rfl,ix,B,L,U⟩) ?_)
 .rintro k c t hk1 hk2 ⟨rfl,f,J,K,M⟩;have ek:gx f (lo+k)=lo+k:=K.suf _ (Zf _) ();refine Yo (Yq (Yr (I:=λx c o=>o=t/\∃l r,c=(none,l,r)/\l<=r/\r<=k/\r-l<=k-x/\(∀i,i<l->lt (lo+k) (gx f (lo+i))=false)/\(∀i,r<=i->i<k->lt (lo+k) (gx f (lo+i))=true))
   (Q:=λc o=>o=t/\∃l r,c=(none,l,r)/\l<=k/\(∀i,i<l->lt (lo+k) (gx f (lo+i))=false)/\(∀i,l<=i->i<k->lt (lo+k) (gx f (lo+i))=true)) ?_ ?_ ()) ?_)
  .rintro x c o _ hx ⟨rfl,l,r,rfl,lr,v,C,low,n⟩;dsimp only;by_cases P:l ≥ r
   .rw[Zd P];have e:l=r:=()
    subst e;exact Yp ⟨rfl,l,l,rfl,v,low,n⟩
   .rw[Ze P];obtain⟨m,H,m1,m2,m3,m4⟩:=Fd (Yv P) C;rw[H];have mk:=Zg m2 v;refine Yo (YM O J K () () ?_);rw[ek];cases q:lt (lo+k) (gx f (lo+m)) with
    |true =>
     simp only[if_true];refine Yp ⟨rfl,l,m,rfl,m1,Zz mk,m3,low,λi a b=>?_⟩;by_cases R:i=m
     .rw[R];exact q
     .rcases W.neg (lo+k) (gx f (lo+i)) _ q with z|z
      .exact z
      .rw[jJ.no W (M (lo+m) (lo+i) () () ())] at z;exact JD z
    |false =>
     simp only[UB,if_false];refine Yp ⟨rfl,m+1,r,rfl,m2,v,m4,λi a=>?_,n⟩;by_cases R:i=m
     .rw[R];exact q
     .cases z:lt (lo+k) (gx f (lo+i)) with
      |false=>rfl
      |true =>
       rcases W.neg (lo+k) (gx f (lo+m)) _ z with y|y
       .rw[q] at y;exact JD y
       .rw[jJ.no W (M (lo+i) (lo+m) () () ())] at y;exact JD y
  .rintro c o ⟨rfl,l,r,rfl,lr,v,C,low,n⟩;have e:l=r:=()
   subst e;exact⟨rfl,l,l,rfl,v,low,n⟩
  .rintro c o ⟨rfl,l,r,rfl,lk,low,n⟩;show wpS _ _ _ _ (moveDown' (lo+k) (lo+l) >>= λ_=>pure (ForInStep.yield (none,Yt))) _ _;rw[moveDown'_eq];have low:∀i,lo<=i->i<lo+l->lt (lo+k) (gx f i)=false:=λi p S=>by
    obtain⟨d,rfl⟩:=Va p;exact low d (VA S)
   have n:∀i,lo+l<=i->i<lo+k->lt (lo+k) (gx f i)=true:=λi p S=>by
    obtain⟨d,rfl⟩:=Va (Zh (Ui _ _) p);exact n d (VU p) (VA S)
   have X:=OB () (Nat.add_le_add_left lk lo) (Ui _ _) K M low n;exact Yo (wpS_modify (Yp ⟨rfl,bubble f (lo+k) (lo+k-(lo+l)),J.set (by rw[J.arr,Oy]),X.1,X.2⟩))
 .rintro c t ⟨rfl,f,T,F,G⟩;have e:max ok j=j:=()
  rw[e] at F G;exact⟨rfl,f,T,F,G⟩
 .rintro c t ⟨rfl,f,T,F,G⟩;exact Yp (h f t T F G)
end
structure Seg (lt:Yd)(ix:Yi)(a b:Nat):Prop where
 pl:∀i,a<=i->i<b->a<=gx ix i/\gx ix i<b
 up:∀i j,a<=i->i<j->j<b->jJ lt (gx ix i) (gx ix j)
def Seg.same {lt:Yd}{ix f:Yi}{a b:Nat}(S:Seg lt ix a b)(h:∀i,a<=i->i<b->gx f i=gx ix i):Seg lt f a b:=⟨λi c e=>by rw[h i c e];exact S.pl i c e,λi j c e g=>by rw[h i c (),h j () g];exact S.up i j c e g⟩
section
variable {prog:Program}{w:World}{A:Around}{E:Ya}{s:Shared}{kind:SortKind}{it:Nat->Keyed}{lt:Yd}{st:SortSt}{N:Nat}
def Seg.join {a m b:Nat}{ix:Yi}(W:Wk lt)(S:Seg lt ix a m)(T:Seg lt ix m b)(l:m<b)(k:∀i,a<=i->i<m->jJ lt (gx ix i) (gx ix m))(n:a<=m):Seg lt ix a b:=by
 refine⟨λi c h=>?_,λi j c f g=>?_⟩
 .by_cases z:i<m
  .have:=S.pl i c z;lia
  .have:=T.pl i () h;lia
 .by_cases z:j<m
  .exact S.up i j c f z
  .by_cases y:m<=i
   .exact T.up i j y f g
   .by_cases e:j=m
    .simp_all
    .exact jJ.trans W (k i c ()) (T.up m j (Zf _) () g)
def Seg.put {a e b m k:Nat}{ix:Yi}{o:Yj}(W:Wk lt)(S:Seg lt ix a e)(T:Seg lt ix e b)(hb:b<=ix.size)(C:a<=m)(I:m<e)(hk:1<=k)(v:e+k<=b)(L:∀i,a<=i->i<m->lt (gx ix e) (gx ix i)=false)(O:∀i,e+k<=i->i<b->lt (gx ix i) (gx ix (e-1))=false)
 (M:zo lt (ix.extract m e) (ix.extract e (e+k)) o):∃n:Yi,n.toList=ix.toList.take m++o++ix.toList.drop (e+k)/\o.length=e+k-m/\n.Perm ix/\Seg lt n a b/\∀i,i<a\/b<=i->gx n i=gx ix i:=by
 have ol:o.length=e+k-m:=by
  rw[M.1.length_eq,Ub,Ul,Ul,VL,VL,Vl (),Vl ()];lia
 have Q:m+o.length=e+k:=()
 have F:ix.toList.take m++((ix.extract m e).toList++(ix.extract e (e+k)).toList)++ix.toList.drop (e+k)=ix.toList:=by
  have ex:(ix.extract m e).toList++ix.toList.drop e=ix.toList.drop m:=by
   rw[Array.toList_extract,VT];have:ix.toList.drop e=(ix.toList.drop m).drop (e-m):=by rw[List.drop_drop,Vv (Zz I)]
   rw[this,UM]
  have ey:(ix.extract e (e+k)).toList++ix.toList.drop (e+k)=ix.toList.drop e:=by
   rw[Array.toList_extract,VT,VM,<- List.drop_drop,UM]
  rw[Ug,Ug,ey,ex,UM]
 have pm:(ix.toList.take m++o++ix.toList.drop (e+k)).Perm ix.toList:=by
  conv=>rhs;rw[<- F]
  exact List.Perm.append_right _ (List.Perm.append_left _ M.1)
 have G:∀x∈o,(∃b,m<=b/\b<e/\x=gx ix b)\/∃b,e<=b/\b<e+k/\x=gx ix b:=λx hx=>by
  rcases Jb.mp (M.1.mem_iff.mp hx) with z|z
  .exact .inl (Wr () z)
  .exact .inr (Wr (Zh v hb) z)
 obtain⟨n,ej⟩:∃n:Yi,n=(ix.toList.take m++o++ix.toList.drop (e+k)).toArray:=⟨_,rfl⟩;have H:n.toList=ix.toList.take m++o++ix.toList.drop (e+k):=by rw[ej]
 have p:(ix.toList.take m).length=m:=by rw[Uw,Ul];exact Vl ()
 have B:∀i,i<m->gx n i=gx ix i:=λi h=>by
  unfold gx;rw[<- Vb,<- Vb,H,Ug,UZ (by rw[p];exact h),List.getElem?_take,Zd h]
 have at2:∀j h,gx n (m+j)=o[j]:=λj h=>by
  unfold gx;rw[<- Vb,H,Ug,Vc (by rw[p];exact Ui _ _),p,VM,UZ h,Zqg h];rfl
 have g:∀j,gx n (e+k+j)=gx ix (e+k+j):=λj=>by
  unfold gx;rw[<- Vb,<- Vb,H,Vc (by rw[Ub,p,Q];exact Ui _ _),Ub,p,Q,VM,List.getElem?_drop]
 have q:∀i,i<m\/(∃j,j<o.length/\i=m+j)\/∃j,i=e+k+j:=λi=>by
  by_cases c1:i<m
  .exact .inl c1
  .by_cases c2:i<e+k
   .exact .inr (.inl ⟨i-m,(),()⟩)
   .exact .inr (.inr ⟨i-(e+k),()⟩)
 have R:∀i j,a<=i->i<m->e<=j->j<b->jJ lt (gx ix i) (gx ix j):=λi j J h f l=>by
  have nb:=UL f l;have U:jJ lt (gx ix i) (gx ix e):=.inr ⟨L i J h,Zg (S.pl i J (Uh h I)).2 (T.pl e (Zf _) nb).1⟩;by_cases z:j=e
  .rw[z];exact U
  .exact jJ.trans W U (T.up e j (Zf _) () l)
 have sq:∀i c,a<=i->i<e->e+k<=c->c<b->jJ lt (gx ix i) (gx ix c):=λi c J f l X=>by
  have Y:jJ lt (gx ix (e-1)) (gx ix c):=.inr ⟨O c l X,Zg (S.pl (e-1) () ()).2 (T.pl c (Zh (Ui _ _) l) X).1⟩;by_cases z:i=e-1
  .rw[z];exact Y
  .exact jJ.trans W (S.up i (e-1) J () ()) Y
 have sp:∀{y},a<=y->y<e->a<=gx ix y/\gx ix y<b:=λf l=>⟨(S.pl _ f l).1,by have:=(S.pl _ f l).2;lia⟩;have Z:∀{y},e<=y->y<b->a<=gx ix y/\gx ix y<b:=λf l=>⟨by have:=(T.pl _ f l).1;lia,(T.pl _ f l).2⟩;refine⟨n,H,ol,?_,⟨λi f l=>?_,λi j f P K=>?_⟩,λi h=>?_⟩
 .rw[Array.perm_iff_toList_perm,H];exact pm
 .rcases q i with c|⟨j,c,rfl⟩|⟨j,rfl⟩
  .rw[B i c];exact sp f (Uh c I)
  .rw[at2 j c];rcases G _ (UC c) with ⟨y,r,t,u⟩|⟨y,r,t,u⟩
   .rw[u];exact sp (Zh C r) t
   .rw[u];exact Z r (Zg t v)
  .rw[g j];exact Z () l
 .rcases q i with c|⟨i,c,rfl⟩|⟨i,rfl⟩
  .rw[B i c];rcases q j with d|⟨j,d,rfl⟩|⟨j,rfl⟩
   .rw[B j d];exact S.up i j f P (Uh d I)
   .rw[at2 j d];rcases G _ (UC d) with ⟨y,r,t,u⟩|⟨y,r,t,u⟩
    .rw[u];exact S.up i y f (Zg c r) t
    .rw[u];exact R i y f c r (Zg t v)
   .rw[g j];exact R i _ f c () K
  .rw[at2 i c];rcases q j with d|⟨j,d,rfl⟩|⟨j,rfl⟩
   .omega
   .rw[at2 j d];exact Jk.mp M.2 i j c d (VA P)
   .rw[g j];rcases G _ (UC c) with ⟨y,r,t,u⟩|⟨y,r,t,u⟩
    .rw[u];exact sq y _ (Zh C r) t (Ui _ _) K
    .rw[u];exact T.up y _ r (Zg t (Ui _ _)) K
  .rcases q j with d|⟨j,d,rfl⟩|⟨j,rfl⟩
   .omega
   .omega
   .rw[g i,g j];exact T.up _ _ () P K
 .rcases h with z|z
  .exact B i (Zg z C)
  .obtain⟨j,rfl⟩:=Va (Zh v z);exact g j
def OD {l r:Yc}{x y z:Nat×Nat×Nat}:((l++x::y::r).toArray.setIfInBounds l.length z).eraseIdxIfInBounds (l.length+1)=(l++z::r).toArray:=by
 simp_all [List.eraseIdx_append_of_length_le]
noncomputable def mK (b:Nat)(v:KA):SM Bool:=(modify λs=>setArr s (List.foldl (λa x=>match x with|(p,j)=>a.setIfInBounds (b+j) p) (arrOf s) v.toList.zipIdx)) >>= λ_=>get >>= λz=>pure (failedOf z).isNone
noncomputable def rJ (a:KA)(c na b k:Nat):SM Bool:=if(k == 0)=true then pure true else if na<=k then C0 (a.extract c b) (a.extract b (b+k)) >>= mK c else C1 (a.extract c b) (a.extract b (b+k)) >>= mK c
noncomputable def rK (a:KA)(b na c nb:Nat):SM Bool:=if(na == 0)=true then pure true else elem' a (b+na-1) >>= λx=>Wq true x a c nb (nb-1) >>= λr=>match r with
 |some k=>rJ a b na c k
 |_=>pure false
noncomputable def rL (a:KA)(b na c nb:Nat):SM Bool:=elem' a c >>= λx=>Wq false x a b na 0 >>= λr=>match r with
 |some k=>rK a (b+k) (na-k) c nb
 |_=>pure false
set_option smartUnfolding false in
def kq {i:Nat}:mergeAt' i=(get >>= λz=>match (pendingOf z)[i]?,(pendingOf z)[i+1]? with
 |some (sa,na,pw),some (sb,nb,_)=>set (setPending z (((pendingOf z).setIfInBounds i (sa,na+nb,pw)).eraseIdxIfInBounds (i+1))) >>= λ_=>rL (arrOf z) sa na sb nb
 |_,_=>liftM (unsupported "internal:list.sort.pending")):=rfl
def C8 {p:Array (Nat×Nat×Nat)}:pendingOf (setPending st p)=p:=by rfl
section
variable {a b q am u k x y:Nat}{ix:Yi}{pn:Array (Nat×Nat×Nat)}{Q:Bool->YB}(W:Wk lt)(S:Seg lt ix a (q+1))(T:Seg lt ix (q+1) b)(hz:ix.size=N)(hb:b<=N)(B:SBp it kind pn ix st)
 (h:∀jx st',SBp it kind pn jx st'->jx.Perm ix->Seg lt jx a b->(∀i,i<a\/b<=i->gx jx i=gx ix i)->Q true st')
include W S T hz hb B h
theorem Fw {o:Yj}{j:SortSt}(e:a<=am)(g:am<q+1)(k1:1<=k)(l:q+1+k<=b)(m:∀i,a<=i->i<am->lt (gx ix (q+1)) (gx ix i)=false)(n:∀i,q+1+k<=i->i<b->lt (gx ix i) (gx ix q)=false)
 (c:SEq st j) (M:zo lt (ix.extract am (q+1)) (ix.extract (q+1) (q+1+k)) o):YK prog w A E s (mK am (ar it o)) Q j:=by
 obtain⟨p,r,H,t,v,C⟩:=S.put W T (by rwa [hz]) e g k1 l m n M;refine Yo (wpS_modify (Yo (wpS_get (Yp ?_))));have f:=c.fl.trans B.fl;rw[f];refine h p _ ⟨?_,c.kd.trans B.kd,f,c.pd.trans B.pd⟩ t v C;rw[c.arr,B.arr];apply Vm;have F:(ar it o).toList=o.map it:=by simp[ar]
 refine Eq.trans (Zt (λz=>(List.foldl (λ(a:Array Keyed) (x:Keyed×Nat)=>a.setIfInBounds (am+x.2) x.1) (ix.map it) z.zipIdx).toList) F) ?_;have G:am+o.length=q+1+k:=()
 rw[Fo am (o.map it) 0 _ (),Array.toList_map,Array.toList_map,r,Zql,Nat.add_zero,G,Uc,Uc,List.map_take,List.map_drop]
theorem Fx (j:∀i,a<=i->i<q+1->jJ lt (gx ix i) (gx ix (q+1)))(c:a<=q+1)(e:q+1<b):Q true st:=h ix st B (.refl _) (S.join W T e j c) λ_ _=>rfl
variable (O:yc prog w A s kind it lt N)(wv:∀i,i<N->gx ix i<N)
include O wv
theorem mH (e:am+u=q+1)(u1:1<=u)(f:a<=am)(G:q+1<b)(r:q+1+k<=b)(m3:∀i,a<=i->i<am->lt (gx ix (q+1)) (gx ix i)=false)(m4:∀i,am<=i->i<q+1->lt (gx ix (q+1)) (gx ix i)=true)
 (k3:∀i,q+1<=i->i<q+1+k->lt (gx ix i) (gx ix q)=true) (I:∀i,q+1+k<=i->i<b->lt (gx ix i) (gx ix q)=false):YK prog w A E s (rJ (ix.map it) am u (q+1) k) Q st:=by
 have g:am<q+1:=()
 have bz:b<=ix.size:=by rw[hz];exact hb
 refine wi (λc=>Yp (Fx W S T hz hb B h (λi h3 hi=>?_) (Zz (UL f g)) G)) λc=>?_
 .have c:k=0:=Ys.mp c;subst c;have b:jJ lt (gx ix q) (gx ix (q+1)):=.inr ⟨I _ (Zf _) G,Zg (S.pl q (Zh f (Uo g)) (UK _)).2 (T.pl _ (Zf _) G).1⟩;by_cases z:i=q
  .rw[z];exact b
  .exact by grind
 have k1:1<=k:=by grind
 have t:q+1<=ix.size:=()
 have kz:=Zh r bz;have xn:∀x∈(ix.extract am (q+1)).toList,x<N:=λx m=>by
  grind[Wr]
 have yn:∀y∈(ix.extract (q+1) (q+1+k)).toList,y<N:=λx m=>by
  obtain⟨l,n,p,rfl⟩:=Wr kz m;exact wv _ ()
 have J:∀x∈(ix.extract am (q+1)).toList,∀y∈(ix.extract (q+1) (q+1+k)).toList,x<y:=λx m y K=>by
  obtain⟨l,n,p,rfl⟩:=Wr t m;obtain⟨l',L,P,rfl⟩:=Wr kz K;exact Zg (S.pl l (Zh f n) p).2 (T.pl l' L (Zg P r)).1
 have px:=Fq (ix:=ix) (R:=jJ lt) (i:=am) (j:=q+1) t λa b h ab U=>S.up a b (Zh f h) ab U;have py:=Fq (ix:=ix) (R:=jJ lt) (i:=q+1) (j:=q+1+k) kz λa b h ab U=>T.up a b h ab (Zg U r);have H:MH lt N (ix.extract am (q+1)) (ix.extract (q+1) (q+1+k)):=⟨W,xn,yn,J,px,py⟩;have F:(ix.extract am (q+1)).size=u:=by rw[VL];lia
 have X:(ix.extract (q+1) (q+1+k)).size=k:=by rw[VL];lia
 have Y:gx (ix.extract am (q+1)) 0=gx ix am:=Y9 g t;have v:gx (ix.extract am (q+1)) (u-1)=gx ix q:=by rw[Y9 () t,show am+(u-1)=q by lia]
 have C:gx (ix.extract (q+1) (q+1+k)) 0=gx ix (q+1):=Y9 () kz;have Z:gx (ix.extract (q+1) (q+1+k)) (k-1)=gx ix (q+k):=by rw[Y9 () kz,show q+1+(k-1)=q+k by lia]
 rw[Fp,Fp];refine wi (λ_=>Yo (O1 H O B.kd (by rw[F];exact u1) (by rw[X];exact k1) (by rw[C,Y];exact m4 am (Zf _) g) (λy K=>?_) λo s2 se M=>Fw W S T hz hb B h f g k1 r m3 I se M))
  λ_=>Yo (O4 H O B.kd (by rw[F];exact u1) (by rw[X];exact k1) (λx m=>?_) (by rw[F,X,Z,v];exact k3 _ () ()) λo s2 se M=>Fw W S T hz hb B h f g k1 r m3 I se M)
 .obtain⟨l,n,p,rfl⟩:=Wr kz K;rw[F,v];exact .inl (k3 l n p)
 .obtain⟨l,n,p,rfl⟩:=Wr t m;rw[C];exact .inl (m4 l n p)
theorem mI (e:am+u=q+1)(G:1<=y)(H:q+1+y=b)(g:a<=am)(m:∀i,a<=i->i<am->lt (gx ix (q+1)) (gx ix i)=false)(p:∀i,am<=i->i<q+1->lt (gx ix (q+1)) (gx ix i)=true):YK prog w A E s (rK (ix.map it) am u (q+1) y) Q st:=by
 have l:q+1<b:=()
 have r:q+1<N:=()
 have t:a<=q+1:=()
 refine wi (λc=>Yp (Fx W S T hz hb B h (λi n v=>.inr ⟨m i n ?_,Zg (S.pl i n v).2 (T.pl _ (Zf _) l).1⟩) t l)) λc=>?_
 .simp_all
 have z:1<=u:=by grind
 rw[show am+u-1=q by rw[e];rfl];refine Yo (Qw () (Yo (Xo O B.kd (wv _ (UY r)) () () () (λi j C I q=>O6 W (T.up _ _ (Ui _ _) (Nat.add_lt_add_left C _) ()) q) λk k2 k3 F=>(mH W S T hz hb B h O wv e z g l () m p (λi f o=>?_) λi f o=>?_))))
 .obtain⟨d,rfl⟩:=Va f;exact k3 d (VA o)
 .obtain⟨d,rfl⟩:=Va (Zh (Ui _ _) f);exact F d (VU f) ()
theorem mJ (e:a+x=q+1)(g:1<=x)(l:1<=y)(n:q+1+y=b):YK prog w A E s (rL (ix.map it) a x (q+1) y) Q st:=by
 have o:q+1<N:=()
 refine Yo (Qw () (Yo (Xo O B.kd (wv _ o) () () g (λi j p v q=>O5 W (S.up _ _ (Ui _ _) (Nat.add_lt_add_left p _) ()) q) λm m2 r t=>(mI W S T hz hb B h O wv (by rwa [Nat.add_assoc,Vv m2]) l n (Ui _ _) (λi c f=>?_) λi c f=>?_))))
 .obtain⟨d,rfl⟩:=Va c;have z:(!lt (gx ix (q+1)) (gx ix (a+d)))=true:=r d (VA f);simpa using z
 .obtain⟨d,rfl⟩:=Va (Zh (Ui _ _) c);have z:(!lt (gx ix (q+1)) (gx ix (a+d)))=false:=t d (VU c) ();simpa using z
end
def OE {a x y b g:Nat}{l r:Yc}{ix:Yi}{Q:Bool->YB}(W:Wk lt)(O:yc prog w A s kind it lt N)(B:SBp it kind (l++(a,x,b)::(a+x,y,g)::r).toArray ix st)(hz:ix.size=N)(m:ix.Perm (Array.range N))(S:Seg lt ix a (a+x))(T:Seg lt ix (a+x) (a+x+y))(n:1<=x)(o:1<=y)(j:a+x+y<=N)
 (h:∀f c,SBp it kind (l++(a,x+y,b)::r).toArray f c->f.Perm ix->Seg lt f a (a+x+y)->(∀i,i<a\/a+x+y<=i->gx f i=gx ix i)->Q true c):YK prog w A E s (mergeAt' l.length) Q st:=by
 have p:(pendingOf st)[l.length]? = some (a,x,b):=by rw[B.pd];simp
 have t:(pendingOf st)[l.length+1]? = some (a+x,y,g):=by
  rw[B.pd,List.getElem?_toArray,Vc (Ui _ _),VM];rfl
 rw[kq];refine Yo (wpS_get ?_);rw[p,t];rw[B.arr];have u:SBp it kind (l++(a,x+y,b)::r).toArray ix (setPending st (((pendingOf st).setIfInBounds l.length (a,x+y,b)).eraseIdxIfInBounds (l.length+1))):=⟨B.arr,B.kd,B.fl,by rw[C8,B.pd];exact OD⟩;obtain⟨q,e⟩:∃q,a+x=q+1:=⟨a+x-1,()⟩;rw[e] at S T j h ⊢;exact mJ W S T hz j u h O (λi v=>Fs m (by rwa [hz])) e n o rfl
def yd (lt:Yd)(ix:Yi):Nat->List (Nat×Nat×Nat)->Nat->Prop
 |a,[],b=>a=b
 |a,p::r,b=>p.1=a/\1<=p.2.1/\Seg lt ix a (a+p.2.1)/\yd lt ix (a+p.2.1) r b
theorem yd.le {ix:Yi}:∀{l:Yc} {a b:Nat},yd lt ix a l b->a+l.length<=b
 | [],a,b,h=>by rw[h];simp
 |p::r,a,b,⟨_,h2,_,h4⟩=>by have:=h4.le;grind
theorem yd.app {ix:Yi}:∀{l r:Yc} {a b:Nat},yd lt ix a (l++r) b->∃c,yd lt ix a l c/\yd lt ix c r b
 | [],r,a,b,h=>⟨a,rfl,h⟩
 |p::l,r,a,b,⟨h1,h2,h3,h4⟩=>have ⟨c,e,f⟩:=yd.app h4;⟨c,⟨h1,h2,h3,e⟩,f⟩
theorem yd.cat {ix:Yi}:∀{l r:Yc} {a b c:Nat},yd lt ix a l c->yd lt ix c r b->yd lt ix a (l++r) b
 | [],r,a,b,c,h,k=>by rwa [h]
 |p::l,r,a,b,c,⟨h1,h2,h3,h4⟩,k=>⟨h1,h2,h3,yd.cat h4 k⟩
theorem yd.same {ix c:Yi}:∀{l:Yc} {a b:Nat},yd lt ix a l b->(∀i,a<=i->i<b->gx c i=gx ix i)->yd lt c a l b
 | [],a,b,h,_=>h
 |p::r,a,b,⟨h1,h2,h3,h4⟩,k=>⟨h1,h2,h3.same λi x y=>k i x (by have:=h4.le;lia),h4.same ()⟩
structure RI (it:Nat->Keyed)(kind:SortKind)(lt:Yd)(N:Nat)(ps:Yc)(lo:Nat)(ix:Yi)(st:SortSt):Prop where
 b:SBp it kind ps.toArray ix st
 size:ix.size=N
 perm:ix.Perm (Array.range N)
 ch:yd lt ix 0 ps lo
 le:lo<=N
def Fy {i lo:Nat}{ps:Yc}{ix:Yi}{Q:Bool->YB}(W:Wk lt)(O:yc prog w A s kind it lt N)(R:RI it kind lt N ps lo ix st)(M:i+1<ps.length)
 (h:∀b e a,b.length+1=ps.length->RI it kind lt N b lo e a->(∀i,lo<=i->gx e i=gx ix i)->Q true a):YK prog w A E s (mergeAt' i) Q st:=by
 obtain⟨l,x,y,r,rfl,hl⟩:∃l x y r,ps=l++x::y::r/\l.length=i:=⟨ps.take i,ps[i],ps[i+1],ps.drop (i+2),by
  simp,()⟩
 have ⟨c,o,p⟩:=R.ch.app;have ⟨q,f,t⟩:=x;have ⟨P,g,S⟩:=y;have ⟨u,v,z,B,C,F,G⟩:=p;have H:=u;have I:=B;have J:=v;have K:=C;have j:yd lt ix (c+f+g) r lo:=G;subst H I;have T:=j.le;have le:=R.le;subst hl;refine OE W O R.b R.size R.perm z F J K () λe a L m n U=>h (l++(q,f+g,t)::r) e a () ⟨L,by rw[m.size_eq];exact R.size,m.trans R.perm,?_,R.le⟩ ();rw[Nat.add_assoc] at n;refine(o.same ()).cat ⟨rfl,(),n,?_⟩;rw[<- Nat.add_assoc];exact j.same ()
def OF {l:Yc}{x:Nat×Nat×Nat}(f):(l++[x]).toArray.modify ((l++[x]).toArray.size-1) f=(l++[f x]).toArray:=by
 have e:∀l:Yc,(l++[x]).modify l.length f=l++[f x]:=λl=>by
  induction l with
  |nil=>rfl
  |cons y l a=>show y::(l++[x]).modify l.length f=_;rw[a];rfl
 simp[e]
abbrev U2:=Option Unit×Unit
abbrev U1:=Option Unit×Nat
noncomputable def rC (a:Nat):SM (ForInStep U2):=get >>= λz=>match (if(pendingOf z).size > 1 then(pendingOf z)[(pendingOf z).size-2]? else none) with
 |some (_,_,older)=>if older<=a then pure (.done (none,Yt)) else mergeAt' ((pendingOf z).size-2) >>= λb=>if(!b)=true then pure (.done (some Yt,Yt)) else pure (.yield (none,Yt))
 |_=>pure (.done (none,Yt))
noncomputable def mr (lo n:Nat):SM (ForInStep U1):=(modify λs=>setPending s ((pendingOf s).push (lo,n,0))) >>= λ_=>pure (.yield (none,lo+n))
noncomputable def rA (lo n a:Nat)(c:U2):SM (ForInStep U1):=match c.1 with
 |some r=>pure (.done (some r,lo))
 |none=>(modify λs=>setPending s ((pendingOf s).modify ((pendingOf s).size-1) λ(st,len,_)=>(st,len,a))) >>= λ_=>mr lo n
noncomputable def fZ (N lo n:Nat):SM (ForInStep U1):=get >>= λz=>match (pendingOf z).back? with
 |some (s1,n1,_)=>(forIn [:N] ((none,Yt):U2) λ_ _=>rC (power' N (2*s1+n1) (2*s1+n1+n1+n) N)) >>= rA lo n (power' N (2*s1+n1) (2*s1+n1+n1+n) N)
 |_=>mr lo n
noncomputable def pq (N a lo:Nat):SM (ForInStep U1):=if lo ≥ N then pure (.done (none,lo)) else countRun' lo (N-lo) >>= λr=>match r with
 |some n=>if n<a then(liftM (rule "list.sort.binary-insertion"):SM PUnit) >>= λ_=>binarySort' lo (min (N-lo) a) n >>= λb=>if(!b)=true then pure (.done (some Yt,lo)) else fZ N lo (min (N-lo) a) else fZ N lo n
 |_=>pure (.done (some Yt,lo))
def rB (p:Array (Nat×Nat×Nat)):Nat:=if Option.any (λx=>decide (x<p[p.size-2+1]?.elim 0 λx=>x.2.1)) (if p.size-2 > 0 then p[p.size-2-1]?.map (λx=>x.2.1) else none)=true then p.size-2-1 else p.size-2
noncomputable def rE:SM (ForInStep U2):=get >>= λz=>if(pendingOf z).size<=1 then pure (.done (none,Yt)) else mergeAt' (rB (pendingOf z)) >>= λb=>if(!b)=true then pure (.done (some Yt,Yt)) else pure (.yield (none,Yt))
set_option smartUnfolding false in
def uj:sortRuns'=(get >>= λz=>(forIn [:(arrOf z).size] ((none,0):U1) λ_ c=>pq (arrOf z).size (minRun' (arrOf z).size (arrOf z).size 0) c.2) >>= λc=>match c.1 with
 |some r=>pure r
 |none=>(forIn [:(arrOf z).size] ((none,Yt):U2) λ_ _=>rE) >>= λc=>match c.1 with
  |some r=>pure r
  |none=>pure Yt):=rfl
def OG {c:Prop}[Decidable c]{x y z:Nat}(h:x<=z)(k:y<=z):(if c then x else y)<=z:=by split<;>assumption
def OH {p:Array (Nat×Nat×Nat)}:rB p<=p.size-2:=OG (U9 _ _) (Zf _)
section
variable {ps:Yc}{lo k pw:Nat}{jx px:Yi}{R:ForInStep U1->YB}(Sg:Seg lt jx lo (lo+k))(k1:1<=k)(k2:lo+k<=N)(suf:∀i,lo+k<=i->i<N->gx jx i=i)
 (go:∀ps jx st',RI it kind lt N ps (lo+k) jx st'->(∀i,lo+k<=i->i<N->gx jx i=i)->R (.yield (none,lo+k)) st')
include Sg k1 k2 suf go
theorem Fz (a:RI it kind lt N ps lo jx st):YK prog w A E s (mr lo k) R st:=
 Yo (wpS_modify (Yp (go (ps++[(lo,k,0)]) jx _ ⟨⟨a.b.arr,a.b.kd,a.b.fl,by rw[C8,a.b.pd];simp⟩,a.size,a.perm,a.ch.cat ⟨rfl,k1,Sg,rfl⟩,k2⟩ suf)))
theorem OI (i:1<=ps.length)(a:RI it kind lt N ps lo jx st):YK prog w A E s (rA lo k pw (none,Yt)) R st:=by
 rcases List.eq_nil_or_concat ps with z|⟨l2,v,z⟩
 .simp_all
 .subst z;rw[List.concat_eq_append] at a;refine Yo (wpS_modify (Fz (ps:=l2++[(v.1,v.2.1,pw)]) Sg k1 k2 suf go ⟨⟨a.b.arr,a.b.kd,a.b.fl,?_⟩,a.size,a.perm,?_,a.le⟩))
  .rw[C8,a.b.pd];exact OF _
  .obtain⟨c,b,e,f,g,h⟩:=a.ch.app;exact b.cat ⟨e,f,g,h⟩
end
def OJ {ps:Yc}{lo h:Nat}{e:Yi}{Q:ForInStep U2->YB}(W:Wk lt)(O:yc prog w A s kind it lt N)(m:1<=ps.length)(f:RI it kind lt N ps lo e st)(g:Q (.done (none,Yt)) st)
 (go:∀a c b,1<=a.length->RI it kind lt N a lo c b->(∀i,lo<=i->gx c i=gx e i)->Q (.yield (none,Yt)) b):YK prog w A E s (rC h) Q st:=by
 refine Yo (wpS_get ?_);rw[f.b.pd]
 split
 .have hp:2<=ps.length:=by
   grind
  refine wi (λ_=>Yp g) λ_=>Yo (Fy W O f () λa c b n j l=>Yp (go a c b () j l))
 .exact Yp g
def OK {ps:Yc}{lo k:Nat}{ix a:Yi}{R:ForInStep U1->YB}(W:Wk lt)(O:yc prog w A s kind it lt N)(B:SBp it kind ps.toArray a st)(L:PlO lo N ix a (lo+k))(U:yW lt lo a (lo+k))(ch:yd lt ix 0 ps lo)(le:lo<=N)(k1:1<=k)(k2:lo+k<=N)
 (go:∀ps b e,RI it kind lt N ps (lo+k) b e->(∀i,lo+k<=i->i<N->gx b i=i)->R (.yield (none,lo+k)) e):YK prog w A E s (fZ N lo k) R st:=by
 have m:Seg lt a lo (lo+k):=⟨L.mid,U⟩;have n:RI it kind lt N ps lo a st:=⟨B,L.size,L.perm,ch.same λi _ g=>L.low i g,le⟩;refine Yo (wpS_get ?_);rw[B.pd];rcases List.eq_nil_or_concat ps with z|⟨l,y,z⟩
 .subst z;exact Fz m k1 k2 L.suf go n
 .have f:1<=ps.length:=by simp_all
  rw[show ps.toArray.back? = some y by simp_all];refine Yo (Yq (Yr (I:=λ_ c h=>c=(none,Yt)/\∃ps b,1<=ps.length/\RI it kind lt N ps lo b h/\∀i,lo<=i->gx b i=gx a i) ?_ (λ_ _ z=>z) ⟨rfl,_,a,f,n,λ_ _=>rfl⟩) ?_)
  .rintro y c h _ _ ⟨rfl,ps,b,f,j,un⟩;exact OJ W O f j () ()
  .rintro c h ⟨rfl,ps,b,f,j,un⟩;exact OI (m.same ()) k1 k2 (λi o g=>(un i (Zh (Ui _ _) o)).trans (L.suf i o g)) go f j
def OL {ps:Yc}{e:Yi}{Q:ForInStep U2->YB}(W:Wk lt)(O:yc prog w A s kind it lt N)(R:RI it kind lt N ps N e st)(f:ps.length<=1->Q (.done (none,Yt)) st)
 (go:∀a g b,a.length+1=ps.length->RI it kind lt N a N g b->Q (.yield (none,Yt)) b):YK prog w A E s rE Q st:=by
 refine Yo (wpS_get ?_);rw[R.b.pd];refine wi (λc=>Yp (f c)) λc=>Yo (Fy W O R ?_ λa e b h i _=>Yp (go a e b h i));have:=OH (p:=ps.toArray)
 grind
def OM {ix:Yi}{Q:Unit->YB}(W:Wk lt)(O:yc prog w A s kind it lt N)(C:RI it kind lt N [] 0 ix st)(l:∀i,i<N->gx ix i=i)(o:2<=N)
 (h:∀j f,arrOf f=j.map it->failedOf f=none->Pl N j N->Up lt j N->Q Yt f):YK prog w A E s sortRuns' Q st:=by
 have sz:(arrOf st).size=N:=by rw[C.b.arr,Uj];exact C.size
 rw[uj];refine Yo (wpS_get ?_);rw[sz];refine Yo (Yq (Yr (I:=λx c t=>∃lo ps ix,c=(none,lo)/\x<=lo/\RI it kind lt N ps lo ix t/\∀i,lo<=i->i<N->gx ix i=i) (Q:=λc t=>∃ps ix,c=(none,N)/\RI it kind lt N ps N ix t) ?_ ?_ ⟨0,[],ix,rfl,Zf _,C,λi _ X=>l i X⟩) ?_)
 .rintro x c t _ Y ⟨lo,ps,ix,rfl,J,R,l⟩;have le:=R.le;refine wi (λq=>?_) λq=>?_
  .have e:lo=N:=Nat.le_antisymm le q;subst e;exact Yp ⟨ps,ix,rfl,R⟩
  have q:lo<N:=Yv q;have Z:PlO lo N ix ix (lo+1):=⟨R.size,R.perm,λ_ _=>rfl,λa u o=>by
   rw[l a u (Zg o q)];exact⟨u,o⟩,λa u o=>l a (UA u) o⟩
  have sub:∀{k},k<=N-lo->lo+k<=N:=λh=>Zh (Nat.add_le_add_left h _) (Yx (Vv le));have y:∀{k z F} {n:ForInStep U1->YB},SBp it kind ps.toArray z F->1<=k->k<=N-lo->PlO lo N ix z (lo+k)->yW lt lo z (lo+k)->(∀ps j f,x+1<=lo+k->RI it kind lt N ps (lo+k) j f->(∀i,lo+k<=i->i<N->gx j i=i)->n (.yield (none,lo+k)) f)->YK prog w A E s (fZ N lo k) n F:=
   λB k1 k2 L U g=>OK W O B L U R.ch le k1 (sub k2) λps j f n s'=>g ps j f (Nat.add_le_add J k1) n s'
  exact Yo (OA W O (sub (Zf _)) (λm kx s2 K M m2 P U2=>wi (λS=>Yo (wpS_lift (wpAny_rule ⟨rfl,Yo (OC W O (sub (Nat.min_le_left _ _)) (Nat.le_min.mpr ⟨m2,Zz S⟩) M K P U2 λz F B3 L3 U3=>y B3 (Nat.le_min.mpr ⟨Nat.sub_pos_of_lt q,Nat.zero_lt_of_lt S⟩) (Nat.min_le_left _ _) L3 U3 λps j f g n s'=>⟨_,ps,j,rfl,g,n,s'⟩)⟩))) λ_=>y K M m2 P U2 λps j f g n s'=>⟨_,ps,j,rfl,g,n,s'⟩) (Nat.sub_pos_of_lt q) R.b Z)
 .rintro c t ⟨lo,ps,ix,rfl,J,R,l⟩;have le:=R.le
  grind
 .rintro c t ⟨ps,ix,rfl,R⟩;refine Yo (Yq (Yr (I:=λx c v=>∃ps ix,c=(none,Yt)/\(ps.length<=1\/ps.length+x<=N)/\RI it kind lt N ps N ix v) (Q:=λc v=>∃ps ix,c=(none,Yt)/\ps.length<=1/\RI it kind lt N ps N ix v) ?_ ?_ ⟨ps,ix,rfl,.inr (by have:=R.ch.le;lia),R⟩) ?_)
  .rintro x c v _ Y ⟨ps,ix,rfl,T,R⟩;exact OL W O R (λc1=>⟨ps,ix,rfl,c1,R⟩) ()
  .grind
  .rintro c v ⟨ps,ix,rfl,T,R⟩;cases ps with
   |nil =>
    have:0=N:=R.ch;lia
   |cons p r =>
    have e:r=[]:=List.eq_nil_of_length_eq_zero (Nat.le_zero.mp (Nat.le_of_succ_le_succ T));subst e;obtain⟨d1,d2,G,H⟩:=R.ch;have H:0+p.2.1=N:=H;rw[H] at G;exact Yp (h ix v R.b.arr R.b.fl ⟨R.size,R.perm,λa ha=>(G.pl a (Ua _) ha).2,λa u o=>Zn o (Nat.not_lt_of_le u)⟩ λa b ab bn=>G.up a b (Ua _) ab bn)
end
open PySem PyProof.Rows
section
variable {prog:Program}{w:World}{A:Around}{E:Ya}{s:Shared}{kind:SortKind}{it:Nat->Keyed}{lt:Yd}{n:Nat}{ix:Yi}{st:SortSt}
def F6 (W:Wk lt)(O:yc prog w A s kind it lt n){Q:Unit->YB}(B:SB it kind ix st)(L:Pl n ix 1)(c:2<=n)(e:n<1000)
 (h:∀b a,arrOf a=b.map it->failedOf a=none->Pl n b n->Up lt b n->Q Yt a):YK prog w A E s sortRuns' Q st:=
 OM W O ⟨⟨B.arr,B.kd,B.fl,B.pd⟩,L.size,L.perm,rfl,Ua _⟩ (λi f=>if z:i=0 then by rw[z];have:=L.pre 0 ();lia else L.suf i () f) c h
end
def j8 (a:Yf)(i:Nat):Value:=a.getD i .none
def C9 (vs):vs.toArray.zip vs.toArray=(Array.range vs.length).map λi=>(j8 vs i,j8 vs i):=by
 apply Array.ext_getElem?;intro k;rw[UR];by_cases h:k<vs.length
 .rw[Array.getElem?_range,Zd h];have e:j8 vs k=vs[k]:=by unfold j8;rw[Uq,Zqg h];rfl
  simp[Array.getElem?_zip_eq_some,h,e]
 .rw[Array.getElem?_range,Ze h,VV (by simp;lia)];rfl
def F7 (h:k<n):gx (Array.range n) k=k:=by
 simp_all [gx]
def A4 (n k)(b:k<=n):Pl n (Array.range n) k:=by
 refine⟨Array.size_range,Array.Perm.refl _,λa c=>?_,λa _ h=>F7 h⟩
 rwa [F7 ()]
section
variable {prog:Program}{w:World}{A:Around}{E:Ya}{s:Shared}{lt:Yd}
def zO (prog:Program)(w:World)(A:Around)(s:Shared)(a:Yf)(lt:Yd):Prop:=
 ∃kind,(∀(E:Ya) (Q:SortKind->YC),Q kind s->YJ prog w A (keyKind' a.toArray) Q E s)/\yc prog w A s kind (λi=>(j8 a i,j8 a i)) lt a.length
def F8 (W:Wk lt)(m:s.heap.get? a=some (seqObj "list" vs.toArray n))(r:vs.length<1000)
 (y:∀h',(∀b o,b≠a->s.heap.get? b=some o->h'.get? b=some o)->2<=vs.length->zO prog w A { s with heap:=h' } vs lt)
 (h:∀c,Pl vs.length c vs.length->Up lt c vs.length->P (.done (.ret .none)) { s with heap:=sortedHeap s.heap a vs (c.map (j8 vs)) }):
 YJ prog w A (Builtin.«list.sort» ⟨[.ref a],[]⟩) P E s:=by
 rw[list_sort_plain];have H:a<s.heap.objs.size:=Zk m;obtain⟨t,g1⟩:∃t,(s.heap.update a (Obj.mapSeq λ_ => #[])).get? a=some (seqObj "list" #[] t):=⟨_,get?_update_seq m (λ_ => #[])⟩;refine Za (listItems_at m rfl (Za (listUpdate_at m rfl (Za (seqEpoch_at g1 rfl (Za (wpAny_newTuple (Za (wpAny_newList (wpAny_holding ?_))))))))));have u:∀b,b<s.heap.objs.size->b≠(s.heap.update a (Obj.mapSeq λ_ => #[])).objs.size:=λb p=>by
  rw[Heap.size_update];exact Zi p
 have v:∀b,b<s.heap.objs.size->b≠((s.heap.update a (Obj.mapSeq λ_ => #[])).push (seqObj "tuple" vs.toArray 0)).objs.size:=λb p=>by
  rw[size_push',Heap.size_update];exact by lia
 have q:(((s.heap.update a (Obj.mapSeq λ_ => #[])).push (seqObj "tuple" vs.toArray 0)).push (seqObj "list" #[] 0)).get? a=some (seqObj "list" #[] t):=by
  grind[Heap.get?_push_ne]
 have z:∀b o,b≠a->s.heap.get? b=some o->(((s.heap.update a (Obj.mapSeq λ_ => #[])).push (seqObj "tuple" vs.toArray 0)).push (seqObj "list" #[] 0)).get? b=some o:=λb o p e=>by
  rw[Heap.get?_push_ne _ _ _ (v b (Zk e)),Heap.get?_push_ne _ _ _ (u b (Zk e)),Heap.get?_update_ne _ _ _ _ p];exact e
 have x:∀(c:Yi),(c.map λi=>(j8 vs i,j8 vs i)).map (·.2)=c.map (j8 vs):=by simp
 show YJ prog w A _ P E { s with heap:=((s.heap.update a (Obj.mapSeq λ_ => #[])).push (seqObj "tuple" vs.toArray 0)).push (seqObj "list" #[] 0) };dsimp only;have sz:vs.toArray.size=vs.length:=by simp
 by_cases g:vs.toArray.size<2
 .rw[Zd g,Zd g];refine Za (Zb ?_);rw[StateT.run_pure];refine Za (Zb ?_);dsimp only;refine Za (seqEpoch_at q rfl (Za (listUpdate_at q rfl ?_ (hsz2:=by rw[Uj,C9,Uj,Array.size_range,sizeLine_eq];lia))));simp only[bne_self_eq_false,UB,if_false];have f:=h (Array.range vs.length) (A4 _ _ (Zf _)) λi j I J=>()
  rw[<- x,<- C9] at f;exact Zb f
 .rw[Ze g,Ze g];obtain⟨kind,k1,k2⟩:=y _ z ();refine Za (k1 _ _ ?_);refine Za (Zc (F6 W k2 (ix:=Array.range vs.length) (st:=SortSt.mk' kind (vs.toArray.zip vs.toArray) #[] 7 none) (Q:=λ_ l=>∃c,arrOf l=c.map (λi=>(j8 vs i,j8 vs i))/\failedOf l=none/\Pl vs.length c vs.length/\Up lt c vs.length)
   ⟨C9 vs,rfl,rfl,rfl⟩ (A4 _ _ ()) () r λc l B C F G=>⟨c,B,C,F,G⟩) ?_ λ_ _ e=>e)
  rintro⟨⟨⟩,l⟩ s' ⟨rfl,c,q1,q2,q3,q4⟩;dsimp only;refine Za (seqEpoch_at q rfl (Za (listUpdate_at q rfl ?_ (hsz2:=by
   rw[Uj,q1,Uj,q3.size,sizeLine_eq];lia))))
  rw[q2];simp only[bne_self_eq_false,UB,if_false];have f:=h c q3 q4;rw[<- x,<- q1] at f;exact Zb f
def F9 (W:Wk lt)
 (i:wpAny (model prog w) A.in1 (collect x) (λa c=>a.length<1000/\(∀h',(∀b o,c.heap.get? b=some o->h'.get? b=some o)->2<=a.length->zO prog w A.in1.in1 { c with heap:=h' } a lt) /\
  ∀f h' l,Pl a.length f a.length->Up lt f a.length->(∀b o,c.heap.get? b=some o->h'.get? b=some o)->c.heap.objs.size<=l->(∃e,h'.get? l=some (seqObj "list" (f.map (j8 a)) e))->Q (.ref l) { c with heap:=h' }) E s):
 YJ prog w A (call (.builtin "sorted") [x]) Q E s:=by
 refine Calls.call_function_entry kind_sorted plain_sorted entry_sorted (args_sorted1 _) (Za (Zb (Za (Zc i (λa c z=>?_) λ_ _ e=>e))));obtain⟨g,j,m⟩:=z;have h:(c.heap.push (seqObj "list" a.toArray 0)).get? c.heap.objs.size=some (seqObj "list" a.toArray 0):=Zr _ rfl;have n:∀b o,c.heap.get? b=some o->b≠c.heap.objs.size:=λb o e=>Zi (Zk e);refine Za (wpAny_newList (Za (wpAny_holding (wpAny_call_entry slot_list_sort ⟨_,h,rfl⟩ entry_list_sort (F8 W h g (λh' q=>j h' λb o e=>q b o (n b o e) (Zq _ e)) λf p u=>⟨_,rfl,Zb ⟨_,rfl,m f _ _ p u (λb o e=>?_) (Zf _) (sortedHeap_at h)⟩⟩) (args_list_sort _)))))
 grind[size_push',sortedHeap_old,Nat.lt_succ_of_lt,Heap.lt_size,Heap.get?_push_of_some]
end
structure Tot {α: Type}(ltb:α -> α -> Bool):Prop where
 asy:∀a b,ltb a b=true->ltb b a=false
 neg:∀a b c,ltb a c=true->ltb a b=true\/ltb b c=true
 tot:∀a b,ltb a b=false->ltb b a=false->a=b
def Tot.irr {α: Type}{ltb:α -> α -> Bool}(T:Tot ltb)(a):ltb a a=false:=by
 cases q:ltb a a with
 |false=>rfl
 |true=>have:=T.asy _ _ q;simp_all
def Tot.wk {α: Type}{ltb:α -> α -> Bool}(T:Tot ltb)(f:Nat -> α):Wk λi j=>ltb (f i) (f j):=⟨λi j=>T.asy _ _,λi j k=>T.neg _ _ _⟩
def jW (p q:Int×Int):Bool:=decide (p.1<q.1)||(decide (p.1=q.1)&&decide (p.2<q.2))
theorem WJ:jW p q=true↔p.1<q.1\/(p.1=q.1/\p.2<q.2):=by
 unfold jW;simp
theorem YN:jW p q=false↔¬(p.1<q.1\/(p.1=q.1/\p.2<q.2)):=by
 rw[<- WJ];simp
def wc:Tot jW:=by
 refine⟨λa b h=>?_,λa b c h=>?_,λa b e f=>?_⟩
 .rw[WJ] at h;rw[YN];lia
 .grind[WJ]
 grind[YN]
def j7:Jy->Jy->Bool
 | [],[]=>false
 | [],_::_=>true
 |_::_,[]=>false
 |p::r,q::s=>if p=q then j7 r s else jW p q
def V2 (p q)(r s):j7 (p::r) (q::s)=if p=q then j7 r s else jW p q:=rfl
theorem FB:∀a b:Jy,j7 a b=true->j7 b a=false
 | [],[],h=>JD h
 | [],_::_,_=>rfl
 |_::_,[],h=>JD h
 |p::r,q::s,h=>by
  rw[V2] at h ⊢;by_cases e:p=q
  .rw[Zd e] at h;rw[Zd e.symm];exact FB r s h
  .rw[Ze e] at h;rw[Ze (λz=>e z.symm)];exact wc.asy _ _ h
theorem FC:∀a b c:Jy,j7 a c=true->j7 a b=true\/j7 b c=true
 | [],[],c,h=>.inr h
 | [],_::_,_,_=>.inl rfl
 |_::_,_,[],h=>JD h
 |p::r,[],q::s,_=>.inr rfl
 |p::r,x::t,q::s,h=>by
  rw[V2] at h;rw[V2,V2];by_cases e:p=q
  .rw[Zd e] at h;by_cases f:p=x
   .rw[Zd f,Zd (f.symm.trans e)];exact FC r t s h
   .rw[Ze f,Ze (λz=>f (e.trans z.symm))];cases z:jW p x with
    |true=>simp
    |false =>
     right;rw[<- e];cases y:jW x p with
     |true=>rfl
     |false=>exact Zn (wc.tot _ _ z y) f
  .rw[Ze e] at h;by_cases f:p=x
   .simp_all
   .rw[Ze f];by_cases g:x=q
    .left
     rwa [g]
    .rw[Ze g];exact wc.neg _ _ _ h
theorem FF:∀a b:Jy,j7 a b=false->j7 b a=false->a=b
 | [],[],_,_=>rfl
 | [],_::_,h,_=>by cases h
 |_::_,[],_,h=>by cases h
 |p::r,q::s,h1,h2=>by
  rw[V2] at h1 h2;by_cases e:p=q
  .rw[Zd e] at h1;rw[Zd e.symm] at h2;rw[e,FF r s h1 h2]
  .rw[Ze e] at h1;rw[Ze (λz=>e z.symm)] at h2;exact Zn (wc.tot _ _ h1 h2) e
def xM:Tot j7:=⟨FB,FC,FF⟩
section
variable {α: Type}(ltb:α -> α -> Bool)
def za (x:α):List α -> List α
 | []=>[x]
 |y::r=>if ltb x y=true then x::y::r else y::za x r
def JS:List α -> List α
 | []=>[]
 |x::r=>za ltb x (JS r)
def Sd (l:List α):Prop:=l.Pairwise λa b=>ltb b a=false
variable {ltb}
theorem CA (x):∀l:List α,(za ltb x l).Perm (x::l)
 | []=>Vy _
 |y::r=>by
  unfold za
  split
  .rfl
  .exact((CA x r).cons y).trans (List.Perm.swap x y r)
theorem Q1:∀l:List α,(JS ltb l).Perm l
 | []=>Vy _
 |x::r=>(CA x _).trans ((Q1 r).cons x)
theorem FG (T:Tot ltb)(x):∀l:List α,Sd ltb l->Sd ltb (za ltb x l)
 | [],_=>VW _ _
 |y::r,h=>by
  have ⟨b,a⟩:=Ji.mp h;unfold za
  split
  .rename_i c;refine Ji.mpr ⟨λz hz=>?_,h⟩;rcases UI.mp hz with e|e
   .rw[e];exact T.asy _ _ c
   .cases q:ltb z x with
    |false=>rfl
    |true =>
     rcases T.neg x z y c with u|u
     .rw[T.asy _ _ u] at q;exact JD q
     simp_all
  .refine Ji.mpr ⟨λz hz=>?_,FG T x r a⟩
   grind[CA]
theorem WK (T:Tot ltb):∀l:List α,Sd ltb (JS ltb l)
 | []=>List.Pairwise.nil
 |x::r=>FG T x _ (WK T r)
theorem A5 (T:Tot ltb):∀{a b:List α},a.Perm b->Sd ltb a->Sd ltb b->a=b
 | [],b,p,_,_=>p.nil_eq
 |x::r,b,p,ha,hb=>by
  cases b with
  |nil=>simp_all
  |cons y t =>
   have ⟨c,f⟩:=Ji.mp ha;have ⟨g,h⟩:=Ji.mp hb;have e:x=y:=by
    rcases UI.mp (p.mem_iff.mp Zqs) with z|z
    .exact z
    .rcases UI.mp (p.mem_iff.mpr Zqs) with u|u
     .exact u.symm
     .exact T.tot _ _ (g x z) (c y u)
   subst e;rw[A5 T p.cons_inv f h]
def CB (T:Tot ltb){l:List α}{d:α}(p:Pl l.length jx l.length)(u:Up (λi j=>ltb (l.getD i d) (l.getD j d)) jx l.length):jx.toList.map (λi=>l.getD i d)=JS ltb l:=by
 refine A5 T ?_ ?_ (WK T l)
 .refine Vw ?_ (Q1 l).symm;have q:jx.toList.Perm (List.range l.length):=by
   have:=Jp.mp p.perm;simpa using this
  refine(q.map _).trans (List.Perm.of_eq ?_);apply List.ext_getElem
  .simp
  .intro i m c;simp[c]
 .refine Jk.mpr λa b e f ab=>?_;rw[VN,VN];have sz:jx.toList.length=l.length:=by rw[Ul,p.size]
  rw[Zql] at e f;have g:jx.toList[a]=gx jx a:=by
   simp_all [gx]
  have h:jx.toList[b]=gx jx b:=by
   simp_all [gx]
  rw[g,h];exact jJ.no (T.wk λi=>l.getD i d) (u a b ab ())
end
theorem Qj {α: Type}{l:List α}{d x:α}(h:l[i]? = some x):l.getD i d=x:=()
def WL (h:Heap)(b:Yf)(ps:Jy):Prop:=b.length=ps.length/\∀(i:Nat) p,ps[i]? = some p->∃a o n t u,b[i]? = some (.ref a)/\h.get? a=some o/\o.cls=.type "tuple" /\ o.data=.seq #[.int p.1 t,.int p.2 u] n
section
variable {prog:Program}{w:World}{A:Around}{s:Shared}
theorem FH:∀{b:Yf} {ps:Jy},WL h b ps->∃fs,W.KatTups h b fs/\fs.length=b.length/\∀v∈fs,∃k t,v=Value.int k t
 | [],ps,q=>⟨[],.nil,rfl,()⟩
 |v::b,[],q=>by have:=q.1;simp at this
 |v::b,p::ps,q=>by
  obtain⟨a,o,n,t,u,c,e,f,g⟩:=q.2 0 p rfl;obtain rfl:=Zqi c;have ⟨fs,k1,k2,k3⟩:=FH ⟨by have:=q.1;simp_all,λi p hp=>q.2 (i+1) p hp⟩;refine⟨.int p.1 t::fs,.cons e f g rfl k1,by simp[k2],λv j=>?_⟩
  grind
def ON (q:WL s.heap vs ps)(B:2<=vs.length):zO prog w A s vs λi j=>jW (ps.getD i (0,0)) (ps.getD j (0,0)):=by
 obtain⟨fs,k1,k2,k3⟩:=FH q;refine⟨tuples' (Value.type "int" != Value.type "tuple"),λE Q h=>W.kat_kind (T:=Value.type "int") k1 () (λv b=>?_) rfl h,λi j C F E Q h=>?_⟩
 .obtain⟨k,t,rfl⟩:=k3 v b;exact W.Looks.of_pure rfl
 .have G:=q.1;obtain⟨p,hp⟩:∃p,ps[i]? = some p:=by grind
  obtain⟨p',hp'⟩:∃p,ps[j]? = some p:=by grind
  obtain⟨a,o,n,t,u,e,f,H,l⟩:=q.2 i p hp;obtain⟨I,J,K,t',m,r,x,L,y⟩:=q.2 j p' hp';dsimp only at h;rw[Qj hp,Qj hp'] at h;show YJ prog w A (keyLt' _ (j8 vs i) (j8 vs j)) Q E s;unfold j8;rw[Qj e,Qj r];refine W.kat_lt f l x y ?_;refine W.kat_cons (PySem.SeqAt.EqAt.int_int p.1 t p'.1 t' prog w _ _ ?_);by_cases c:p.1=p'.1
  .rw[show(p.1 == p'.1)=true by simpa using c];refine W.kat_yes (W.kat_cons (PySem.SeqAt.EqAt.int_int p.2 u p'.2 m prog w _ _ ?_));by_cases d:p.2=p'.2
   .rw[show(p.2 == p'.2)=true by simpa using d];refine W.kat_yes (W.kat_nil ?_)
    grind[YN]
   .rw[show(p.2 == p'.2)=false by simp_all];refine W.kat_no (W.kat_one _ _ (lt_int ?_));have z:jW p p'=decide (p.2<p'.2):=by
     grind[WJ,YN]
    rw[z] at h;exact h
  .rw[show(p.1 == p'.1)=false by simpa using c];refine W.kat_no (oneLt_int ?_);have z:jW p p'=decide (p.1<p'.1):=by
    by_cases g:p.1<p'.1
    .rw[Zp g,WJ];lia
    .rw[Zo g,YN];lia
   rwa [z] at h
structure RowAt (h:Heap)(v:Value)(r:Jy)(a:Addr)(o:Obj)(us:Yf)(n:Nat):Prop where
 isv:v=.ref a
 get:h.get? a=some o
 cls:o.cls=.type "tuple"
 dat:o.data=.seq us.toArray n
 prs:WL h us r
def CC (ok:qP P w H h)(g:Is H (rD r) x)(j:jy x v):∃a o l n,RowAt h v r a o l n:=by
 obtain⟨a,J,rfl,m,c⟩:=g;obtain rfl:=j;obtain⟨_,its,e,o,q,t,n,y⟩:=(ok a _ m);refine⟨a,o,its,n,rfl,q,t,y,?_,λi p hp=>?_⟩
 .have K:=c.length;have L:=e.length
  simp_all
 .obtain⟨x,z,B⟩:=c.get (by rw[Zv,hp];rfl);obtain⟨u,M,C⟩:=e.get z;obtain⟨b,rfl,E⟩:=bQ.mp B;obtain rfl:=C;obtain⟨_,f,F,N,O,Q,R,S⟩:=(ok b _ E);obtain⟨T,U,rfl,G,I⟩:=XU F;obtain⟨X,rfl⟩:=(G);obtain⟨Y,rfl⟩:=(I)
  simp_all
theorem FI (I:A.units+4<cLine){f:Bool}{E:Ya}{Q:Bool->YC}:∀{r g:Jy} {e b:Yf} i,WL s.heap e r->WL s.heap b g ->
 f=decide (r.length<g.length)->Q (j7 r g) s->W.KatLex prog w A false f Q (e.zip b) i s
 | [],[],e,b,i,q,q',hf,h=>by
  obtain rfl:e=[]:=Jq.mp q.1;refine W.kat_nil ?_;rw[hf];exact h
 | [],p::g,e,b,i,q,q',hf,h=>by
  obtain rfl:e=[]:=Jq.mp q.1;refine W.kat_nil ?_;rw[hf,Zp ()];exact h
 |p::r,[],e,b,i,q,q',hf,h=>by
  obtain rfl:b=[]:=Jq.mp q'.1;rw[List.zip_nil_right];refine W.kat_nil ?_;rw[hf,Zo ()];exact h
 |p::r,p'::g,e,b,i,q,q',hf,h=>by
  obtain⟨a,o,n,t,u,j,m,x,y⟩:=q.2 0 p rfl;obtain⟨B,J,K,t',C,l,F,G,H⟩:=q'.2 0 p' rfl;cases e with
  |nil=>exact J3 j
  |cons v e =>
   cases b with
   |nil=>exact J3 l
   |cons L b =>
    have j:some v=some (Value.ref a):=j;have l:some L=some (Value.ref B):=l;obtain rfl:=Zqi j;obtain rfl:=Zqi l;have M:Reads s.heap (.ref a) (pD p) _:=.tuple m x y (.cons (.int p.1 t) (.cons (.int p.2 u) .nil));have R2:Reads s.heap (.ref B) (pD p') _:=.tuple F G H (.cons (.int p'.1 t') (.cons (.int p'.2 C) .nil));have P:∀z:Int×Int,(pD z).depth=1:=λz=>by
     rfl
    refine W.kat_cons (PySem.SeqAt.eqAt_reads _ _ A s _ _ _ _ M R2 rfl rfl () prog w _ _ ?_);rw[V2] at h;by_cases c:p=p'
    .subst c;rw[Oi (Cv p)];rw[Zd rfl] at h;refine W.kat_yes (FI I (E:=E) (i+1) ⟨by have:=q.1;simp_all,λi z hz=>q.2 (i+1) z hz⟩ ⟨by have:=q'.1;simp_all,λi z hz=>q'.2 (i+1) z hz⟩ () h)
    .rw[Ze c] at h;have ne:pD p≠pD p':=λz=>c (by
      grind[pD])
     rw[Oh (Cv p) (Cv p') ne];have N:IntsAre (#[Value.int p.1 t,Value.int p.2 u]:Yn).toList [p.1,p.2]:=.cons _ _ (.cons _ _ .nil);have O:IntsAre (#[Value.int p'.1 t',Value.int p'.2 C]:Yn).toList [p'.1,p'.2]:=.cons _ _ (.cons _ _ .nil);refine W.kat_one _ _ (HT.lt_tupInts ⟨o,m,x,n,y⟩ ⟨J,F,G,K,H⟩ N O () ?_);have z:HT.lexLt [p.1,p.2] [p'.1,p'.2]=jW p p':=by
      grind[jW,HT.lexLt_cons,HT.lexLt_nil_nil]
     rwa [z]
def FJ {P:Program}{H:Hp}{rs:Jz}{K:YE}{c:Yf}(U:A.units+4<cLine)(ok:qP P w H s.heap)(L:qm H (rs.map rD) K)(M:jq K c)(e:∀r∈rs,r ≠ [])(h2:2<=c.length):
 zO prog w A s c λi j=>j7 (rs.getD i []) (rs.getD j []):=by
 have X:=L.length;have l2:=M.length;rw[Zql] at X;have l:∀(i:Nat) r,rs[i]? = some r->∃v a o m n,c[i]? = some v/\RowAt s.heap v r a o m n:=λi r g=>by
  obtain⟨x,Y,N⟩:=L.get (i:=i) (d:=rD r) (by rw[Zv,g];rfl);obtain⟨v,q,Z⟩:=M.get Y;obtain⟨a,o,m,n,R⟩:=CC ok N Z;exact⟨v,a,o,m,n,q,R⟩
 have f:∀c (rs:Jz),c.length=rs.length->(∀r∈rs,r ≠ [])->(∀(i:Nat) r,rs[i]? = some r->∃v a o m n,c[i]? = some v/\RowAt s.heap v r a o m n)->∃fs,W.KatTups s.heap c fs/\fs.length=c.length/\∀v∈fs,∃b B,v=Value.ref b/\s.heap.get? b=some B/\B.cls=.type "tuple" := by
  intro c
  induction c with
  |nil=>exact λ_ _ _ _=>⟨[],.nil,rfl,λv q=>nomatch q⟩
  |cons v c ih =>
   intro rs O e C;cases rs with
   |nil=>simp at O
   |cons r rs =>
    obtain⟨S,a,o,m,n,F,R⟩:=C 0 r rfl;have F:some v=some S:=F;obtain rfl:=Zqi F;obtain⟨fs,k1,k2,k3⟩:=ih rs (by simpa using O) (λr g=>e r (Zqm _ g)) λi r g=>C (i+1) r g;cases r with
    |nil=>exact Zn rfl (e [] Zqs)
    |cons p r =>
     obtain⟨b,B,nb,t,u,I,J,g3,g4⟩:=R.prs.2 0 p rfl;obtain rfl:v=Value.ref a:=R.isv;refine⟨.ref b::fs,.cons R.get R.cls R.dat (by simpa using I) k1,by simp[k2],λz hz=>?_⟩;rcases UI.mp hz with y|y
     .exact⟨b,B,y,J,g3⟩
     .exact k3 z y
 obtain⟨fs,k1,k2,k3⟩:=f c rs () e l;refine⟨tuples' (Value.type "tuple" != Value.type "tuple"),λE Q h=>W.kat_kind (T:=Value.type "tuple") k1 () (λv q=>?_) rfl h,λi j N hj E Q h=>?_⟩
 .obtain⟨b,B,rfl,I,J⟩:=k3 v q;rw[<- J];exact(W.Looks.ld I).andThen .now
 .obtain⟨r,g⟩:∃r,rs[i]? = some r:=by grind
  obtain⟨r',hr'⟩:∃r,rs[j]? = some r:=⟨_,Zqg ()⟩;obtain⟨v,a,o,m,n,F,R⟩:=l i r g;obtain⟨S,a',o',us',n',f1,G⟩:=l j r' hr';dsimp only at h;rw[Qj g,Qj hr'] at h;show YJ prog w A (keyLt' _ (j8 c i) (j8 c j)) Q E s;unfold j8;rw[Qj F,Qj f1,R.isv,G.isv];refine W.kat_lt R.get R.dat G.get G.dat ?_;exact FI U (E:=E) 0 R.prs G.prs (by rw[Zm,Zm,R.prs.1,G.prs.1]) h
end
section
variable {X:Cx}{tg iter elt c:Expr}{scope:Scope}{pos:Pos}{wi:TI}{g:TG}{te:TE}{tt:TT}
def FK (N)(cap)(p:X.calm=true)(l:QL scope X.env N X.N cap=true)(r:PI X tg iter wi)(t:∀a C s H f,PG (JI X scope N a C s H f) tg g)(u:∀a C s H f,PT (JI X scope N a C s H f) c tt)(v:∀a C s H f,PE (JI X scope N a C s H f) elt te)
 (hs:∀x,foldedSetIterable iter X.env x=pure x) {use:Option (Value->Sem Unit)} {R:Ya} {i:Pos} {Y:Yb} {s:Shared} {Z: St} {H:Hp} {Q:VK} (I:Inv X Y Z H s) (h:Y1 cap wi g tt te Z H Q) (m:Y2 X Y Z Q use R):
 YI X (comprehension (.ListComp elt [⟨tg,iter,[c],0⟩] scope pos) scope X.env i (newList []) false (eval iter X.env) use) R X.xe s:=
 EQ (test:=λenv R Q s=>YI X (isTrue c env (eval c env)) Q (notedBy (model X.prog X.w) X.A env λe s'=>R (.error e) s') s) N (λI j n h=>W.kct_loop I j n h)
  (λa C s H f _ _ _ _ _ _ _ _ o I q k=>Zc (u a C s H f _ _ _ _ _ I q) (λb w z=>by obtain⟨y,A,B⟩:=z;exact k b w y A B) λe s' E=>Zc E (λ_ F z=>o _ _ z) λ_ _ z=>o _ _ z) cap p l r t (λa C s H f _=>v a C s H f) hs I h m
def OO (N)(cap)(f:X.calm=true)(e:QL scope X.env N X.N cap=true)(i:PI X tg iter wi)(j:∀a C s H b,PG (JI X scope N a C s H b) tg g)(l:∀a C s H b,PT (JI X scope N a C s H b) c tt)(m:∀a C s H b,PE (JI X scope N a C s H b) elt te)
 (hs:∀x,foldedSetIterable iter X.env x=pure x:=by intro _;rfl):PE X (.ListComp elt [⟨tg,iter,[c],0⟩] scope pos) (Y1 cap wi g tt te):=λY s Z H Q I h=>FK N cap f e i j l m hs I h EO
end
theorem OP {L:List (Addr×HO)}{b:Addr}{u:HO}(h:L.lookup b=some u):(b,u)∈L:=by
 induction L with
 |nil=>exact J3 h
 |cons p r a =>
  grind
def qH (H:Hp)(L:List (Addr×HO)):Hp:=λb=>match L.lookup b with
 |some o=>some o
 |none=>H b
def A6 (h:∀p∈L,p.1≠b):qH H L b=H b:=by
 grind[qH,List.lookup_cons]
def FL (b:(L.map (·.1)).Nodup)(h:(a,o)∈L):qH H L a=some o:=by
 unfold qH;have e:L.lookup a=some o:=by
  induction L with
  |nil=>cases h
  |cons p r c =>
   grind
 rw[e]
def FM (h:qH H L b=some u):(b,u)∈L\/((∀p∈L,p.1≠b)/\H b=some u):=by
 grind[qH,Zqi,OP]
def Inv.laidMany (I:Inv X Y Z H s)(k:∀b u,s.heap.get? b=some u->h'.get? b=some u)(hp:∀p∈L,s.heap.objs.size<=p.1)
 (ok:∀p∈L,xL X.prog X.w (qH H L) h' p.1 p.2):Inv X Y Z (qH H L) { s with heap:=h',toks:=t' }:=by
 have a:∀b u,s.heap.get? b=some u->∀p∈L,p.1≠b:=λb u e p c z=>Zn (Zg (Zk e) (by rw[<- z];exact hp p c)) (Zy _);have f:∀b u,H b=some u->qH H L b=some u:=λb u e=>by
  rwa [A6 λp c z=>Zn (Zg (I.hok.lt e) (by rw[<- z];exact hp p c)) (Zy _)]
 refine I.un ⟨(),λb u q _ _ _=>⟨u.slots,k b u q⟩,λb u q n _=>by rwa [A6 (a b u q)],(),(),(),λb ps q=>⟨#[],()⟩⟩ λb u e=>?_;rcases FM e with z|⟨z,e'⟩
 .exact ok (b,u) z
 .exact(I.hok b u e').stay () () ()
theorem FN:∀{L:Yj},(∀i∈L,Is H (f i) (g i))->qm H (L.map f) (L.map g)
 | [],_=>by rfl
 |i::L,h=>⟨_,_,rfl,(),FN ()⟩
theorem Xs:∀{L:Yj},(∀i∈L,jy (g i) (u i))->jq (L.map g) (L.map u)
 | [],_=>.nil
 |i::L,h=>.cons () (Xs ())
def Pl.mem (p:Pl n jx n)(h:i∈jx.toList):i<n:=by
 have q:=(Jp.mp p.perm).mem_iff.mp h
 simp_all
def Pl.len (p:Pl n jx k):jx.toList.length=n:=by rw[Ul,p.size]
section
variable {X:Cx}
def OQ (P:X.A.units+64<cLine):jO X (.builtin "sorted") (λt H Q=>∃a ys rs,t=[.ref a]/\Rd H a (.lst ys)/\qm H (rs.map rD) ys/\(∀r∈rs,r ≠ [])/\rs.length<1000 /\
 ∀l (ix:Yj),H l=none->(∀i∈ix,i<rs.length)->ix.map (λi=>rs.getD i [])=JS j7 rs->Q (.ref l) (upd H l (.lst (ix.map λi=>ys.getD i .non)))):=by
 intro Y s Z H t R Q I z h;obtain⟨a,ys,rs,rfl,A,g,j,B,q⟩:=h;obtain⟨u,rfl,C⟩:=Q6 z;obtain rfl:u=Value.ref a:=C;obtain⟨its,m,pl,hz⟩:=I.list (.inl A);have E:=g.length;have S:=m.length;rw[Zql] at E;have F:its.length=rs.length:=()
 have G:∀b o,s.heap.get? b=some o->((s.heap.push (seqObj "list" #[] 0)).update s.heap.objs.size (Obj.mapSeq (· ++ its.toArray))).get? b=some o:=λb o e=>by
  rw[Heap.get?_update_ne _ _ _ _ (Zi (Zk e)),Heap.get?_push_ne _ _ _ (Zi (Zk e))];exact e
 refine F9 (xM.wk λi=>rs.getD i []) (collect_list pl.isList ⟨(),λh' w J=>FJ () (I.hok.kept λb o e=>w b o (G b o e)) g m j J,λf h' l p u w T n=>?_⟩ ());obtain⟨e,n⟩:=n;rw[F] at p u;have c:s.heap.objs.size<=l:=by
  grind[Heap.size_update,size_push']
 have K:∀i∈f.toList,∃x v,ys[i]? = some x/\its[i]? = some v/\jy x v/\Is H (rD (rs.getD i [])) x:=λi L=>by
  have U:=p.mem L;obtain⟨x,y,M⟩:=g.get (i:=i) (d:=rD (rs.getD i [])) (by
   grind[List.getElem?_map,Zqg,Qj])
  obtain⟨v,N,O⟩:=m.get y;exact⟨x,v,y,N,O,M⟩
 refine⟨.ref l,upd H l (.lst (f.toList.map λi=>ys.getD i .non)),I.laid () c ⟨?_,f.toList.map (j8 its),e,?_,?_⟩,rfl,q l f.toList (I.hok.fresh c) () (CB xM p u)⟩
 .rw[Zql,p.len];lia
 .grind[j8,Xs,Qj]
 .rw[n]
  congr 3
  apply Vm;simp
def Wt (a d:Addr):HO:=.ext λh=>h.IsItemsView a d
def OR:rf X "dict.items" (λx c H Q=>∃d a,x=.ref d/\c=[]/\H d=some (.dK a)/\∀p,H p=none->Q (.ref p) (upd H p (Wt p d))):=by
 intro Y s Z H x c v n Q I f g h;obtain⟨d,a,rfl,rfl,i,q⟩:=h;obtain rfl:=f;obtain rfl:=ze g;obtain⟨z,lo,j,l,dd⟩:=Ck I.hok i;exact call_meetsIn PySem.F.slot_dict_items dd.typeIs PySem.F.entry_dict_items (PySem.F.args_dict_items_1 _) (meets_dict_items (Q0 X.prog X.w) d lo) ⟨⟨j,dd⟩,⟨.ref s.heap.objs.size,upd H s.heap.objs.size (Wt s.heap.objs.size d),I.laid (λb o e=>Zq _ e) (Zf _) (⟨⟨_,Zr _ rfl,rfl,rfl⟩,⟨_,Zr _ rfl⟩,λt u z m=>have ⟨o,e,r⟩:=z;⟨o,m o e,r⟩⟩),rfl,q _ (I.hok.fresh (Zf _))⟩⟩
def OS (hc:X.calm=true):jO X (.builtin "sorted") (λxs H Q=>∃j d r,xs=[.ref j]/\H j=some (Wt j d)/\H d=some (.dK (xy r))/\r ≠ []/\r.length<1000 /\
 ∀l L,(∀p∈L,H p.1=none)->(L.map (·.1)).Nodup->(∀G,Is (qH G L) (.list ((JS jW r).map pD)) (.ref l))->Q (.ref l) (qH H L)):=by
 intro Y s Z H xs us Q I rv h;obtain⟨j,d,r,rfl,hv,hd,R,h64,q⟩:=h;obtain⟨u,rfl,ru⟩:=Q6 rv;obtain rfl:u=Value.ref j:=ru;obtain⟨v,_,_⟩:=(show xL X.prog X.w H s.heap j (Wt j d) from I.hok j _ hv);obtain⟨z,lo,ws,F,od,es,ep,d1,d2,d3,d4,d5,d6⟩:=Ck I.hok hd;have lk:=F.length;have lr:(xy r).length=r.length:=Zql _;have S:s.heap.DictAt (Q0 X.prog X.w) d ws ep:=⟨od,es,d1,d2,d3,d4,d5,d6⟩;refine F9 (wc.wk λi=>r.getD i (0,0)) (W.kdx_collect (knd:=Q0 X.prog X.w) (I.ok.hd hc) v S (by rw[<- lk,lr];exact Ke ()) λh1 tk c T la G=>?_);have U:(c.map Value.ref).length=r.length:=by rw[Zql];lia
 have pa:∀h',(∀b o,h1.get? b=some o->h'.get? b=some o)->WL h' (c.map Value.ref) r:=λh' w=>by
  refine⟨U,λi p hp=>?_⟩;have f:i<c.length:=by
   have:=(Je.mp hp).1;lia
  obtain⟨A,k,x,g1,g2,g3⟩:=G.pairs i c[i] ();have kv:KV (xy r) ws:=F;have hk:(xy r)[i]? = some (Ue p.1,V.int p.2):=by unfold xy;rw[Zv,hp];rfl
  have J:∀{l1:List (j6×V)} {l2:List (j6×Value)} {i:Nat} {a:j6×V} {b:j6×Value},KV l1 l2->l1[i]? = some a->l2[i]? = some b->a.1=b.1/\jy a.2 b.2:=by
   intro l1 l2 i a b K;unfold KV at K
   induction K generalizing i with
   |nil=>intro e;simp at e
   |cons hh tt ih =>
    cases i with
    |zero =>
     intro n B;simp at n B;subst n B;exact hh
    |succ i =>
     intro n B;exact ih (by simpa using n) (by simpa using B)
  obtain⟨b1,b2⟩:=J kv hk g1;have b1:(Ue p.1:j6)=k:=b1;subst b1;obtain⟨t1,rfl⟩:=(show ∃t,x=Value.int p.2 t from b2);obtain⟨t0,rfl⟩:∃t,A=Value.int p.1 t:=by
   rcases KL (show WD (Ue p.1) A=true from g2) with ⟨i0,t,n,B⟩|⟨x0,t,n,B⟩
   .cases n;exact⟨t,B⟩
   .cases n
  exact⟨c[i],_,_,t0,t1,by rw[Zv,Zqg f];rfl,w _ _ g3,rfl,rfl⟩
 refine⟨(),λh' w h2=>ON (pa h' w) h2,λjx h' l p u w hl gl=>?_⟩;obtain⟨e,gl⟩:=gl;rw[U] at p u;have kk:∀b o,s.heap.get? b=some o->h'.get? b=some o:=λb o e=>w b o (T b o e);have M:∀a∈c,s.heap.objs.size<a:=G.above;have N:∀a∈c,a<l:=λa ha=>Zg (G.there ha) hl;have szl:s.heap.objs.size<=l:=by
  cases c with
  |nil=>exact Zn (Jq.mp (by rw[<- U];rfl)) R
  |cons a as'=>exact Zz (Uh (M a Zqs) (N a Zqs))
 obtain⟨L,hL⟩:∃L:List (Addr×HO),L=(l,.lst (jx.toList.map λi=>V.ref (c.getD i 0)))::(c.zip r).map λz=>(z.1,HO.tup [.int z.2.1,.int z.2.2]):=⟨_,rfl⟩;have g:L.map (·.1)=l::c:=by
  rw[hL,Zl,Zw];show l::(c.zip r).map (λz=>z.1)=_;rw[List.map_fst_zip ()]
 have nd:(L.map (·.1)).Nodup:=by
  rw[g];refine Jl.mpr ⟨λm=>Zy _ (N l m),?_⟩;exact G.rise.imp λhlt=>Zi hlt
 have O:∀p∈L,s.heap.objs.size<=p.1:=λp hp=>by
  have:p.1∈L.map (·.1):=Ja.mpr ⟨p,hp,rfl⟩;rw[g] at this;rcases UI.mp this with z|z
  .rw[z];exact szl
  .exact Zz (M _ z)
 have C:∀G (i:Nat) p,r[i]? = some p->qH G L (c.getD i 0)=some (.tup [.int p.1,.int p.2]):=λG i p hp=>by
  have f:i<c.length:=by
   have:=(Je.mp hp).1;lia
  refine FL nd ?_;rw[hL];refine Zqm _ (Ja.mpr ⟨(c[i],p),?_,by rw[Qj (Zqg f)]⟩);refine Uf (i:=i) ?_;rw[VS];exact⟨Zqg f,hp⟩
 refine⟨.ref l,qH H L,I.laidMany (t':=tk) kk O λy hy=>?_,rfl,q l L (λp hp=>I.hok.fresh (O p hp)) nd λG'=>?_⟩
 .rw[hL] at hy;rcases UI.mp hy with z'|z'
  .rw[z'];refine⟨?_,jx.toList.map (j8 (c.map Value.ref)),e,?_,?_⟩
   .rw[Zql,p.len];exact Ke ()
   .refine Xs λi f=>?_;have hn:=p.mem f;have P:i<c.length:=()
    unfold j8;rw[Qj (Zqg P),Qj (x:=Value.ref c[i]) (by rw[Zv,Zqg P];rfl)];rfl
   .rw[gl]
    congr 3
    apply Vm;simp
  .obtain⟨⟨a,p'⟩,hm,rfl⟩:=Ja.mp z';obtain⟨i,f⟩:=Jn.mp hm;rw[VS] at f;obtain⟨i1,i2⟩:=f;obtain⟨a',o',n',t',u',f1,f2,f3,f4⟩:=(pa h' w).2 i p' i2;rw[Zv,i1] at f1;cases f1;obtain⟨A,k,x,g1,g2,g3⟩:=G.pairs i a i1;have E:=w _ _ g3;rw[E] at f2;obtain rfl:=Zqi f2;exact⟨⟨(by show 2<=sizeLine;decide),_,E,rfl⟩,[.int p'.1 t',.int p'.2 u'],.cons ⟨t',rfl⟩ (.cons ⟨u',rfl⟩ .nil),_,E,rfl,n',f4⟩
 .rw[xC];refine⟨l,_,rfl,FL nd (by rw[hL];exact Zqs),?_⟩;rw[<- CB wc p u,Zw];refine FN λi f=>?_;have hn:=p.mem f;refine bQ.mpr ⟨c.getD i 0,rfl,?_⟩;have:=C G' i (r.getD i (0,0)) (by rw[Qj (Zqg hn)];exact Zqg hn);exact this
end
def qL (r:Jy)(t w:Int):Jy:=if(r.any λp=>decide (p.1=t))=true then r.map (λp=>if p.1=t then(p.1,w) else p) else r++[(t,w)]
def OT:decide ((Ue a:j6)=Ue b)=decide (a=b):=()
def OU (r)(t w):qC (xy r) (Ue t) (V.int w)=xy (qL r t w):=by
 have e:((xy r).any λa=>decide (a.1=Ue t))=r.any λp=>decide (p.1=t):=by
  unfold xy;rw[List.any_map]
  congr 1
  funext p
  exact OT
 unfold qC qL;rw[e]
 split
 .unfold xy;rw[Zw,Zw];apply U0;intro p _;by_cases c:p.1=t
  .simp[c]
  .simp[c]
 .unfold xy;rw[Uc];rfl
theorem A7 (p)(r)(t):J5 (p::r) t=match J5 r t with|some w=>some w|none=>if p.1=t then some p.2 else none:=rfl
def OV (r)(t w j):J5 (r.map λp=>if p.1=t then(p.1,w) else p) j=(J5 r j).map λx=>if j=t then w else x:=by
 induction r with
 |nil=>rfl
 |cons p r a =>
  grind[List.map_cons,A7,Option.map]
def OW (r)(t):(r.any λp=>decide (p.1=t))=(J5 r t).isSome:=by
 cases q:J5 r t with
 |none =>
  grind[Option.isSome_none,List.any_eq_false,Fb]
 |some w =>
  rw[Option.isSome_some,Vo];exact⟨_,Qn q,()⟩
def OX (r)(t w j):J5 (qL r t w) j=if j=t then some w else J5 r j:=by
 unfold qL;rw[OW];by_cases a:(J5 r t).isSome=true
 .rw[Zd a,OV];by_cases e:j=t
  .rw[Zd e,e];have ⟨x,b⟩:=Js.mp a;rw[b];simp
  simp_all
 .rw[Ze a,Fa];show(match (if t=j then some w else none) with|some w=>some w|none=>J5 r j)=_
  grind
def OY (r)(t w):(qL r t w).map (·.1)=if(r.any λp=>decide (p.1=t))=true then r.map (·.1) else r.map (·.1)++[t]:=by
 grind[qL,List.map_map,List.map_append,List.map_congr_left]
def OZ (h:j4 r):j4 (qL r t w):=by
 unfold j4;rw[OY]
 split
 .exact h
 .rename_i c;unfold j4 at h;rw[List.nodup_append];refine⟨h,(),λa g b f=>?_⟩;simp at f;subst f;rintro rfl;obtain⟨p,hp,e⟩:=Ja.mp g;exact c (Vo.mpr ⟨p,hp,by simp[e]⟩)
def Pa (r)(t w):(qL r t w).length<=r.length+1:=by
 grind[qL,Zql,List.length_append]
theorem FP:∀r b,WG (xy b) (xy r)=xy (r.foldl (λa p=>qL a p.1 p.2) b)
 | [],b=>rfl
 |p::r,b=>by
  have e:WG (xy b) (xy (p::r))=WG (qC (xy b) (Ue p.1) (V.int p.2)) (xy r):=rfl;rw[e,OU,FP r];rfl
theorem FQ:∀r b,j4 (b++r)->r.foldl (λa p=>qL a p.1 p.2) b=b++r
 | [],b,_=>by simp
 |p::r,b,h=>by
  have c:(b.any λq=>decide (q.1=p.1))=false:=by
   grind[j4,List.any_eq_false,List.map_append,List.nodup_append]
  have e:qL b p.1 p.2=b++[p]:=by
   unfold qL;rw[c];simp
  rw[U7,e,FQ r (b++[p]) (),Ug];rfl
def jw:Option Int->Option Int->Option Int
 |none,b=>b
 |some x,none=>some x
 |some x,some y=>some (if x > y then x else y)
def V3 (a:Jy)(p:Int×Int):Jy:=qL a p.1 (if(J5 a p.1).getD p.2 > p.2 then(J5 a p.1).getD p.2 else p.2)
def Qr (r o:Jy):Jy:=o.foldl V3 r
def Pb (acc)(p)(t):J5 (V3 acc p) t=if t=p.1 then jw (J5 acc t) (some p.2) else J5 acc t:=by
 unfold V3;rw[OX];by_cases e:t=p.1
 .rw[Zd e,Zd e,e];cases J5 acc p.1 with
  |none=>simp[jw]
  |some x=>simp[jw]
 simp_all
theorem A8 (t):∀o r,j4 o->J5 (Qr r o) t=jw (J5 r t) (J5 o t)
 | [],r,_=>by
  show J5 r t=jw (J5 r t) none;cases J5 r t<;>rfl
 |p::o,r,h=>by
  have ⟨a,b⟩:=Jl.mp (h);have e:Qr r (p::o)=Qr (V3 r p) o:=rfl;rw[e,A8 t o _ b,Pb,A7];by_cases c:t=p.1
  .have n:J5 o t=none:=by
    cases q:J5 o t with
    |none=>rfl
    |some w=>exact Zn (Ja.mpr ⟨_,Qn q,c⟩) a
   rw[Zd c,n,Zd c.symm];cases jw (J5 r t) (some p.2)<;>rfl
  grind
theorem A9:∀o r,j4 r->j4 (Qr r o)
 | [],r,h=>h
 |p::o,r,h=>A9 o _ (OZ h)
theorem CD:∀o r,(Qr r o).length<=r.length+o.length
 | [],r=>Zf _
 |p::o,r=>by
  have a:=CD o (V3 r p);have b:(V3 r p).length<=r.length+1:=Pa _ _ _;show(Qr (V3 r p) o).length<=_
  grind
def FR (h:r ≠ [])(b:j4 o):Qr r o ≠ []:=by
 intro z;cases r with
 |nil=>exact h rfl
 |cons p r =>
  have q:=A8 p.1 o (p::r) b;rw[z] at q;have:∃x,J5 (p::r) p.1=some x:=by
   grind[A7]
  obtain⟨x,c⟩:=this;rw[c] at q;cases a:J5 o p.1 with
  |none=>rw[a] at q;exact J3 q
  |some y=>rw[a] at q;exact J3 q
def FU (h:j4 r):(t,w)∈r↔J5 r t=some w:=⟨λm=>h.look m,Qn⟩
theorem WM {α: Type}{ltb:α -> α -> Bool}(T:Tot ltb):∀{a b:List α},a.Pairwise (λx y=>ltb x y=true)->b.Pairwise (λx y=>ltb x y=true)->(∀x,x∈a↔x∈b)->a=b
 | [],[],_,_,_=>rfl
 | [],y::b,_,_,h=>by
  cases ((h y).mpr Zqs)
 |x::a,[],_,_,h=>by
  cases ((h x).mp Zqs)
 |x::a,y::b,ha,hb,h=>by
  obtain⟨f,g⟩:=Ji.mp ha;obtain⟨c,i⟩:=Ji.mp hb;have e:x=y:=by
   rcases UI.mp ((h x).mp Zqs) with z|z
   .exact z
   .rcases UI.mp ((h y).mpr Zqs) with u|u
    .exact u.symm
    .have:=T.asy _ _ (c x z)
     simp_all
  subst e
  congr 1
  refine WM T g i λz=>⟨λhz=>?_,λhz=>?_⟩
  .rcases UI.mp ((h z).mp (Zqm _ hz)) with u|u
   .rw[u] at hz;have:=f x hz;rw[T.irr] at this;exact JD this
   lia
  .rcases UI.mp ((h z).mpr (Zqm _ hz)) with u|u
   .rw[u] at hz;have:=c x hz;rw[T.irr] at this;exact JD this
   lia
theorem FV {α β: Type}(f:α -> β):∀{l:List α},(l.map f).Nodup->l.Nodup
 | [],_=>VB
 |x::r,h=>by
  rw[Zl,List.nodup_cons] at h;exact Jl.mpr ⟨(),FV f h.2⟩
def Pc (h:j4 r):(JS jW r).Pairwise λx y=>jW x y=true:=by
 refine(List.Pairwise.and (WK wc r) ((Q1 r).nodup_iff.mpr (FV (λp:Int×Int=>p.1) h))).imp λ{x y} z=>?_;cases q:jW x y with
 |true=>rfl
 |false=>exact Zn (wc.tot _ _ q z.1) z.2
end L2
namespace L2.DL
def CF {c:Prop}{_:Decidable c}{α: Type}{a z:α}(h:(if c then some a else none)=some z):c/\a=z:=()
inductive D where
 |non|bl (b:Bool)|int (i:Int)|str (x:Str)|ty (n:String)|scr (ns:Yh)
 |tup (ds:List D)|lst (ds:List D)|dct (ks:List j6) (ds:List D)|ins (c:Str) (fs:Yk) (ds:List D)
 |exc (c:Str)|ucl (c:Str)
 |adr (a:Addr)|dcf (ks:List j6) (ds:List D)
 |pin (a:Addr) (d:D)
abbrev _root_.YG:=List D
abbrev _root_.YH:=Option D
inductive Res (α: Type) where
 |ok (a:α)|ex (c:Str) (fs:YG)|no
noncomputable def Res.bind {α β: Type}(r:Res α)(g:α -> Res β):Res β:= match r with
 | .ok a=>g a
 | .ex c fs=>.ex c fs
 | .no=>.no
def Res.need {α: Type}(r:Res α)(p:α -> Prop)(q:Str->YG->Prop):Prop:=match r with
 | .ok a=>p a
 | .ex c fs=>q c fs
 | .no=>False
@[simp]theorem jt {α β: Type}(a)(g:α -> Res β):(Res.ok a).bind g=g a:=rfl
@[simp]def ve {α β: Type}(c)(fs)(g:α -> Res β):(Res.ex c fs:Res α).bind g=.ex c fs:=rfl
@[simp]def vd {α β: Type}(g:α -> Res β):(Res.no:Res α).bind g=.no:=rfl
def ja {α β: Type}{r:Res α}{g:α -> Res β}{p:β -> Prop}(h:(r.bind g).need p q):r.need (λa=>(g a).need p q) q:=by
 cases r<;>exact h
def Res.need.mono {α: Type}{r:Res α}{p b: α -> Prop}(h:r.need p q)(hp:∀a,p a->b a)(e:∀c fs,q c fs->q' c fs):r.need b q':=by
 cases r with
 |ok a=>exact hp a h
 |ex c fs=>exact e c fs h
 |no=>exact h
def Res.need.monoE {α: Type}{r:Res α}{p b: α -> Prop}(h:r.need p q)(hp:∀a,r=.ok a->p a->b a)(e:∀c fs,q c fs->q' c fs):r.need b q':=by
 cases r with
 |ok a=>exact hp a rfl h
 |ex c fs=>exact e c fs h
 |no=>exact h
def fN (C x:Addr):HO:=.ext λh=>∃o,h.get? x=some o/\o.cls=.ref C
def xZ (_:W.Frag)(H:Hp)(a:Addr)(b:YE):Prop:=H a=some (.tup b)
def xZ.same {K:W.Frag}{H b:Hp}{a:Addr}{c:YE}(e:jl H b)(h:xZ K H a c):xZ K b a c:=e _ _ h
def xZ.of {K:W.Frag}{H:Hp}{a:Addr}{b:YE}(h:H a=some (.tup b)):xZ K H a b:=h
def xZ.sq {K:W.Frag}{H:Hp}{a:Addr}{b:YE}(h:xZ K H a b):yk K H a b:=yk.of h
def xb (_:W.Frag)(H:Hp)(a:Addr)(b:YE):Prop:=Rd H a (.lst b)
def xb.same {K:W.Frag}{H b:Hp}{a:Addr}{c:YE}(e:jl H b)(h:xb K H a c):xb K b a c:=h.imp (λq=>e _ _ q) λ⟨o,q⟩=>⟨o,e _ _ q⟩
def xb.of {K:W.Frag}{H:Hp}{a:Addr}{b:YE}(h:H a=some (.lst b)):xb K H a b:=.inl h
def xb.sq {K:W.Frag}{H:Hp}{a:Addr}{b:YE}(h:xb K H a b):qE K H a b:=.inl h
section
variable (K:W.Frag)
mutual
def jf (H:Hp):D->V->Prop
 | .non,v=>v=.non
 | .bl b,v=>v=.bl b
 | .int i,v=>v=.int i
 | .str x,v=>v=.str x
 | .ty n,v=>v=.ty n
 | .scr ns,v=>∃a,v=.ref a/\qE K H a (ns.map V.int)
 | .tup ds,v=>∃a e,v=.ref a/\xZ K H a e/\jd H ds e
 | .lst ds,v=>∃a e,v=.ref a/\xb K H a e/\jd H ds e
 | .dct ks ds,v=>∃a e,v=.ref a/\H a=some (.dK (ks.zip e))/\ks.length=e.length/\jd H ds e
 | .ins c fs ds,v=>∃a C f e,v=.ref a/\W.nsIn K mainGlobals c=some (some (.ref C))/\H a=some (.ins C f (fs.zip e))/\fs.length=e.length/\jd H ds e
 | .exc c,v=>∃a C,v=.ref a/\W.nsIn K mainGlobals c=some (some (.ref C))/\H a=some (fN C a)
 | .ucl c,v=>∃C,v=.ref C/\W.nsIn K mainGlobals c=some (some (.ref C))
 | .adr a,v=>v=.ref a
 | .dcf ks ds,v=>∃a o e,v=.ref a/\H a=some (.frz o (.dK (ks.zip e)))/\ks.length=e.length/\jd H ds e
 | .pin a d,v=>v=.ref a/\jf H d v
def jd (H:Hp):YG->YE->Prop
 | [],xs=>xs=[]
 |d::ds,xs=>∃x r,xs=x::r/\jf H d x/\jd H ds r
end
end
section
variable {K:W.Frag}{H H':Hp}
def j9:jf K H .non v↔v=.non:=.rfl
def jp:jf K H (.bl b) v↔v=.bl b:=.rfl
def je:jf K H (.int i) v↔v=.int i:=.rfl
def ju:jf K H (.str x) v↔v=.str x:=.rfl
def xf:jf K H (.ty n) v↔v=.ty n:=.rfl
def qs:jf K H (.scr ns) v↔∃a,v=.ref a/\qE K H a (ns.map V.int):=.rfl
theorem j1:jf K H (.tup ds) v↔∃a b,v=.ref a/\xZ K H a b/\jd K H ds b:=.rfl
theorem jk:jf K H (.lst ds) v↔∃a b,v=.ref a/\xb K H a b/\jd K H ds b:=.rfl
def qa:jf K H (.dct ks ds) v↔∃a b,v=.ref a/\H a=some (.dK (ks.zip b))/\ks.length=b.length/\jd K H ds b:=.rfl
def jZ:jf K H (.ins c fs ds) v↔∃a C e b,v=.ref a/\W.nsIn K mainGlobals c=some (some (.ref C))/\H a=some (.ins C e (fs.zip b))/\fs.length=b.length/\jd K H ds b:=.rfl
def qU:jf K H (.exc c) v↔∃a C,v=.ref a/\W.nsIn K mainGlobals c=some (some (.ref C))/\H a=some (fN C a):=.rfl
def yB:jf K H (.ucl c) v↔∃C,v=.ref C/\W.nsIn K mainGlobals c=some (some (.ref C)):=.rfl
def qb:jf K H (.adr a) v↔v=.ref a:=.rfl
def qw:jf K H (.dcf ks ds) v↔∃a o b,v=.ref a/\H a=some (.frz o (.dK (ks.zip b)))/\ks.length=b.length/\jd K H ds b:=.rfl
def qu:jf K H (.pin a d) v↔v=.ref a/\jf K H d v:=.rfl
def jd.nil_iff:jd K H [] xs↔xs=[]:=.rfl
theorem js:jd K H (d::ds) xs↔∃x r,xs=x::r/\jf K H d x/\jd K H ds r:=.rfl
mutual
theorem jf.same (e:jl H H'):∀d v,jf K H d v->jf K H' d v
 | .non,_,h=>h
 | .bl _,_,h=>h
 | .int _,_,h=>h
 | .str _,_,h=>h
 | .ty _,_,h=>h
 | .scr _,_,h=>by
  obtain⟨a,f,g⟩:=qs.mp h;exact qs.mpr ⟨a,f,jl.seq e g⟩
 | .tup ds,_,h=>by
  obtain⟨a,b,f,g,i⟩:=j1.mp h;exact j1.mpr ⟨a,b,f,g.same e,jd.same e ds b i⟩
 | .lst ds,_,h=>by
  obtain⟨a,b,f,g,i⟩:=jk.mp h;exact jk.mpr ⟨a,b,f,g.same e,jd.same e ds b i⟩
 | .dct ks ds,_,h=>by
  obtain⟨a,b,f,g,j,i⟩:=qa.mp h;exact qa.mpr ⟨a,b,f,e _ _ g,j,jd.same e ds b i⟩
 | .ins c fs ds,_,h=>by
  obtain⟨a,C,l,b,f,m,g,j,i⟩:=jZ.mp h;exact jZ.mpr ⟨a,C,l,b,f,m,e _ _ g,j,jd.same e ds b i⟩
 | .exc _,_,h=>by
  obtain⟨a,C,f,g,i⟩:=qU.mp h;exact qU.mpr ⟨a,C,f,g,e _ _ i⟩
 | .ucl _,_,h=>h
 | .adr _,_,h=>h
 | .dcf ks ds,_,h=>by
  obtain⟨a,o,b,f,g,j,i⟩:=qw.mp h;exact qw.mpr ⟨a,o,b,f,e _ _ g,j,jd.same e ds b i⟩
 | .pin a d,v,h=>qu.mpr ⟨(qu.mp h).1,jf.same e d v (qu.mp h).2⟩
theorem jd.same (e:jl H H'):∀ds a,jd K H ds a->jd K H' ds a
 | [],_,h=>h
 |d::ds,_,h=>have ⟨x,r,b,c,f⟩:=js.mp h;js.mpr ⟨x,r,b,jf.same e d x c,jd.same e ds r f⟩
end
def jd.mk (h:jf K H d x)(r:jd K H ds xs):jd K H (d::ds) (x::xs):=js.mpr ⟨x,xs,rfl,h,r⟩
def jd.nil:jd K H [] []:=jd.nil_iff.mpr rfl
theorem jd.length:∀{ds:YG} {a:YE},jd K H ds a->a.length=ds.length
 | [],a,h=>by simp_all [jd.nil_iff]
 |d::ds,a,h=>by
  obtain⟨x,r,rfl,_,b⟩:=h;rw[Zu,Zu,jd.length b]
theorem jd.get:∀{ds:YG} {a:YE} {i:Nat} {d:D},jd K H ds a->ds[i]? = some d->∃x,a[i]? = some x/\jf K H d x
 | [],_,_,_,_,e=>J3 e
 |d::ds,a,i,e,h,q=>by
  obtain⟨x,r,rfl,c,b⟩:=h;cases i with
  |zero=>simp_all
  |succ i=>exact jd.get (i:=i) b q
def jd.getV {ds:YG}{a:YE}{i:Nat}{x:V}(h:jd K H ds a)(q:a[i]? = some x):∃d,ds[i]? = some d/\jf K H d x:=by
 have c:=h.length;have b:i<ds.length:=();obtain⟨y,e,f⟩:=h.get (Zqg b)
 simp_all
theorem jd.append:∀{ds es:YG} {a ys:YE},jd K H ds a->jd K H es ys->jd K H (ds++es) (a++ys)
 | [],_,a,_,h,h'=>by simp_all [jd.nil_iff]
 |d::ds,_,a,_,h,h'=>by
  obtain⟨x,r,rfl,b,c⟩:=h;exact jd.mk b (jd.append c h')
def jd.snoc (h:jd K H ds xs)(h':jf K H d x):jd K H (ds++[d]) (xs++[x]):=h.append (.mk h' .nil)
theorem jd.set:∀n {ds:YG} {a:YE} {d:D} {x:V},jd K H ds a->jf K H d x->jd K H (ds.set n d) (a.set n x)
 |_,[],a,_,_,h,_=>by simp_all [jd.nil_iff]
 | 0,d::ds,a,_,_,h,q=>by
  grind[js]
 |n+1,d::ds,a,_,_,h,q=>by
  obtain⟨x,r,rfl,b,c⟩:=h;exact jd.mk b (jd.set n c q)
theorem qh:∀(ns:Yh),jd K H (ns.map D.int) (ns.map V.int)
 | []=>.nil
 |n::ns=>.mk (je.mpr rfl) (qh ns)
theorem q9:∀{ns:Yh} {a:YE},jd K H (ns.map D.int) a->a=ns.map V.int
 | [],_,h=>jd.nil_iff.mp h
 |n::ns,a,h=>by
  obtain⟨x,r,rfl,b,c⟩:=h;rw[b,q9 c];rfl
end
structure Ext (F H F' H':Hp):Prop where
 ff:jl F F'
 fh:jl F' H'
 hh:jl H H'
 new:∀a,F a=none->H a≠none->F' a=none
theorem Ext.refl (h:jl F H):Ext F H F H:=⟨.refl _,h,.refl _,λ_ e _=>e⟩
theorem Ext.trans (a:Ext F H F1 H1)(b:Ext F1 H1 F2 H2):Ext F H F2 H2:=
 ⟨a.ff.trans b.ff,b.fh,a.hh.trans b.hh,λx e n=>b.new x (a.new x e n) (by
  cases q:H x with
  |none=>exact Zn q n
  |some o=>rw[a.hh _ _ q];simp)⟩
def Qk (h:jl F H)(hp:H p=none):F p=none:=h.free hp
def qF (h:jl F H)(hp:H p=none)(o):Ext F H (upd F p o) (upd H p o):=
 ⟨K4 (h.free hp) o,λb u e=>by
  by_cases q:b=p
  .simp_all [JK]
  .rw[JG q] at e ⊢;exact h _ _ e,K4 hp o,λa e n=>by
  have q:a≠p:=by grind
  rwa [JG q]⟩
def Ext.keep (h:jl F H)(hp:H p=none)(o):Ext F H F (upd H p o):=
 ⟨.refl _,h.trans (K4 hp o),K4 hp o,λ_ e _=>e⟩
def Ext.grow (h:jl F H)(a:jl H H'):Ext F H F H':=⟨.refl _,h.trans a,a,λ_ e _=>e⟩
inductive SV where
 |val (d:D)|own (p:Bool) (d:D)
structure Bs where
 F0:Hp
 H0:Hp
 pa:Nat->Option (Addr×YE)
abbrev SD:=List (Option SV)
def yC (K:W.Frag)(F H:Hp)(l:Addr):D->Prop
 | .lst ds=>∃a,H l=some (.lst a)/\jd K F ds a
 | .dct ks ds=>∃a,H l=some (.dK (ks.zip a))/\ks.length=a.length/\jd K F ds a
 | .ins c fs ds=>∃C b a,W.nsIn K mainGlobals c=some (some (.ref C))/\H l=some (.ins C b (fs.zip a))/\fs.length=a.length/\jd K F ds a
 |_=>False
def yC.has {K:W.Frag}{F H:Hp}{l:Addr}{d:D}(h:yC K F H l d):∃o,H l=some o:=by
 cases d with
 |lst ds=>have ⟨a,e,_⟩:=h;exact⟨_,e⟩
 |dct ks ds=>have ⟨a,e,_⟩:=h;exact⟨_,e⟩
 |ins c fs ds=>have ⟨C,b,a,_,e,_⟩:=h;exact⟨_,e⟩
 |_=>exact False.elim h
def yC.ext {K:W.Frag}{F H g i:Hp}{l:Addr}{d:D}(h:yC K F H l d)(b:jl F g)(f:∀o,H l=some o->i l=some o):yC K g i l d:=by
 cases d with
 |lst ds=>have ⟨a,e,q⟩:=h;exact⟨a,f _ e,jd.same b _ _ q⟩
 |dct ks ds=>obtain⟨a,e,z,q⟩:=h;exact⟨a,f _ e,z,jd.same b _ _ q⟩
 |ins c fs ds=>obtain⟨C,j,a,k,e,z,q⟩:=h;exact⟨C,j,a,k,f _ e,z,jd.same b _ _ q⟩
 |_=>exact False.elim h
def yC.frz {K:W.Frag}{F H:Hp}{l:Addr}{d:D}{o:HO}(h:yC K F H l d)(e:H l=Option.some o)(n:F l=none):jf K (upd F l o) d (.ref l):=by
 cases d with
 |lst ds =>
  have ⟨b,a,q⟩:=h;rw[e] at a;obtain rfl:=Zqi a;exact jk.mpr ⟨l,b,rfl,.of JK,jd.same (K4 n _) _ _ q⟩
 |dct ks ds =>
  obtain⟨b,a,z,q⟩:=h;rw[e] at a;obtain rfl:=Zqi a;exact qa.mpr ⟨l,b,rfl,JK,z,jd.same (K4 n _) _ _ q⟩
 |ins c fs ds =>
  obtain⟨C,f,b,k,a,z,q⟩:=h;rw[e] at a;obtain rfl:=Zqi a;exact jZ.mpr ⟨l,C,f,b,rfl,k,JK,z,jd.same (K4 n _) _ _ q⟩
 |_=>exact False.elim h
def fR (H:Hp)(l:Addr)(o:Option (Addr×YE)):Prop:=∃a,o=some (l,a)/\H l=some (.lst a)
structure RS (K:W.Frag)(B:Bs)(F H:Hp)(sd:SD)(Z: St):Prop where
 ext:Ext B.F0 B.H0 F H
 len:Z.length=sd.length
 val:∀{i:Nat} {d:D},sd[i]? = some (~~~d)->∃v,Z[i]? = some (some v)/\jf K F d v
 own:∀{i:Nat} {p:Bool} {d:D},sd[i]? = some (some (.own p d))->∃l,Z[i]? = some (some (.ref l))/\B.H0 l=none/\F l=none/\yC K F H l d/\(p=true->fR H l (B.pa i))
 apart:∀{i j:Nat} {p q:Bool} {d e:D} {l:Addr},i≠j->sd[i]? = some (some (.own p d))->sd[j]? = some (some (.own q e)) -> Z[i]? = some (some (.ref l)) -> Z[j]? ≠ some (some (.ref l))
section
variable {K:W.Frag}{B:Bs}{F H F' H':Hp}{sd:SD}{Z: St}
def fR.mono (h:fR H l o)(k:∀u,H l=some u->H' l=some u):fR H' l o:=let ⟨xs,h1,h2⟩:=h;⟨xs,h1,k _ h2⟩
def RS.step (r:RS K B F H sd Z)(e:Ext F H F' H'):RS K B F' H' sd Z where
 ext:=r.ext.trans e
 len:=r.len
 val:=λh=>let ⟨v,a,b⟩:=r.val h;⟨v,a,jf.same e.ff _ _ b⟩
 own:=λh=>by
  obtain⟨l,a,b,f,c,g⟩:=r.own h;obtain⟨o,i⟩:=c.has;exact⟨l,a,b,e.new l f (),c.ext e.ff λo q=>e.hh _ _ q,λp=>(g p).mono λu q=>e.hh _ _ q⟩
 apart:=r.apart
def QM {α: Type}{l:List α}{a:α}(h:i≠j):(l.set i a)[j]? = l[j]?:= Zx h
def V4 {α: Type}{l:List α}{a b:α}(h:(l.set i a)[i]? = some b):b=a/\i<l.length:=()
def RS.setVal (r:RS K B F H sd Z)(h:jf K F d v):RS K B F H (sd.set i (~~~d)) (Z.set i (some v)) where
 ext:=r.ext
 len:=by rw[Vd,Vd,r.len]
 val:=λ{j e} q=>by
  by_cases z:i=j
  .subst z;obtain⟨a,o⟩:=V4 q;cases a;exact⟨v,UQ (by rwa [r.len]),h⟩
  .rw[QM z] at q ⊢;exact r.val q
 own:=λ{j p e} q=>by
  by_cases z:i=j
  .subst z;obtain⟨a,_⟩:=V4 q;cases a
  .rw[QM z] at q ⊢;exact r.own q
 apart:=λ{j k s t u w l} n b c f=>by
  have g:i≠j:=λz=>by subst z;obtain⟨a,_⟩:=V4 b;cases a
  have m:i≠k:=λz=>by subst z;obtain⟨a,_⟩:=V4 c;cases a
  rw[QM g] at b f;rw[QM m] at c ⊢;exact r.apart n b c f
def RS.setOwn (r:RS K B F H sd Z)(u:B.H0 l=none)(v:F l=none)(h:yC K F H l d)(g:∀(j:Nat) p e,sd[j]? = some (some (SV.own p e)) -> Z[j]? ≠ some (some (.ref l))):
 RS K B F H (sd.set i (some (.own false d))) (Z.set i (some (.ref l))) where
 ext:=r.ext
 len:=by rw[Vd,Vd,r.len]
 val:=λ{j e} q=>by
  by_cases z:i=j
  .subst z;obtain⟨f,_⟩:=V4 q;cases f
  .rw[QM z] at q ⊢;exact r.val q
 own:=λ{j p e} q=>by
  by_cases z:i=j
  .subst z;obtain⟨f,o⟩:=V4 q;cases f;exact⟨l,UQ (by rwa [r.len]),u,v,h,λz=>by cases z⟩
  .rw[QM z] at q ⊢;exact r.own q
 apart:=λ{j k w x y A m} n c a b=>by
  by_cases s:i=j
  .subst s;obtain⟨_,o⟩:=V4 c;rw[QM n] at a ⊢;rw[UQ (by rwa [r.len])] at b;cases b;exact g k x A a
  .rw[QM s] at c b;by_cases t:i=k
   .subst t;obtain⟨_,o⟩:=V4 a;rw[UQ (by rwa [r.len])];intro e;cases e;exact g j w y c b
   .rw[QM t] at a ⊢;exact r.apart n c a b
def RS.chg {i:Nat}{p:Bool}{d d':D}{l:Addr}{o:HO}(r:RS K B F H sd Z)(a:sd[i]? = some (some (.own p d)))(b:Z[i]? = some (some (.ref l)))(h:yC K F (upd H l o) l d'):
 RS K B F (upd H l o) (sd.set i (some (.own false d'))) Z:= by
 obtain⟨N,c,t,v,_,_⟩:=r.own a;rw[b] at c;cases c;have w:i<sd.length:=by grind
 refine⟨⟨r.ext.ff,Cu o r.ext.fh v,Cu o r.ext.hh t,r.ext.new⟩,by rw[Vd,r.len],λ{j e} q=>?_,λ{j p e} q=>?_,λ{j k f s O P m} n x y A=>?_⟩
 .by_cases z:i=j
  .simp_all
  .rw[QM z] at q;exact r.val q
 .by_cases z:i=j
  .simp_all
  .rw[QM z] at q;obtain⟨m,C,m2,E,G,I⟩:=r.own q;have ne:m≠l:=λe=>r.apart z a q b (by rwa [<- e]);exact⟨m,C,m2,E,G.ext (.refl _) λu J=>by rwa [JG ne],λp=>(I p).mono λu J=>by rwa [JG ne]⟩
 .have g:∀{j:Nat} {p:Bool} {e:D},(sd.set i (some (.own false d')))[j]? = some (some (.own p e))->∃L M,sd[j]? = some (some (.own L M)):=by grind
  have ⟨_,_,f⟩:=g x;have ⟨_,_,s⟩:=g y;exact r.apart n f s A
def RS.frz1 (r:RS K B F H sd Z)(h:sd[i]? = some (some (.own p d))):∃F',jl F F'/\RS K B F' H (sd.set i (~~~d)) Z:= by
 obtain⟨l,s,P,t,w,_⟩:=r.own h;obtain⟨o,e⟩:=w.has;have y:i<sd.length:=();have c:=K4 t o;refine⟨upd F l o,c,⟨r.ext.ff.trans c,λb u q=>?_,r.ext.hh,λa f g=>?_⟩,by rw[Vd,r.len],λ{j x} q=>?_,λ{j p x} q=>?_,λ{j k Q R S T m} n f g A=>?_⟩
 .by_cases z:b=l
  .simp_all [JK]
  .rw[JG z] at q;exact r.ext.fh _ _ q
 .have z:a≠l:=by grind
  rw[JG z];exact r.ext.new a f g
 .by_cases z:i=j
  .subst z;obtain⟨C,_⟩:=V4 q;cases C;exact⟨_,s,w.frz e t⟩
  .rw[QM z] at q;have ⟨v,E,G⟩:=r.val q;exact⟨v,E,jf.same c _ _ G⟩
 .by_cases z:i=j
  .simp_all
  .rw[QM z] at q;obtain⟨m,I,m2,U,J,L⟩:=r.own q;have ne:m≠l:=λe=>r.apart z h q s (by rwa [<- e]);exact⟨m,I,m2,by rwa [JG ne],J.ext c λu M=>M,L⟩
 .have N:i≠j:=λz=>by simp_all
  have O:i≠k:=λz=>by simp_all
  rw[QM N] at f;rw[QM O] at g;exact r.apart n f g A
def qz:Yj->SD->SD
 | [],sd=>sd
 |i::is,sd=>qz is (match sd[i]? with
  |some (some (.own _ d))=>sd.set i (~~~d)
  |_=>sd)
theorem RS.frz:∀is {F:Hp} {sd:SD},RS K B F H sd Z -> ∃F',jl F F'/\RS K B F' H (qz is sd) Z
 | [],F,sd,r=>⟨F,.refl _,r⟩
 |i::is,F,sd,r=>by
  unfold qz
  split
  .rename_i p d h;obtain⟨g,a,b⟩:=r.frz1 h;obtain⟨c,e,f⟩:=RS.frz is b;exact⟨c,a.trans e,f⟩
  .exact RS.frz is r
end
def fO (K:W.Frag)(F H:Hp)(c:Str)(fs:YG)(b:Value)(a:Option Addr):Prop:=
 ∃C,b=.ref C/\W.nsIn K mainGlobals c=some (some (.ref C))/\(fs=[]\/∃p n d x,fs=[d]/\a=some p/\H p=some (.xd [(n,x)])/\jf K F d x)
def XW (K:W.Frag)(E:XK)(F H:Hp)(c:Str)(fs:YG):Prop:=∀e a f b,Ext F H f b->fO K f b c fs e a->E e a b
def XW.ext {K:W.Frag}{E:XK}{F H b f:Hp}{c:Str}{fs:YG}(h:XW K E F H c fs)(e:Ext F H b f):XW K E b f c fs:=λg a i j l q=>h g a i j (e.trans l) q
abbrev FE:=SD->Res D
abbrev FT:=SD->Res Bool
abbrev FA:=SD->Res YG
def yu (K:W.Frag)(F H:Hp)(Q:VK)(d:D):Prop:=∀v a b,Ext F H a b->jf K a d v->Q v b
def v0 (F H:Hp)(Q:Bool->Hp->Prop)(b:Bool):Prop:=∀c a,Ext F H c a->Q b a
def pO (K:W.Frag)(F H:Hp)(Q:YE->Hp->Prop)(ds:YG):Prop:=∀a b c,Ext F H b c->jd K b ds a->Q a c
def xP (K:W.Frag)(F H:Hp)(Q:VK)(d:D):Prop:=∀l a b,Ext F H a b->H l=none->a l=none->yC K a b l d->Q (.ref l) b
def tD (K:W.Frag)(E:XK)(f:FE):TE:=λZ H Q=>∃B F sd,RS K B F H sd Z /\ (f sd).need (yu K F H Q) (XW K E F H)
def fW (K:W.Frag)(E:XK)(f:FT):TT:=λZ H Q=>∃B F sd,RS K B F H sd Z /\ (f sd).need (v0 F H Q) (XW K E F H)
def r9 (K:W.Frag)(E:XK)(f:FA):TA:=λZ H Q=>∃B F sd,RS K B F H sd Z /\ (f sd).need (pO K F H Q) (XW K E F H)
def v9 (K:W.Frag)(E:XK)(f:FE):TE:=λZ H Q=>∃B F sd,RS K B F H sd Z /\ (f sd).need (xP K F H Q) (XW K E F H)
abbrev QE (X:Cx)(E:XK)(e:Expr)(f:FE):Prop:=PE X e (tD X.K E f)
abbrev QT (X:Cx)(E:XK)(e:Expr)(f:FT):Prop:=PT X e (fW X.K E f)
abbrev QW (X:Cx)(E:XK)(e:Expr)(f:FT):Prop:=PW X e (fW X.K E f)
abbrev QA (X:Cx)(E:XK)(es:Ym)(f:FA):Prop:=PA X es (r9 X.K E f)
abbrev QN (X:Cx)(E:XK)(e:Expr)(f:FE):Prop:=PE X e (v9 X.K E f)
def PE.weak (h:PE X e t)(w:∀Z H Q,t' Z H Q->t Z H Q):PE X e t':=λY s Z H Q I q=>h Y s Z H Q I (w _ _ _ q)
def PT.weak (h:PT X e t)(w:∀Z H Q,t' Z H Q->t Z H Q):PT X e t':=λY s Z H Q I q=>h Y s Z H Q I (w _ _ _ q)
def PW.weak (h:PW X e t)(w:∀Z H Q,t' Z H Q->t Z H Q):PW X e t':=λa Y s Z H Q I q=>h a Y s Z H Q I (w _ _ _ q)
def PA.weak (h:PA X e t)(w:∀Z H Q,t' Z H Q->t Z H Q):PA X e t':=λa Y s Z H Q I q=>h a Y s Z H Q I (w _ _ _ q)
def PS.weak (h:PS X e t)(w:∀D Z H,t' D Z H->t D Z H):PS X e t':=λY s Z H D I q=>h Y s Z H D I (w _ _ _ q)
def qO.weak (h:qO X e t)(w:∀D Z H,t' D Z H->t D Z H):qO X e t':=λY s Z H D I q=>h Y s Z H D I (w _ _ _ q)
def PI.weak (h:PI X tg e t)(w:∀Z H R,t' Z H R->t Z H R):PI X tg e t':=λY s Z H R I q=>h Y s Z H R I (w _ _ _ q)
section
variable {K:W.Frag}{E:XK}{F H F' H':Hp}
def yu.ext (h:yu K F H Q d)(e:Ext F H F' H'):yu K F' H' Q d:=λv a b c q=>h v a b (e.trans c) q
def v0.ext (h:v0 F H Q b)(e:Ext F H F' H'):v0 F' H' Q b:=λa c f=>h a c (e.trans f)
def xP.ext (h:xP K F H Q d)(e:Ext F H F' H'):xP K F' H' Q d:=λl a b c q=>h l a b (e.trans c) (Qk e.hh q)
def AA {Q:VK}{r:Res D}(h:r.need (yu K F H Q) (XW K E F H))(e:Ext F H F' H'):r.need (yu K F' H' Q) (XW K E F' H'):=h.mono (λ_ q=>q.ext e) λ_ _ q=>q.ext e
def FW {Q:Bool->Hp->Prop}{r:Res Bool}(h:r.need (v0 F H Q) (XW K E F H))(e:Ext F H F' H'):r.need (v0 F' H' Q) (XW K E F' H'):=h.mono (λ_ q=>q.ext e) λ_ _ q=>q.ext e
def CG {Q:VK}{r:Res D}(h:r.need (xP K F H Q) (XW K E F H))(e:Ext F H F' H'):r.need (xP K F' H' Q) (XW K E F' H'):=h.mono (λ_ q=>q.ext e) λ_ _ q=>q.ext e
theorem yu.new (h:yu K F H Q d):xP K F H Q d:=λl F' H' e n c o=>by
 obtain⟨u,f⟩:=o.has;refine h (.ref l) (upd F' l u) H' ⟨e.ff.trans (K4 c u),λb v q=>?_,e.hh,λa g i=>?_⟩ (o.frz f c)
 .by_cases z:b=l
  .simp_all [JK]
  .rw[JG z] at q;exact e.fh _ _ q
 .have z:a≠l:=by grind
  rw[JG z];exact e.new a g i
end
section
variable {X:Cx}{E:XK}
def jm (h:QN X E e f):QE X E e f:=PE.weak h λZ H Q ⟨B,F,sd,r,n⟩=>⟨B,F,sd,r,n.mono (λ_ q=>q.new) λ_ _ q=>q⟩
def jb (i:Nat):FE:=λsd=>match sd[i]? with
 |some (~~~d)=>.ok d
 |_=>.no
def dC (d:D):FE:=λ_=>.ok d
def uC (h:PE X e (xH i)):QE X E e (jb i):=PE.weak h λZ H Q a=>by
 obtain⟨B,F,sd,r,n⟩:=a;unfold jb at n
 split at n
 .rename_i d q;obtain⟨v,b,c⟩:=r.val q;exact⟨v,b,n v F H (.refl r.ext.fh) c⟩
 .exact n.elim
def YO (h:PE X e (tC v))(i:∀F,jf X.K F d v):QE X E e (dC d):=PE.weak h λZ H Q ⟨B,F,sd,r,n⟩=>n v F H (.refl r.ext.fh) (i F)
def J6 {i j pos}:QE X E (.Constant (.int i) j pos) (dC (.int i)):=YO Ms λ_=>je.mpr rfl
def Kr {b j pos}:QE X E (.Constant (.bool b) j pos) (dC (.bl b)):=YO uM λ_=>jp.mpr rfl
def YP {j pos}:QE X E (.Constant .none j pos) (dC .non):=YO Mt λ_=>j9.mpr rfl
def Qx {x j pos}:QE X E (.Constant (.str x) j pos) (dC (.str x)):=YO Ek λ_=>ju.mpr rfl
def Res.ofO {α: Type}:Option α -> Res α
 |some a=>.ok a
 |none=>.no
@[simp]def wE {α: Type}(a:α):Res.ofO (some a)=.ok a:=rfl
@[simp]def wF {α: Type}:Res.ofO (none:Option α)=.no:=rfl
def jg {α: Type}{o:Option α}{p:α -> Prop}(h:(Res.ofO o).need p q):∃a,o=some a/\p a:=by
 cases o with
 |none=>exact h.elim
 |some a=>exact⟨a,rfl,h⟩
def ji (g:D->D->YH)(a b:FE):FE:=λsd=>(a sd).bind λx=>(b sd).bind λy=>.ofO (g x y)
def jS (g:D->YH)(a:FE):FE:=λsd=>(a sd).bind λx=>.ofO (g x)
def wZ (K:W.Frag)(g:D->D->YH):R2:=λv w H Q=>∃F d e z,jl F H/\jf K F d v/\jf K F e w/\g d e=some z/\yu K F H Q z
def u4 (K:W.Frag)(g:D->D->YH):R2:=λv w H Q=>∃F d e z,jl F H/\jf K F d v/\jf K F e w/\g d e=some z/\xP K F H Q z
def m7 (K:W.Frag)(g:D->YH):V->Hp->VK->Prop:=λv H Q=>∃F d z,jl F H/\jf K F d v/\g d=some z/\yu K F H Q z
def yX (K:W.Frag)(g:YG->YH):YE->Hp->VK->Prop:=λa H Q=>∃F ds z,jl F H/\jd K F ds a/\g ds=some z/\yu K F H Q z
def z8 (K:W.Frag)(g:YG->YH):YE->Hp->VK->Prop:=λa H Q=>∃F ds z,jl F H/\jd K F ds a/\g ds=some z/\xP K F H Q z
def YQ {K:W.Frag}{g:D->D->YH}{c e:FE}{Z: St}{H:Hp}{Q:VK}(h:tD K E (ji g c e) Z H Q):wX (wZ K g) (tD K E c) (tD K E e) Z H Q:=by
 obtain⟨B,F,sd,r,n⟩:=h;refine⟨B,F,sd,r,(ja n).mono (λx f v i p a j=>⟨B,i,sd,r.step a,(ja f).mono (λy l w m s b o=>?_) λ_ _ q=>q.ext a⟩) λ_ _ q=>q⟩;obtain⟨z,hz,q⟩:=jg l;exact⟨m,x,y,z,b.fh,jf.same b.ff _ _ j,o,hz,q.ext (a.trans b)⟩
def Pd {K:W.Frag}{g:D->D->YH}{c e:FE}{Z: St}{H:Hp}{Q:VK}(h:v9 K E (ji g c e) Z H Q):wX (u4 K g) (tD K E c) (tD K E e) Z H Q:=by
 obtain⟨B,F,sd,r,n⟩:=h;refine⟨B,F,sd,r,(ja n).mono (λx f v i p a j=>⟨B,i,sd,r.step a,(ja f).mono (λy l w m s b o=>?_) λ_ _ q=>q.ext a⟩) λ_ _ q=>q⟩;obtain⟨z,hz,q⟩:=jg l;exact⟨m,x,y,z,b.fh,jf.same b.ff _ _ j,o,hz,q.ext (a.trans b)⟩
def vV {K:W.Frag}{g:D->YH}{a:FE}{Z: St}{H:Hp}{Q:VK}(h:tD K E (jS g a) Z H Q):rz (m7 K g) (tD K E a) Z H Q:=by
 obtain⟨B,F,sd,r,n⟩:=h;refine⟨B,F,sd,r,(ja n).mono (λx c v e i b f=>?_) λ_ _ q=>q⟩;obtain⟨z,hz,q⟩:=jg c;exact⟨e,x,z,b.fh,f,hz,q.ext b⟩
abbrev yE (X:Cx)(f:Value->Value->Sem Value)(g:D->D->YH):Prop:=xa X f (wZ X.K g)
abbrev vy (X:Cx)(f:Value->Value->Sem Value)(g:D->D->YH):Prop:=xa X f (u4 X.K g)
def xa.weak (h:xa X f r)(w:∀x y H Q,r' x y H Q->r x y H Q):xa X f r':=λY s Z H x y v u Q I a b q=>h Y s Z H x y v u Q I a b (w _ _ _ _ q)
def wC.weak (h:wC X f r)(w:∀x H Q,r' x H Q->r x H Q):wC X f r':=λY s Z H x v Q I a q=>h Y s Z H x v Q I a (w _ _ _ q)
def jO.weak (h:jO X f r)(w:∀x H Q,r' x H Q->r x H Q):jO X f r':=λY s Z H x v Q I a q=>h Y s Z H x v Q I a (w _ _ _ q)
def yF.weak (h:yF X r)(w:∀x y H Q,r' x y H Q->r x y H Q):yF X r':=λa b Y s Z H x y v u Q I c f q e=>h a b Y s Z H x y v u Q I c f (w _ _ _ _ q) e
variable {a b:Expr}{fa fb:FE}{pos:Pos}
def jo (c:yE X (binaryOp op) g)(e:QE X E a fa)(f:QE X E b fb):QE X E (.BinOp a op b pos) (ji g fa fb):=PE.weak (Es c e f) λ_ _ _ h=>YQ h
def FY (c:vy X (binaryOp op) g)(e:QE X E a fa)(f:QE X E b fb):QN X E (.BinOp a op b pos) (ji g fa fb):=PE.weak (Es c e f) λ_ _ _ h=>Pd h
def yf (c:wC X (unaryOp op) (m7 X.K g))(e:QE X E a fa):QE X E (.UnaryOp op a pos) (jS g fa):=PE.weak (uL c e) λ_ _ _ h=>vV h
def AB (c:yE X (compareOp op) g)(e:QE X E a fa)(f:QE X E b fb)(i:behindInMarks op b=false):QE X E (.Compare a [op] [b] pos) (ji g fa fb):=PE.weak (MT c e f i) λ_ _ _ h=>YQ h
def JB (fa:FE):FT:=λsd=>(fa sd).bind λx=>match x with
 | .bl b=>.ok b
 |_=>.no
def WN {K:W.Frag}{Z: St}{H:Hp}{Q:Bool->Hp->Prop}(h:fW K E (JB fa) Z H Q):tD K E fa Z H (λx e=>∃k,x=.bl k/\Q k e):=by
 obtain⟨B,F,sd,r,n⟩:=h;refine⟨B,F,sd,r,(ja n).mono (λx c v f g i j=>?_) λ_ _ q=>q⟩;cases x with
 |bl k=>exact⟨k,jp.mp j,c f g i⟩
 |_=>exact c.elim
def Qv {op:CmpOp}{g:D->D->YH}(c:yE X (compareOp op) g)(e:QE X E a fa)(f:QE X E b fb)(i:behindInMarks op b=false):QT X E (.Compare a [op] [b] pos) (JB (ji g fa fb)):=
 PT.weak (Ey c e f i) λZ H Q h=>have h:=WN h;YQ h
def KF (e:QE X E a fa)(f:∀c,isTrue a X.env c=(do let v <- c;standAt a.pos;holding [v] (truthy v)):=by intro _;rfl):QT X E a (JB fa):=PT.weak (Mx e f) λZ H Q q=>WN q
def QX (f:FT):FT:=λsd=>(f sd).bind λb=>.ok (!b)
def V5 (f g:FT):FT:=λsd=>(f sd).bind λb=>if b then g sd else .ok false
def yP (f g:FT):FT:=λsd=>(f sd).bind λb=>if b then .ok true else g sd
variable {f g:FT}{rest:Ym}
def WO (c:QT X E a f):QT X E (.UnaryOp .Not a pos) (QX f):=PT.weak (M4 c) λZ H Q ⟨B,F,sd,r,n⟩ =>
 ⟨B,F,sd,r,(ja n).mono (λ_ q=>q) λ_ _ q=>q⟩
def AC (c:QT X E a f):QW X E (.BoolOp .And [a] pos) f:=Mz c
def AD (c:QT X E a f):QW X E (.BoolOp .Or [a] pos) f:=M0 c
def AE (i:QT X E a f)(j:QW X E (.BoolOp .And (b::rest) pos) g):QW X E (.BoolOp .And (a::b::rest) pos) (V5 f g):=PW.weak (M3 i j) λZ H Q l=>by
 obtain⟨B,F,sd,r,n⟩:=l;refine⟨B,F,sd,r,(ja n).mono (λk e h m c=>?_) λ_ _ q=>q⟩;cases k with
 |true=>exact⟨B,h,sd,r.step c,FW e c⟩
 |false=>exact e h m c
def AF (i:QT X E a f)(j:QW X E (.BoolOp .Or (b::rest) pos) g):QW X E (.BoolOp .Or (a::b::rest) pos) (yP f g):=PW.weak (uI i j) λZ H Q l=>by
 obtain⟨B,F,sd,r,n⟩:=l;refine⟨B,F,sd,r,(ja n).mono (λk e h m c=>?_) λ_ _ q=>q⟩;cases k with
 |true=>exact e h m c
 |false=>exact⟨B,h,sd,r.step c,FW e c⟩
def xA (h:QW X E e f):QT X E e f:=fJ h
def V6 (fa fb:FE):FE:=λsd=>(JB fa sd).bind λb=>if b then fb sd else .ok (.bl false)
def FZ (fa:FE):FE:=λsd=>(JB fa sd).bind λb=>.ok (.bl !b)
def CH {op}(h:QE X E a fa):QE X E (.BoolOp op [a] pos) fa:=M5 h
def AG (i:QE X E a fa)(j:QE X E (.BoolOp .And (b::rest) pos) fb):QE X E (.BoolOp .And (a::b::rest) pos) (V6 fa fb):=PE.weak (M6 i j) λZ H Q l=>by
 obtain⟨B,F,sd,r,n⟩:=l;refine WN ⟨B,F,sd,r,(ja n).mono (λk e h m c=>?_) λ_ _ q=>q⟩;cases k with
 |true=>exact⟨B,h,sd,r.step c,AA e c⟩
 |false=>exact e _ h m c (jp.mpr rfl)
def uD (c:QE X E a fa):QE X E (.UnaryOp .Not a pos) (FZ fa):=PE.weak (M7 c) λZ H Q ⟨B,F,sd,r,n⟩=>WN ⟨B,F,sd,r,(ja n).mono (λk e h i j=>(e _ h i j (jp.mpr rfl))) λ_ _ q=>q⟩
def jc:FA:=λ_=>.ok []
def J0 (fa:FE)(c:FA):FA:=λsd=>(fa sd).bind λx=>(c sd).bind λe=>.ok (x::e)
def J2:QA X E [] jc:=PA.weak Wp λZ H Q ⟨B,F,sd,r,n⟩=>n [] F H (.refl r.ext.fh) .nil
def J1 (i:QE X E e fe)(j:QA X E es fr)(hs:starEach (e::es) X.env=(false,eval e X.env)::starEach es X.env:=by rfl):QA X E (e::es) (J0 fe fr):=
 PA.weak (V0 i j hs) λZ H Q ⟨B,F,sd,r,n⟩=>⟨B,F,sd,r,(ja n).mono (λx l v m w c o=>⟨B,m,sd,r.step c,(ja l).mono (λy p z s t h u=>(p _ s t (c.trans h) (.mk (jf.same h.ff _ _ o) u))) λ_ _ q=>q.ext c⟩) λ_ _ q=>q⟩
def jR (e:FA):FE:=λsd=>(e sd).bind λc=>if c.length<=1000 then .ok (.lst c) else .no
def ql (e:FA):FE:=λsd=>(e sd).bind λc=>if c.length<=1000 then .ok (.tup c) else .no
def Q8 (h:QA X E es fr):QN X E (.List es pos) (jR fr):=PE.weak (No h) λZ H Q l=>by
 obtain⟨B,F,sd,r,n⟩:=l;refine⟨B,F,sd,r,(ja n).mono (λs e i m o c j=>?_) λ_ _ q=>q⟩
 split at e
 .have hz:=j.length;exact⟨Ke (),λp hp=>(e p m (upd o p (.lst i)) (c.trans (.keep c.fh hp _)) (Qk c.hh hp) (Qk c.fh hp) ⟨i,JK,j⟩)⟩
 .exact e.elim
def Ks {x1}(h:QA X E es fr):QE X E (.Tuple es x1 pos) (ql fr):=PE.weak (Nm h) λZ H Q m=>by
 obtain⟨B,F,sd,r,n⟩:=m;refine⟨B,F,sd,r,(ja n).mono (λo c e s t i j=>?_) λ_ _ q=>q⟩
 split at c
 .have hz:=j.length;refine⟨Ke (),λp hp=>?_⟩;have l:=qF i.fh hp (.tup e);exact c _ _ _ (i.trans l) (j1.mpr ⟨p,e,rfl,.of JK,jd.same l.ff _ _ j⟩)
 .exact c.elim
def qN (K:W.Frag)(c:YG->Res D):Sp:=λe H Q _=>∃F ds,jl F H/\jd K F ds e/\(c ds).need (yu K F H Q) (XW K E0 F H)
def yD (K:W.Frag)(c:YG->Res D):Sp:=λe H Q _=>∃F ds,jl F H/\jd K F ds e/\(c ds).need (xP K F H Q) (XW K E0 F H)
def J7 (c:YG->Res D)(e:FA):FE:=λsd=>(e sd).bind c
def jH {name:Str}{k:Nat}{ps:Yk}{h:YG->Res D}{p:Pos}{e:Expr}{es:Ym}{l:FA}(c:zV X.prog X.w X.K X.mg X.base name k ps (qN X.K h))(o:Room k X.A)(s:Gl X name)(t:QA X E0 (e::es) l)
 (i:(name == ("__debug__" : Str))=false:=by decide) (u:starEach (e::es) X.env=(false,eval e X.env)::starEach es X.env:=by rfl) (j:(backTo pos (starEach es X.env)).any (·.1)=false:=by rfl):
 QE X E0 (.Call (.Name name p) (e::es) [] pos) (J7 h l):=PE.weak (Ao c o s t i u j) λZ H Q v=>by
 obtain⟨B,F,sd,r,n⟩:=v;refine⟨B,F,sd,r,(ja n).mono (λw x y z A m C=>?_) λ_ _ q=>q⟩;show qN X.K h (y++[]) A Q E0;rw[ZA];exact⟨z,w,m.fh,C,AA x m⟩
def V7 {name:Str}{k:Nat}{ps:Yk}{h:YG->Res D}{p:Pos}{e:Expr}{es:Ym}{l:FA}(c:zV X.prog X.w X.K X.mg X.base name k ps (yD X.K h))(o:Room k X.A)(s:Gl X name)(t:QA X E0 (e::es) l)
 (i:(name == ("__debug__" : Str))=false:=by decide) (u:starEach (e::es) X.env=(false,eval e X.env)::starEach es X.env:=by rfl) (j:(backTo pos (starEach es X.env)).any (·.1)=false:=by rfl):
 QN X E0 (.Call (.Name name p) (e::es) [] pos) (J7 h l):=PE.weak (Ao c o s t i u j) λZ H Q v=>by
 obtain⟨B,F,sd,r,n⟩:=v;refine⟨B,F,sd,r,(ja n).mono (λw x y z A m C=>?_) λ_ _ q=>q⟩;show yD X.K h (y++[]) A Q E0;rw[ZA];exact⟨z,w,m.fh,C,CG x m⟩
def jn (g:YG->YH)(c:FA):FE:=λsd=>(c sd).bind λe=>.ofO (g e)
def JZ {id:String}{x:Str}{p:Pos}{e:Expr}{es:Ym}{g:YG->YH}{i:FA}(l:jO X (.builtin id) (yX X.K g))(m:Gl X x)(o:X.mg x=none)(s:bootBuiltins x=some (.builtin id))(t:QA X E (e::es) i)(u:x ≠ "__name__" := by decide)(c:(x == ("__debug__" : Str))=false:=by decide)
 (v:starEach (e::es) X.env=(false,eval e X.env)::starEach es X.env:=by rfl) (h:(backTo pos (starEach es X.env)).any (·.1)=false:=by rfl):QE X E (.Call (.Name x p) (e::es) [] pos) (jn g i):=
 PE.weak (Aj l m o s t u c v h) λZ H Q w=>by
  obtain⟨B,F,sd,r,n⟩:=w;refine⟨B,F,sd,r,(ja n).mono (λy A I C J j G=>?_) λ_ _ q=>q⟩;obtain⟨z,hz,q⟩:=jg A;exact⟨C,y,z,j.fh,G,hz,q.ext j⟩
def Pe {id:String}{x:Str}{p:Pos}{e:Expr}{es:Ym}{g:YG->YH}{i:FA}(l:jO X (.builtin id) (z8 X.K g))(m:Gl X x)(o:X.mg x=none)(s:bootBuiltins x=some (.builtin id))(t:QA X E (e::es) i)(u:x ≠ "__name__" := by decide)(c:(x == ("__debug__" : Str))=false:=by decide)
 (v:starEach (e::es) X.env=(false,eval e X.env)::starEach es X.env:=by rfl) (h:(backTo pos (starEach es X.env)).any (·.1)=false:=by rfl):QN X E (.Call (.Name x p) (e::es) [] pos) (jn g i):=
 PE.weak (Aj l m o s t u c v h) λZ H Q w=>by
  obtain⟨B,F,sd,r,n⟩:=w;refine⟨B,F,sd,r,(ja n).mono (λy A I C J j G=>?_) λ_ _ q=>q⟩;obtain⟨z,hz,q⟩:=jg A;exact⟨C,y,z,j.fh,G,hz,q.ext j⟩
def Xt {T:String}{x:Str}{p:Pos}{e:Expr}{es:Ym}{g:YG->YH}{i:FA}(l:jO X (.type T) (yX X.K g))(m:Gl X x)(o:X.mg x=none)(s:bootBuiltins x=some (.type T))(t:QA X E (e::es) i)(u:x ≠ "__name__" := by decide)(c:(x == ("__debug__" : Str))=false:=by decide)
 (v:starEach (e::es) X.env=(false,eval e X.env)::starEach es X.env:=by rfl) (h:(backTo pos (starEach es X.env)).any (·.1)=false:=by rfl):QE X E (.Call (.Name x p) (e::es) [] pos) (jn g i):=
 PE.weak (XV l m o s t u c v h) λZ H Q w=>by
  obtain⟨B,F,sd,r,n⟩:=w;refine⟨B,F,sd,r,(ja n).mono (λy A I C J j G=>?_) λ_ _ q=>q⟩;obtain⟨z,hz,q⟩:=jg A;exact⟨C,y,z,j.fh,G,hz,q.ext j⟩
def K5 {T:String}{x:Str}{p:Pos}{e:Expr}{es:Ym}{g:YG->YH}{i:FA}(l:jO X (.type T) (z8 X.K g))(m:Gl X x)(o:X.mg x=none)(s:bootBuiltins x=some (.type T))(t:QA X E (e::es) i)(u:x ≠ "__name__" := by decide)(c:(x == ("__debug__" : Str))=false:=by decide)
 (v:starEach (e::es) X.env=(false,eval e X.env)::starEach es X.env:=by rfl) (h:(backTo pos (starEach es X.env)).any (·.1)=false:=by rfl):QN X E (.Call (.Name x p) (e::es) [] pos) (jn g i):=
 PE.weak (XV l m o s t u c v h) λZ H Q w=>by
  obtain⟨B,F,sd,r,n⟩:=w;refine⟨B,F,sd,r,(ja n).mono (λy A I C J j G=>?_) λ_ _ q=>q⟩;obtain⟨z,hz,q⟩:=jg A;exact⟨C,y,z,j.fh,G,hz,q.ext j⟩
def KP:D->Bool
 | .tup _=>false
 | .lst _=>false
 | .dct _ _=>false
 | .ins _ _ _=>false
 | .exc _=>false
 | .dcf _ _=>false
 | .pin _ _=>false
 | .scr _=>false
 |_=>true
def jf.scal {K:W.Frag}{F c:Hp}{d:D}{v:V}(s:KP d=true)(h:jf K F d v):jf K c d v:=by
 cases d with
 |tup _=>exact JD s
 |lst _=>exact JD s
 |dct _ _=>exact JD s
 |ins _ _ _=>exact JD s
 |exc _=>exact JD s
 |dcf _ _=>exact JD s
 |pin _ _=>exact JD s
 |scr _=>exact JD s
 |_=>exact h
def Res.bare {α: Type}(r:Res α):Res α:= match r with
 | .ok a=>.ok a
 | .ex c []=>.ex c []
 |_=>.no
def yb {α: Type}{K:W.Frag}{F H e:Hp}{r:Res α}{p:α -> Prop}(i:jl F H)(h:r.bare.need p (XW K E0 F H)):r.need p (XW K E0 e H):=by
 cases r with
 |ok a=>exact h
 |no=>exact h
 |ex c fs =>
  cases fs with
  |nil=>exact λj a q l m ⟨C,n,o,_⟩=>h j none F l (.grow i m.hh) ⟨C,n,o,.inl rfl⟩
  |cons d r=>exact h.elim
def yj (is:Yj)(f:FE):FE:=λsd=>(f (qz is sd)).bare.bind λd=>if KP d then .ok d else .no
def YR {e:Expr}{j:FE}(is)(h:QE X E0 e j):QE X E0 e (yj is j):=PE.weak h λZ H Q l=>by
 obtain⟨B,F,sd,r,n⟩:=l;obtain⟨m,u,o⟩:=r.frz is;refine⟨B,m,_,o,(yb r.ext.fh (ja n)).mono (λd i v w p s t=>?_) λc fs q=>q⟩
 split at i
 .rename_i hs;exact i v F p (.grow r.ext.fh s.hh) (t.scal hs)
 .exact i.elim
end
inductive Out where
 |next (sd:SD)|ret (d:D)|brk (sd:SD)|cont (sd:SD)
def bM (K:W.Frag)(F H:Hp)(Q:VK)(d:D):Prop:=if KP d=true then yu K F H Q d else xP K F H Q d
def AH (K:W.Frag)(m:Option Bool)(B:Bs)(Q:VK)(d:D):Prop:=match m with
 |some true=>xP K B.F0 B.H0 Q d
 |some false=>yu K B.F0 B.H0 Q d
 |none=>bM K B.F0 B.H0 Q d
def zq (K:W.Frag)(m:Option Bool)(B:Bs)(F:Hp)(T:Ends):Out->Prop
 | .next sd=>∀Z a b,jl F a->RS K B a b sd Z -> T.nx Z b
 | .brk sd=>∀Z a b,jl F a->RS K B a b sd Z -> T.bk Z b
 | .cont sd=>∀Z a b,jl F a->RS K B a b sd Z -> T.ct Z b
 | .ret d=>AH K m B T.rt d
abbrev FS:=SD->Res Out
def vZ (K:W.Frag)(E:XK)(m:Option Bool)(g:FS):TS:=λT Z H=>∃B F sd,RS K B F H sd Z /\ (g sd).need (zq K m B F T) (XW K E B.F0 B.H0)
abbrev QS (X:Cx)(E:XK)(m:Option Bool)(st:Stmt)(g:FS):Prop:=PS X st (vZ X.K E m g)
abbrev zn (X:Cx)(E:XK)(m:Option Bool)(st:List Stmt)(g:FS):Prop:=qO X st (vZ X.K E m g)
section
variable {K:W.Frag}{E:XK}{m:Option Bool}{B:Bs}{F F' H:Hp}{T:Ends}
def zq.mono (h:zq K m B F T o)(e:jl F F'):zq K m B F' T o:=by
 cases o with
 |next sd=>exact λZ a b s r=>h Z a b (e.trans s) r
 |brk sd=>exact λZ a b s r=>h Z a b (e.trans s) r
 |cont sd=>exact λZ a b s r=>h Z a b (e.trans s) r
 |ret d=>exact h
end
section
variable {X:Cx}{E:XK}{m:Option Bool}{st:Stmt}{sts:List Stmt}{g g1 g2:FS}{pos:Pos}
def JJ:FS:=λsd=>.ok (.next sd)
def jh (g1 g2:FS):FS:=λsd=>(g1 sd).bind λo=>match o with
 | .next sd'=>g2 sd'
 |o=>.ok o
def Qa:zn X E m [] JJ:=qO.weak Af λT Z H ⟨B,F,sd,r,n⟩=>n Z F H (.refl _) r
def J8 (h:QS X E m st g):zn X E m [st] g:=BV h
def J9 (b:QS X E m st g1)(c:zn X E m sts g2):zn X E m (st::sts) (jh g1 g2):=qO.weak (XS b c) λT Z H e=>by
 obtain⟨B,F,sd,r,n⟩:=e;refine⟨B,F,sd,r,(ja n).mono (λo a=>?_) λ_ _ q=>q⟩;cases o with
 |next sd'=>exact λi f j s h=>⟨B,f,sd',h,a.mono (λo q=>q.mono s) λ_ _ q=>q⟩
 |ret d=>exact a
 |brk sd'=>exact a
 |cont sd'=>exact a
def Xu (is)(h:QS X E m st g):QS X E m st (λsd=>g (qz is sd)):=PS.weak h λT Z H a=>by
 obtain⟨B,F,sd,r,n⟩:=a;obtain⟨b,c,e⟩:=r.frz is;exact⟨B,b,_,e,n.mono (λ_ q=>q.mono c) λ_ _ q=>q⟩
def vk:FS:=λsd=>.ok (.brk sd)
def Pf:QS X E m (.Break pos) vk:=PS.weak M9 λT Z H ⟨B,F,sd,r,n⟩=>n Z F H (.refl _) r
variable {e:Expr}{fe:FE}
def jr (i:Nat)(f:FE):FS:=λsd=>(f sd).bind λd=>.ok (.next (sd.set i (~~~d)))
def qB (i:Nat)(f:FE):FS:=λsd=>(f sd).bind λd=>.ok (.next (sd.set i (some (.own false d))))
def JN (b:X.N.Nodup)(c:X.N[i]? = some x)(f:yR X.env.scope x)(h:QE X E e fe)(hs:swapsWith e (some (.Name x pos')) pos.line X.env=pure false:=by rfl)
 (j:X.fn x=true\/X.env.scope.names.lookup x=some .local:=by trivial):QS X E m (.Assign [.Name x pos'] e pos) (jr i fe):=PS.weak (Ep b c f h hs j) λT Z H ⟨B,F,sd,r,n⟩=>⟨B,F,sd,r,(ja n).mono (λd l v o p a s=>(l _ o p a.ff ((r.step a).setVal s))) λ_ _ q=>q.ext r.ext⟩
def Kg (b:X.N.Nodup)(c:X.N[i]? = some x)(f:yR X.env.scope x)(h:QN X E e fe)(hs:swapsWith e (some (.Name x pos')) pos.line X.env=pure false:=by rfl)
 (s:X.fn x=true\/X.env.scope.names.lookup x=some .local:=by trivial):QS X E m (.Assign [.Name x pos'] e pos) (qB i fe):=PS.weak (Ep b c f h hs s) λT Z H t=>by
 obtain⟨B,F,sd,r,n⟩:=t;refine⟨B,F,sd,r,(ja n).mono (λd u l v w a y z A=>(u _ v w a.ff ((r.step a).setOwn (Qk r.ext.hh y) z A λj p d' C I=>?_))) λ_ _ q=>q.ext r.ext⟩;obtain⟨J,K,_,_,G,_⟩:=r.own C;obtain⟨o,L⟩:=G.has
 simp_all
def jz (f:FE):FS:=λsd=>(f sd).bind λd=>.ok (.ret d)
def JL (a:QE X E e fe):QS X E false (.Return (some e) pos) (jz fe):=PS.weak (Ag a) λT Z H ⟨B,F,sd,r,n⟩=>⟨B,F,sd,r,(ja n).mono (λd b v c f h i=>(b v c f (r.ext.trans h) i)) λ_ _ q=>q.ext r.ext⟩
def Wu (a:QN X E e fe):QS X E true (.Return (some e) pos) (jz fe):=PS.weak (Ag a) λT Z H ⟨B,F,sd,r,n⟩=>⟨B,F,sd,r,(ja n).mono (λd b l c f h i j o=>(b l c f (r.ext.trans h) (Qk r.ext.hh i) j o)) λ_ _ q=>q.ext r.ext⟩
def Kh (i:Nat):FS:=λsd=>match sd[i]? with
 |some (some (.own _ d))=>.ok (.ret d)
 |_=>.no
def Xv (a:PE X e (xH i)):QS X E true (.Return (some e) pos) (Kh i):=PS.weak (Ag a) λT Z H b=>by
 obtain⟨B,F,sd,r,n⟩:=b;unfold Kh at n
 split at n
 .rename_i d q;obtain⟨l,c,f,h,j,_⟩:=r.own q;exact⟨.ref l,c,n l F H r.ext f h j⟩
 .exact n.elim
def qi (c:FT)(g1 g2:FS):FS:=λsd=>(c sd).bind λb=>if b then g1 sd else g2 sd
def Qb (j:QT X E c fc)(l:zn X E m a g1)(o:zn X E m b g2):QS X E m (.If c a b pos) (qi fc g1 g2):=PS.weak (BX j l o) λT Z H p=>by
 obtain⟨B,F,sd,r,n⟩:=p;refine⟨B,F,sd,r,(ja n).mono (λb h i s f=>?_) λ_ _ q=>q.ext r.ext⟩;cases b with
 |true=>exact⟨B,i,sd,r.step f,h.mono (λ_ q=>q.mono f.ff) λ_ _ q=>q⟩
 |false=>exact⟨B,i,sd,r.step f,h.mono (λ_ q=>q.mono f.ff) λ_ _ q=>q⟩
def Q9 (i:Nat)(f:FE):FS:=λsd=>match sd[i]? with
 |some (some (.own false (.lst ds)))=>(f sd).bind λd=>if ds.length<sizeLine then .ok (.next (sd.set i (some (.own false (.lst (ds++[d])))))) else .no
 |_=>.no
def V8 (z:PE X o (xH i))(A:QE X E e fe)
 (hp:∀{p:TE} {t:TA},PE X o p->PA X [e] t->PE X (.Call (.Attribute o "append" apos) [e] [] cpos) (fY X.K "list" Cg p t))
 (hs:swapsWith (.Call (.Attribute o "append" apos) [e] [] cpos) none pos.line X.env=pure false:=by rfl)
 (f:starEach [e] X.env=(false,eval e X.env)::starEach [] X.env:=by rfl):QS X E m (.Expr (.Call (.Attribute o "append" apos) [e] [] cpos) pos) (Q9 i fe):=
 PS.weak (BW (hp z (J1 A J2 f)) hs) λT Z H C=>by
  obtain⟨B,F,sd,r,n⟩:=C;unfold Q9 at n
  split at n
  .rename_i ds s;obtain⟨l,u,L,M,⟨h,x,y⟩,_⟩:=r.own s;refine⟨.ref l,u,.inl ⟨rfl,h,qE.of x⟩,B,F,sd,r,?_⟩;unfold J0 jc;have a:=ja n;cases q:fe sd with
   |no=>rwa [q] at a
   |ex c fs=>rw[q] at a;exact a.ext r.ext
   |ok d =>
    rw[q] at a;intro N G O b I;obtain⟨v,w,rfl,J,K⟩:=I;subst K;have j:=a
    split at j
    .have P:=y.length;exact⟨l,h,v,rfl,rfl,b.hh _ _ x,(),j Z G _ b.ff ((r.step b).chg s u ⟨h++[v],JK,(jd.same b.ff _ _ y).snoc J⟩)⟩
    .exact j.elim
  .exact n.elim
def Xw (i:Nat)(f:FE):FS:=λsd=>match sd[i]? with
 |some (some (.own false (.lst ds)))=>(f sd).bind λd=>match d with
  | .lst es=>if ds.length+es.length<=sizeLine then .ok (.next (sd.set i (some (.own false (.lst (ds++es)))))) else .no
  |_=>.no
 |_=>.no
def Pg (x:PE X o (xH i))(y:QN X E e fe)
 (hp:∀{j:TE} {t:TA},PE X o j->PA X [e] t->PE X (.Call (.Attribute o "extend" apos) [e] [] cpos) (fY X.K "list" ED j t))
 (hs:swapsWith (.Call (.Attribute o "extend" apos) [e] [] cpos) none pos.line X.env=pure false:=by rfl)
 (c:starEach [e] X.env=(false,eval e X.env)::starEach [] X.env:=by rfl):QS X E m (.Expr (.Call (.Attribute o "extend" apos) [e] [] cpos) pos) (Xw i fe):=
 PS.weak (BW (hp x (V0 y Wp c)) hs) λT Z H z=>by
  obtain⟨B,F,sd,r,n⟩:=z;unfold Xw at n
  split at n
  .rename_i ds p;obtain⟨l,s,I,J,⟨f,u,v⟩,_⟩:=r.own p;refine⟨.ref l,s,.inl ⟨rfl,f,qE.of u⟩,B,F,sd,r,(ja n).mono (λd w b A K a L M C=>?_) λ_ _ q=>q.ext r.ext⟩;cases d with
   |lst es =>
    have ⟨ys,g1,g2⟩:=C;have h:(if ds.length+es.length<=sizeLine then Res.ok (Out.next (sd.set i (some (.own false (.lst (ds++es)))))) else .no).need (zq X.K m B F T) (XW X.K E B.F0 B.H0):=w
    split at h
    .have N:=v.length;have G:=g2.length;exact⟨l,b,f,ys,rfl,rfl,a.hh _ _ u,g1,(),h Z A _ a.ff ((r.step a).chg p s ⟨f++ys,JK,(jd.same a.ff _ _ v).append g2⟩)⟩
    .exact h.elim
   |_=>exact w.elim
  .exact n.elim
inductive Tg where
 |one (i:Nat)|tup (is:Yj)
def setAll:Yj->YG->SD->SD
 |i::is,d::ds,sd=>setAll is ds (sd.set i (~~~d))
 |_,_,sd=>sd
def JO:Tg->D->SD->Res SD
 | .one i,d,sd=>.ok (sd.set i (~~~d))
 | .tup is,.tup ds,sd=>if ds.length=is.length then .ok (setAll is ds sd) else .no
 |_,_,_=>.no
def AI:Yj->YE->St->St
 |i::is,v::vs,Z => AI is vs (Z.set i (some v))
 |_,_,Z => Z
theorem RS.setAll {K:W.Frag}{B:Bs}{F H:Hp}:∀{is:Yj} {ds:YG} {a:YE} {sd:SD} {Z: St},RS K B F H sd Z -> jd K F ds a->RS K B F H (setAll is ds sd) (AI is a Z)
 | [],ds,a,sd,Z,r,_=>r
 |i::is,[],a,sd,Z,r,h=>by
  subst h;exact r
 |i::is,d::ds,a,sd,Z,r,h=>by
  obtain⟨v,w,rfl,b,c⟩:=h;exact RS.setAll (is:=is) (r.setVal b) c
def RS.forget {K:W.Frag}{B:Bs}{F H:Hp}{sd sd':SD}{Z: St}(r:RS K B F H sd Z)(a:sd'.length=sd.length)(h:∀(i:Nat) x,sd'[i]? = some (some x)->sd[i]? = some (some x)):RS K B F H sd' Z:=
 ⟨r.ext,by rw[r.len,a],λq=>r.val (h _ _ q),λq=>r.own (h _ _ q),λn b c f=>r.apart n (h _ _ b) (h _ _ c) f⟩
def gT:Tg->W.Frag->TG
 | .one i,_=>Ux i
 | .tup is,K=>λv Z H Q=>∃a b,v=.ref a/\yk K H a b/\b.length=is.length/\Q (AI is b Z) H
def YS {K:W.Frag}{tg:Tg}{B:Bs}{F H:Hp}{sd:SD}{Z: St}{d:D}{v:V}{p:SD->Prop}{q:Str->YG->Prop}{Q:St->Hp->Prop}(r:RS K B F H sd Z)(f:jf K F d v)(n:(JO tg d sd).need p q)
 (h:∀sd' j,p sd'->JO tg d sd=.ok sd'->RS K B F H sd' j->Q j H):gT tg K v Z H Q:=by
 cases tg with
 |one i=>exact h _ _ n rfl (r.setVal f)
 |tup is =>
  cases d with
  |tup ds =>
   obtain⟨a,o,rfl,s,l⟩:=f;have b:JO (.tup is) (.tup ds) sd=if ds.length=is.length then .ok (setAll is ds sd) else .no:=rfl
   by_cases c:ds.length=is.length
   .rw[Zd c] at b;rw[b] at n;exact⟨a,o,rfl,(s.same r.ext.fh).sq,by rw[l.length,c],h _ _ n b (r.setAll l)⟩
   .rw[Ze c] at b;rw[b] at n;exact n.elim
  |_=>exact n.elim
abbrev QG (X:Cx)(e:Expr)(tg:Tg):Prop:=PG X e (gT tg X.K)
def zJ (K:W.Frag)(h:Hp)(J:It)(ds:YG):Prop:=∀(i:Nat) (b a:Hp),jl h b->jl b a ->
 (i<ds.length->J.go i a/\∀x c,J.yld i a x c->∃d f,ds[i]? = some d/\Ext b a f c/\jf K f d x)/\(ds.length<=i->J.stop i a)
def fX (K:W.Frag)(E:XK)(f:FA):TI:=λZ H R=>∃B F sd,RS K B F H sd Z /\ (f sd).need (λds=>∀J a b,Ext F H a b->zJ K a J ds->R J b) (XW K E F H)
abbrev QI (X:Cx)(E:XK)(tg iter:Expr)(f:FA):Prop:=PI X tg iter (fX X.K E f)
def xV (b:D->FS):YG->FS
 | [],sd=>.ok (.next sd)
 |x::xs,sd=>(b x sd).bind λo=>match o with
  | .next sd'=>xV b xs sd'
  | .cont sd'=>xV b xs sd'
  | .brk sd'=>.ok (.next sd')
  | .ret d=>.ok (.ret d)
def jQ (it:FA)(tg:Tg)(b:FS):FS:=λsd=>(it sd).bind λds=>xV (λx sd=>(JO tg x sd).bind b) ds sd
def Qy (hp:PassesOwn (model X.prog X.w) X.A X.env X.xe)(Q:X.calm=true)(M:QI X E tg iter fi)(R:QG X tg t)(S:zn X E m body g)
 (w:∀x,foldedSetIterable iter X.env x=pure x:=by intro _;rfl):QS X E m (.For tg iter body [] pos) (jQ fi t g):=PS.weak (Er hp Q M R S w) λT Z H U=>by
 obtain⟨B,F,sd,r,n⟩:=U;refine⟨B,F,sd,r,(ja n).mono (λds Y J z H1 N wk=>(⟨λi k Z H=>k=ds.length-i/\i<=ds.length/\∃j sd,jl z j/\RS X.K B j H sd Z /\ (xV (λx sd=>(JO t x sd).bind g) (ds.drop i) sd).need (zq X.K m B j T) (XW X.K E B.F0 B.H0),
  ⟨ds.length,rfl,Ua _,z,sd,.refl _,r.step N,Y.mono (λ_ q=>q.mono N.ff) λ_ _ q=>q⟩,?_⟩)) λ_ _ q=>q.ext r.ext⟩
 rintro i k Z2 O ⟨rfl,M,j,sd2,A,C,p⟩;obtain⟨w1,w2⟩:=wk i j O A C.ext.fh;by_cases c:i<ds.length
 .obtain⟨go,yl⟩:=w1 c;refine .inr ⟨go,λG P=>∃f a,jl z f/\RS X.K B f P a G/\(xV (λx sd=>(JO t x sd).bind g) (ds.drop (i+1)) a).need (zq X.K m B f T) (XW X.K E B.F0 B.H0),
   λG P ⟨f,a,q1,q2,q3⟩=>⟨ds.length-(i+1),(),rfl,c,f,a,q1,q2,q3⟩,λx H3 y=>?_⟩
  obtain⟨d,f,hd,l,i3⟩:=yl x H3 y;rw[Ur c] at p;have I:ds[i]=d:=by simp_all
  rw[I] at p;refine YS (C.step l) i3 (ja (ja p)) λsd' G n4 _ r4=>⟨B,f,sd',r4,n4.mono (λo v=>?_) λ_ _ q=>q⟩;cases o with
  |next b=>exact λK s L h u=>⟨s,b,(A.trans l.ff).trans h,u,v.mono (λ_ q=>q.mono (l.ff.trans h)) λ_ _ q=>q⟩
  |cont b=>exact λK s L h u=>⟨s,b,(A.trans l.ff).trans h,u,v.mono (λ_ q=>q.mono (l.ff.trans h)) λ_ _ q=>q⟩
  |brk b=>exact λK s L h u=>v K s L (l.ff.trans h) u
  |ret d=>exact v
 .have he:i=ds.length:=()
  refine .inl ⟨w2 (),?_⟩;subst he;rw[Ve] at p;exact p Z2 j O (.refl _) C
def xU {α β: Type}(f:α -> Res β):List α -> Res (List β)
 | []=>.ok []
 |x::xs=>(f x).bind λy=>(xU f xs).bind λys=>.ok (y::ys)
def jY (cap:List (Option Nat))(sd:SD):SD:=cap.map λo=>o.bind λj=>match sd[j]? with
 |some (~~~d)=>~~~d
 |_=>none
def V9 (sd:SD)(i:Nat):Bool:=match sd[i]? with
 |some none=>true
 |_=>false
def VZ (sd:SD):Tg->Bool
 | .one i=>V9 sd i
 | .tup is=>is.all (V9 sd)
def Ql (cap:List (Option Nat))(it:FA)(tg:Tg)(f:FE):FE:=λsd=>(it sd).bind λds=>if VZ (jY cap sd) tg=true/\ds.length<sizeLine then
 (xU (λx=>(JO tg x (jY cap sd)).bind f) ds).bind λys=>.ok (.lst ys) else .no
theorem RS.cap {K:W.Frag}{B:Bs}{F H:Hp}{sd:SD}{Z: St}(cap)(r:RS K B F H sd Z):RS K B F H (jY cap sd) (KN cap Z):=by
 have a:∀{i:Nat} {x:SV},(jY cap sd)[i]? = some (some x)->∃j d,cap[i]? = some (some j)/\sd[j]? = some (~~~d)/\x=.val d:=λ{i x} q=>by
  unfold jY at q;rw[Zv] at q;cases c:cap[i]? with
  |none=>rw[c] at q;exact J3 q
  |some o =>
   rw[c] at q;cases o with
   |none=>cases q
   |some j =>
    have q:(match sd[j]? with
     |some (~~~d)=>some (SV.val d)
     |_=>none)=some x:=Zqi q
    split at q
    .rename_i d t;exact()
    .exact J3 q
 refine⟨r.ext,by unfold jY KN;rw[Zql,Zql],λ{i d} q=>?_,λ{i p d} q=>?_,λ{i j p u d e l} _ q=>?_⟩
 .obtain⟨j,d',f,h,b⟩:=a q;cases b;obtain⟨v,n,s⟩:=r.val h;refine⟨v,?_,s⟩;unfold KN;rw[Zv,f];show some (Option.bind (some j) λj=>(Z[j]?).join)=_;rw[Option.bind_some,n];rfl
 .obtain⟨j,d',f,h,b⟩:=a q;cases b
 grind
theorem CI:∀is ds a sd,is.all (V9 a)=true->sd.length=a.length->(∀(i:Nat) x,a[i]? = some (some x)->sd[i]? = some (some x)) ->
 (setAll is ds sd).length=a.length/\∀(i:Nat) x,a[i]? = some (some x)->(setAll is ds sd)[i]? = some (some x)
 | [],ds,a,sd,_,hl,h=>⟨hl,h⟩
 |i::is,[],a,sd,_,hl,h=>⟨hl,h⟩
 |i::is,d::ds,a,sd,hn,hl,h=>by
  rw[Vf,Ud] at hn;refine CI is ds a (sd.set i (~~~d)) hn.2 (by rw[Vd,hl]) λj x q=>?_;have ne:i≠j:=λz=>by
   subst z;have:=hn.1;unfold V9 at this;rw[q] at this;exact JD this
  rw[QM ne];exact h j x q
def CJ (a:VZ sd0 tg=true)(h:JO tg d sd0=.ok sd):sd0.length=sd.length/\∀(i:Nat) x,sd0[i]? = some (some x)->sd[i]? = some (some x):=by
 cases tg with
 |one i =>
  cases h;have:=CI [i] [d] sd0 sd0 (by rwa [Vf,List.all_nil,Bool.and_true]) rfl λ_ _ q=>q;exact⟨this.1.symm,this.2⟩
 |tup is =>
  cases d with
  |tup ds =>
   have b:JO (.tup is) (.tup ds) sd0=if ds.length=is.length then .ok (setAll is ds sd0) else .no:=rfl
   rw[b] at h
   split at h
   .cases h;have:=CI is ds sd0 sd0 a rfl λ_ _ q=>q;exact⟨this.1.symm,this.2⟩
   .cases h
  |_=>cases h
def Ga {α β: Type}{f:α -> Res β}{a:List α}{x:α}{p:List β -> Prop}(l:a[i]? = some x)(h:(xU f (a.drop i)).need p q):(f x).need (λy=>(xU f (a.drop (i+1))).need (λys=>p (y::ys)) q) q:=by
 have b:i<a.length:=();rw[Ur b] at h;have e:a[i]=x:=by simp_all
 rw[e] at h;exact(ja h).mono (λy c=>((ja c).mono (λys j=>j) λ_ _ z=>z)) λ_ _ z=>z
def CK {K:W.Frag}{t:Tg}{C:FA}{f:FE}{cap:List (Option Nat)}{Z: St}{H:Hp}{Q:VK}(o:v9 K E (Ql cap C t f) Z H Q):Xm cap (fX K E C) (gT t K) (tD K E f) Z H Q:=by
 obtain⟨B,F,sd,r,n⟩:=o;refine⟨B,F,sd,r,(ja n).mono (λds p J G L l wk=>?_) λ_ _ q=>q⟩
 split at p
 .rename_i o;obtain⟨M,hz⟩:=o;refine⟨λi k ys Z b=>k=ds.length-i/\i<=ds.length/\∃a es,Ext G L a b/\RS K B a b (jY cap sd) Z /\ jd K a es ys/\es.length=i /\
   (xU (λx=>(JO t x (jY cap sd)).bind f) (ds.drop i)).need (λrs=>xP K a b Q (.lst (es++rs))) (XW K E a b),⟨ds.length,rfl,Ua _,G,[],.refl l.fh,(r.step l).cap cap,.nil,rfl,?_⟩,?_⟩
  .exact(ja p).mono (λrs q=>(q).ext l) λ_ _ q=>q.ext l
  rintro i k ys Z2 b ⟨rfl,hi,a,es,s,u,w,hl,z⟩;have ly:=w.length;refine⟨(),?_⟩;obtain⟨N,O⟩:=wk i a b s.ff s.fh;by_cases h:i<ds.length
  .obtain⟨go,P⟩:=N h;refine .inr ⟨go,λx R y=>?_⟩;obtain⟨d,S,T,c,U⟩:=P x R y;have Y:=Ga T z;have r3:=u.step c;refine YS r3 U (ja Y) λsd' Z' n4 hb I=>?_;obtain⟨b1,b2⟩:=CJ M hb;refine⟨B,S,sd',I,n4.mono (λy n5 v F4 H4 j i4=>⟨ds.length-(i+1),(),rfl,h,F4,es++[y],(s.trans c).trans j,(I.step j).forget b1 b2,(jd.same (c.ff.trans j.ff) _ _ w).snoc i4,(),n5.mono (λrs q=>?_) λ_ _ q=>q.ext (c.trans j)⟩) λ_ _ q=>q.ext c⟩;rw[Ug];exact q.ext (c.trans j)
  .have he:i=ds.length:=()
   subst he;refine .inl ⟨O (Zf _),λD A=>?_⟩;rw[Ve] at z;have q:xP K a b Q (.lst (es++[])):=z;rw[ZA] at q;exact q D a _ (.keep u.ext.fh A _) A (Qk u.ext.fh A) ⟨ys,JK,w⟩
 .exact p.elim
def Ki (N)(cap)(i:X.calm=true)(a:QL scope X.env N X.N cap=true)(j:QI X E tg iter fi)
 (l:∀b C s H c,QG (JI X scope N b C s H c) tg t) (n:∀b C s H c,QE (JI X scope N b C s H c) E elt f) (hs:∀x,foldedSetIterable iter X.env x=pure x:=by intro _;rfl):
 QN X E (.ListComp elt [⟨tg,iter,[],0⟩] scope pos) (Ql cap fi t f):=PE.weak (Og N cap i a j l n hs) λ_ _ _ h=>CK h
def Q2 (n:Nat)(ds:YG):SD:=ds.map (λd=>~~~d)++List.replicate (n-ds.length) none
def jA (n ar:Nat)(g:FS)(ds:YG):Res D:=if ds.length=ar then(g (Q2 n ds)).bind λo=>match o with
 | .ret d=>.ok d
 | .next _=>.ok .non
 |_=>.no else .no
def qd (n ar:Nat)(g:FS)(ds:YG):Res D:=if ds.length=ar then(g (Q2 n ds)).bind λo=>match o with
 | .ret d=>.ok d
 |_=>.no else .no
theorem RS.start {K:W.Frag}{F H:Hp}{N:Yk}{ds:YG}{c:YE}(s:jl F H)(h:jd K F ds c):RS K ⟨F,H,λ_=>none⟩ F H (Q2 N.length ds) (start N c):=by
 have a:∀{i:Nat} {x:SV},(Q2 N.length ds)[i]? = some (some x)->∃d,ds[i]? = some d/\x=.val d:=λ{i x} q=>by
  unfold Q2 at q;by_cases f:i<ds.length
  .rw[UZ (by rwa [Zql]),Zv,Zqg f] at q;exact⟨ds[i],Zqg f,(Zqi (Zqi q)).symm⟩
  .rw[Vc (by rw[Zql];lia),List.getElem?_replicate] at q
   split at q<;>(first|exact J3 q|cases q)
 refine⟨.refl s,by unfold Q2 L2.start;simp[h.length],λ{i d} q=>?_,λ{i p d} q=>?_,λ{i j p t d e l} _ q=>?_⟩
 .obtain⟨d',o,b⟩:=a q;cases b;obtain⟨v,n,r⟩:=h.get o;refine⟨v,?_,r⟩;unfold L2.start;rw[UZ (by rw[Zql];exact(Je.mp n).1),Zv,n];rfl
 .obtain⟨_,_,b⟩:=a q;cases b
 .obtain⟨_,_,b⟩:=a q;cases b
section
variable {P:Program}{w:World}{K:W.Frag}{mg:Ye}{base:Heap}{x qual:Str}{f:Addr}{fd:FuncData}{N ps:Yk}{k:Nat}
def qk (F:Fun K x qual st f fd)(S:FnScope N ps (JV st))
 (i:∀b A a s H E,Room k (A.deeper (envOfC qual (JV st) s.heap.objs.size f b))->zn (qf yw P w K mg base N qual (JV st) f b A a s H E).nox E0 false (QR st) g):
 FnOk P w K mg base yw (k+1) f fd ps (qN K (jA N.length ps.length g)):=by
 refine F.ok S (λj H Q E ⟨F,ds,_,h,n⟩=>?_) λb A a s H j Q E l ⟨F,ds,hs,h,n⟩=>⟨_,i b A a s H E l,?_⟩
 .unfold jA at n
  split at n
  .rw[h.length];lia
  .exact n.elim
 .unfold jA at n
  split at n
  .refine⟨⟨F,H,λ_=>none⟩,F,_,RS.start hs h,(ja n).mono (λo c=>?_) λ_ _ q=>q⟩;cases o with
   |next sd=>exact λZ p t _ r=>c .non p t r.ext (j9.mpr rfl)
   |ret d=>exact c
   |brk sd=>exact c.elim
   |cont sd=>exact c.elim
  .exact n.elim
def xI (F:Fun K x qual st f fd)(S:FnScope N ps (JV st))
 (i:∀b A a s H E,Room k (A.deeper (envOfC qual (JV st) s.heap.objs.size f b))->zn (qf yw P w K mg base N qual (JV st) f b A a s H E).nox E0 true (QR st) g):
 FnOk P w K mg base yw (k+1) f fd ps (yD K (qd N.length ps.length g)):=by
 refine F.ok S (λj H Q E ⟨F,ds,_,h,n⟩=>?_) λb A a s H j Q E l ⟨F,ds,hs,h,n⟩=>⟨_,i b A a s H E l,?_⟩
 .unfold qd at n
  split at n
  .rw[h.length];lia
  .exact n.elim
 .unfold qd at n
  split at n
  .refine⟨⟨F,H,λ_=>none⟩,F,_,RS.start hs h,(ja n).mono (λo c=>?_) λ_ _ q=>q⟩;cases o with
   |next sd=>exact c.elim
   |ret d=>exact c
   |brk sd=>exact c.elim
   |cont sd=>exact c.elim
  .exact n.elim
end
end
def qc (p:Int×Int):D:=.tup [.int p.1,.int p.2]
def jv (r:Jy):D:=.tup (r.map qc)
def AJ:D->Option (Int×Int)
 | .tup [.int i,.int j]=>some (i,j)
 |_=>none
def Q3 {α: Type}(f:D->Option α):YG->Option (List α)
 | []=>some []
 |d::ds=>(f d).bind λx=>(Q3 f ds).map λa=>x::a
def K6:D->Option Jy
 | .tup ds=>Q3 AJ ds
 |_=>none
def YT:D->Option Int
 | .int i=>some i
 |_=>none
theorem YU {α β: Type}{f:D->Option α}{g:β -> D}{k:β -> α}(h:∀x,f (g x)=some (k x)):∀l:List β,Q3 f (l.map g)=some (l.map k)
 | []=>rfl
 |x::r=>by rw[Zl];unfold Q3;rw[h,YU h r];rfl
theorem YV {α: Type}{f:D->Option α}{g:α -> D}(h:∀d x,f d=some x->d=g x):∀{ds:YG} {l:List α},Q3 f ds=some l->ds=l.map g
 | [],l,e=>by cases e;rfl
 |d::ds,l,e=>by
  unfold Q3 at e;cases a:f d with
  |none=>simp_all
  |some x =>
   cases b:Q3 f ds with
   |none=>simp_all
   |some c =>
    rw[a,b] at e;obtain rfl:=Zqi e;rw[Zl,<- h d x a,<- YV h b]
def Ph (p):AJ (qc p)=some p:=rfl
def Pi (h:AJ d=some p):d=qc p:=by
 cases d with
 |tup ds =>
  cases ds with
  |nil=>exact J3 h
  |cons x ds =>
   cases x with
   |int i =>
    cases ds with
    |nil=>exact J3 h
    |cons y ds =>
     cases y with
     |int j =>
      cases ds with
      |nil=>obtain rfl:=Zqi h;rfl
      |cons _ _=>exact J3 h
     |_=>exact J3 h
   |_=>exact J3 h
 |_=>exact J3 h
def Gb (r):K6 (jv r)=some r:=by
 show Q3 AJ (r.map qc)=some r;rw[YU (k:=id) Ph,List.map_id]
def Gc (h:K6 d=some r):d=jv r:=by
 cases d with
 |tup ds=>unfold jv;rw[<- YV (λ_ _=>Pi) (h)]
 |_=>exact J3 h
def Pj (h:YT d=some i):d=.int i:=by
 cases d with
 |int j=>cases h;rfl
 |_=>exact J3 h
def Pk (h:Q3 YT ds=some l):ds=l.map D.int:=YV (λ_ _=>Pj) h
def Pm (l):Q3 YT (l.map D.int)=some l:=by
 rw[(YU (f:=YT) (λ_=>rfl) l),List.map_id']
theorem AK (l):Q3 K6 (l.map jv)=some l:=by rw[YU (k:=id) Gb,List.map_id]
def CL (h:Q3 K6 ds=some l):ds=l.map jv:=YV (λ_ _=>Gc) h
section
variable {K:W.Frag}{H:Hp}
def rm:jf K H (qc p) v↔Is H (pD p) v:=by
 rfl
theorem vD:∀{r:Jy} {a:YE},jd K H (r.map qc) a↔qm H (r.map pD) a
 | [],a=>by rfl
 |p::r,a=>by
  constructor
  .rintro⟨x,w,rfl,b,c⟩;exact⟨x,w,rfl,rm.mp b,vD.mp c⟩
  .intro h;obtain⟨x,w,e,b,c⟩:=h;exact⟨x,w,e,rm.mpr b,vD.mpr c⟩
def bP:jf K H (jv r) v↔Is H (rD r) v:=by
 constructor
 .rintro⟨a,b,e,c,f⟩;exact⟨a,b,e,c,vD.mp f⟩
 .rintro⟨a,b,e,c,f⟩;exact⟨a,b,e,c,vD.mpr f⟩
theorem zX:∀{r:Jz} {a:YE},jd K H (r.map jv) a↔qm H (r.map rD) a
 | [],a=>by rfl
 |p::r,a=>by
  constructor
  .rintro⟨x,w,rfl,b,c⟩;exact⟨x,w,rfl,bP.mp b,zX.mp c⟩
  .intro h;obtain⟨x,w,e,b,c⟩:=h;exact⟨x,w,e,bP.mpr b,zX.mpr c⟩
end
section
variable {X:Cx}{E:XK}
def gI (f:Int->Int->D):D->D->YH
 | .int i,.int j=>some (f i j)
 |_,_=>none
def gp (c:Int->Int->Bool)(f:Int->Int->D):D->D->YH
 | .int i,.int j=>if c i j then some (f i j) else none
 |_,_=>none
def AL (o:xa X h (wY g))(a:∀i j F,jf X.K F (f i j) (g i j)):yE X h (gI f):=xa.weak o λx y H Q b=>by
 obtain⟨F,d,e,z,c,id,l,hz,q⟩:=b;cases d with
 |int i =>
  cases e with
  |int j=>cases hz;exact⟨i,j,je.mp id,je.mp l,q _ F H (.refl c) (a i j F)⟩
  |_=>exact J3 hz
 |_=>exact J3 hz
def AM (o:xa X h (rI C g))(b:∀i j,c i j=true->C i j)(l:∀i j F,jf X.K F (f i j) (g i j)):yE X h (gp c f):=xa.weak o λx y H Q m=>by
 obtain⟨F,d,e,z,n,id,p,hz,q⟩:=m;cases d with
 |int i =>
  cases e with
  |int j =>
   have hz:(if c i j then some (f i j) else none)=some z:=hz
   split at hz
   .rename_i a;cases hz;exact⟨i,j,je.mp id,je.mp p,b i j a,q _ F H (.refl n) (l i j F)⟩
   simp_all
  |_=>exact J3 hz
 |_=>exact J3 hz
def yr (i)(F):jf X.K F (.int i) (.int i):=je.mpr rfl
def zm (b)(F):jf X.K F (.bl b) (.bl b):=jp.mpr rfl
def xk:=gI λi j=>.int (i-j)
def wA:Nat:=10715086071862673209484250490600018105614048117055336074437503883703510511249361224931983788156958581275946729175531468251871452856923140435984577574698574803934567774824230985421074605062371141877954182153046474983581941267398767559165543946077062914571196477686542167660429831652624386837205668069376
def Kt (i j:Int):Bool:=(UG i.natAbs 18446744073709551616||UG j.natAbs 18446744073709551616)||(UG i.natAbs wA&&UG j.natAbs wA)
def Gd (h:k.natAbs<wA):Builtin.Int.intBits k<=2 ^ 20:=by
 have e:wA<=2 ^ 1000:=Nat.le_of_ble_eq_true rfl;have a:k.natAbs<2 ^ 1000:=()
 unfold Builtin.Int.intBits
 split
 .exact Ua _
 .have l:k.natAbs.log2<1000:=by
   rcases VC k.natAbs with h0|hp
   .simp_all
   .exact(Nat.log2_lt (UJ hp)).mpr a
  lia
def Pn (h:Kt i j=true):IntMulOk i j:=by
 unfold Kt at h;rw[U8,U8,Ud,UH,UH,UH,UH] at h;rcases h with (h|h)|⟨h1,h2⟩
 .exact .of_left (intBits_le_64 () ())
 .exact .of_right (intBits_le_64 () ())
 .exact .of_bits (Gd h1) (Gd h2)
def Po:xa X (binaryOp .Mult) (rI (λi j=>Kt i j=true) λi j=>.int (i*j)):=hF λ_ _ _ _ _ _ _ a q=>mul_int q (Pn a)
def xG:=gp Kt λi j=>.int (i*j)
def Qd:=gp (λ_ j=>UG 0 j.toNat&&UG j.toNat 1073741824) λi j=>.int (i / j)
def jC:=gp (λ_ j=>UG 0 j.toNat) λi j=>.int (i % j)
def zC:=gp (λi j=>Uy (-j).toNat 0&&(Uy j.toNat 1000000&&UG i.natAbs 18446744073709551616)) λi j=>.int (i ^ j.toNat)
def kW:=gI λi j=>.bl (decide (i<j))
def vr:=gI λi j=>.bl (decide (j<i))
def nq:=gI λi j=>.bl (decide (j<=i))
def Xx:yE X (binaryOp .Sub) xk:=AL MN λ_ _ F=>yr _ F
def Xy:yE X (binaryOp .Mult) xG:=AM Po (λi j h=>h) λ_ _ F=>yr _ F
def QP:yE X (binaryOp .FloorDiv) Qd:=AM MO (λi j h=>by simp_all [fQ]) λ_ _ F=>yr _ F
def Qo:yE X (binaryOp .Mod) jC:=AM MP () λ_ _ F=>yr _ F
def Ge:yE X (binaryOp .Pow) zC:=AM MQ (λi j h=>by simp_all [fP]) λ_ _ F=>yr _ F
def vq:yE X (compareOp .Lt) kW:=AL uU λ_ _ F=>zm _ F
def z9:yE X (compareOp .Gt) vr:=AL uV λ_ _ F=>zm _ F
def mE:yE X (compareOp .GtE) nq:=AL uW λ_ _ F=>zm _ F
def qY:D->YH
 | .int i=>some (.int (-i))
 |_=>none
def Wa:wC X (unaryOp .USub) (m7 X.K qY):=wC.weak MS λx H Q a=>by
 obtain⟨F,d,z,b,id,hz,q⟩:=a;cases d with
 |int i=>cases hz;exact⟨i,je.mp id,q _ F H (.refl b) (yr _ F)⟩
 |_=>exact J3 hz
def j3:D->D->YH
 | .int i,.int j=>some (.int (i+j))
 | .str x,.str y=>if x.length+y.length<=sizeLine then some (.str (x++y)) else none
 | .tup a,.tup b=>if a ≠ []/\b ≠ []/\a.length+b.length<=sizeLine then some (.tup (a++b)) else none
 | .lst a,.lst b=>if a.length+b.length<=sizeLine then some (.lst (a++b)) else none
 |_,_=>none
def uA (K:W.Frag):R2:=λx y H Q=>∃l b a c,x=.ref l/\y=.ref b/\xb K H l a/\xb K H b c/\a.length+c.length<=sizeLine/\∀p,H p=none->Q (.ref p) (upd H p (.lst (a++c)))
def Gf:xa X (binaryOp .Add) (uA X.K):=by
 intro Y s Z H x y v u Q I f g h;obtain⟨l,b,w,z,rfl,rfl,i,j,hz,q⟩:=h;obtain rfl:=f;obtain rfl:=g;obtain⟨_,its,n,c,m⟩:=i.ok I.hok;obtain⟨_,a,A,e,o⟩:=j.ok I.hok;have p:=c.length;have r:=e.length;refine PySem.P.add_list m o ?_ ();have t:its.toArray++a.toArray=(its++a).toArray:=by simp
 rw[t];exact⟨.ref _,_,I.lnew (c.append e) (),rfl,q _ I.fresh⟩
def Qg:yE X (binaryOp .Add) j3:=by
 intro Y s Z H x y v u Q I m n ⟨F,d,e,z,c,id,o,hz,q⟩;cases d with
 |int i =>
  cases e with
  |int j=>cases hz;exact MM Y s Z H x y v u Q I m n ⟨i,j,je.mp id,je.mp o,q _ F H (.refl c) (yr _ F)⟩
  |_=>exact J3 hz
 |str a =>
  cases e with
  |str b =>
   have hz:(if a.length+b.length<=sizeLine then some (D.str (a++b)) else none)=some z:=hz
   split at hz
   .rename_i B;cases hz;exact MU Y s Z H x y v u Q I m n ⟨a,b,ju.mp id,ju.mp o,B,q _ F H (.refl c) (ju.mpr rfl)⟩
   simp_all
  |_=>exact J3 hz
 |tup a =>
  cases e with
  |tup b =>
   have hz:(if a ≠ []/\b ≠ []/\a.length+b.length<=sizeLine then some (D.tup (a++b)) else none)=some z:=hz
   split at hz
   .obtain rfl:=Zqi hz;obtain⟨r,f,rfl,t,g⟩:=id;obtain⟨w,ys,rfl,A,h⟩:=o;have C:=g.length;have G:=h.length;have J:f ≠ []:=by grind
    have K:ys ≠ []:=by grind
    refine N2 Y s Z H _ _ v u Q I m n ⟨r,w,f,ys,rfl,rfl,(t.same c).sq,(A.same c).sq,J,(),λz=>Zn z K,λ_ p hp=>?_⟩;have l:=qF c hp (.tup (f++ys));exact q _ _ _ l (j1.mpr ⟨p,_,rfl,.of JK,jd.same l.ff _ _ (g.append h)⟩)
   simp_all
  |_=>exact J3 hz
 |lst a =>
  cases e with
  |lst b =>
   have hz:(if a.length+b.length<=sizeLine then some (D.lst (a++b)) else none)=some z:=hz
   split at hz
   .obtain rfl:=Zqi hz;obtain⟨r,f,rfl,t,g⟩:=id;obtain⟨w,ys,rfl,A,h⟩:=o;have C:=g.length;have G:=h.length;refine Gf Y s Z H _ _ v u Q I m n ⟨r,w,f,ys,rfl,rfl,t.same c,A.same c,(),λp hp=>?_⟩;have l:=qF c hp (.lst (f++ys));exact q _ _ _ l (jk.mpr ⟨p,_,rfl,.of JK,jd.same l.ff _ _ (g.append h)⟩)
   simp_all
  |_=>exact J3 hz
 |_=>exact J3 hz
mutual
def xQ:D->PyData
 | .non=>.none
 | .bl b=>.bool b
 | .int i=>.int i
 | .str x=>.str x
 | .tup ds=>.tuple (KQ ds)
 | .lst ds=>.list (KQ ds)
 | .ty _=>.none
 | .scr _=>.none
 | .dct _ _=>.none
 | .ins _ _ _=>.none
 | .exc _=>.none
 | .ucl _=>.none
 | .adr _=>.none
 | .dcf _ _=>.none
 | .pin _ _=>.none
def KQ:YG->List PyData
 | []=>[]
 |d::ds=>xQ d::KQ ds
end
def qo:Nat->D->Bool
 | 0,_=>false
 |_+1,.int _=>true
 |_+1,.str x=>PyData.strOk x
 |_+1,.non=>true
 |n+1,.tup ds=>ds.all (qo n)
 |n+1,.lst ds=>ds.all (qo n)
 |_+1,_=>false
def Xz:∀n d,qo n d=true->(xQ d).canLay0=true/\(xQ d).depth<=n:=λn=>by
 induction n with
 |zero=>intro _ h;exact JD h
 |succ n a =>
  intro d h;have all:∀ds:YG,ds.all (qo n)=true->PyData.canLayAll0 (KQ ds)=true/\PyData.depthAll (KQ ds)<=n:=by
   intro ds
   induction ds with
   |nil=>intro _;exact⟨rfl,Ua _⟩
   |cons d ds b =>
    intro h;rw[Vf,Ud] at h;obtain⟨c,e⟩:=a d h.1;obtain⟨f,g⟩:=b h.2;exact⟨Jt.mpr ⟨c,f⟩,Nat.max_le.mpr ⟨e,g⟩⟩
  cases d with
  |int i=>exact⟨rfl,Ua _⟩
  |str i=>exact⟨h,Ua _⟩
  |non=>exact⟨rfl,Ua _⟩
  |tup ds=>exact⟨(all ds h).1,Vx (all ds h).2⟩
  |lst ds=>exact⟨(all ds h).1,Vx (all ds h).2⟩
  |_=>exact JD h
def D.ne {d e:D}(h:(d.ctorIdx == e.ctorIdx)=false):¬d=e:=λq=>by
 simp_all
def CM:∀n d e,qo n d=true->qo n e=true->(PyData.eqv (xQ d) (xQ e)=true↔d=e):=λn=>by
 induction n with
 |zero=>intro _ _ h;exact JD h
 |succ n a =>
  intro d e h h';have all:∀ds es:YG,ds.all (qo n)=true->es.all (qo n)=true->(PyData.eqvAll (KQ ds) (KQ es)=true↔ds=es):=by
   intro ds
   induction ds with
   |nil =>
    intro es _ _;cases es with
    |nil=>exact iff_of_true rfl rfl
    |cons e es=>exact Zs Zj ()
   |cons d ds b =>
    intro es c f;cases es with
    |nil=>exact Zs Zj ()
    |cons e es =>
     show(PyData.eqv (xQ d) (xQ e)&&PyData.eqvAll (KQ ds) (KQ es))=true↔_
     simp_all
  cases d with
  |int i =>
   cases e with
   |int j=>exact⟨λq=>Zt D.int (Ys.mp q),λq=>Ys.mpr (D.int.inj q)⟩
   |str _=>exact Zs Zj (D.ne rfl)
   |non=>exact Zs Zj (D.ne rfl)
   |tup _=>exact Zs Zj (D.ne rfl)
   |lst _=>exact Zs Zj (D.ne rfl)
   |_=>exact JD h'
  |str i =>
   cases e with
   |str j=>exact⟨λq=>Zt D.str (of_decide_eq_true q),λq=>Zp (D.str.inj q)⟩
   |int _=>exact Zs Zj (D.ne rfl)
   |non=>exact Zs Zj (D.ne rfl)
   |tup _=>exact Zs Zj (D.ne rfl)
   |lst _=>exact Zs Zj (D.ne rfl)
   |_=>exact JD h'
  |non =>
   cases e with
   |non=>exact iff_of_true rfl rfl
   |int _=>exact Zs Zj (D.ne rfl)
   |str _=>exact Zs Zj (D.ne rfl)
   |tup _=>exact Zs Zj (D.ne rfl)
   |lst _=>exact Zs Zj (D.ne rfl)
   |_=>exact JD h'
  |tup ds =>
   cases e with
   |tup es=>exact(all ds es h h').trans ()
   |int _=>exact Zs Zj (D.ne rfl)
   |str _=>exact Zs Zj (D.ne rfl)
   |non=>exact Zs Zj (D.ne rfl)
   |lst _=>exact Zs Zj (D.ne rfl)
   |_=>exact JD h'
  |lst ds =>
   cases e with
   |lst es=>exact(all ds es h h').trans ()
   |int _=>exact Zs Zj (D.ne rfl)
   |str _=>exact Zs Zj (D.ne rfl)
   |non=>exact Zs Zj (D.ne rfl)
   |tup _=>exact Zs Zj (D.ne rfl)
   |_=>exact JD h'
  |_=>exact JD h
theorem WP {P:Program}{w:World}{K:W.Frag}{H:Hp}{h:Heap}(ok:qP P w H h):∀n d v u,qo n d=true->jf K H d v->jy v u->∃g,Reads h u (xQ d) g
 | 0,_,_,_,p,_,_=>JD p
 |n+1,d,v,u,p,q,r=>by
  have all:∀ds b l,ds.all (qo n)=true->jd K H ds b->jq b l->∃g,ReadsAll h l (KQ ds) g:=by
   intro ds
   induction ds with
   |nil =>
    intro b l _ m f;subst m;cases f;exact⟨_,.nil⟩
   |cons d ds z =>
    intro b l hp m f;rw[Vf,Ud] at hp;obtain⟨x,rs,rfl,j,A⟩:=m;cases f with
    |cons B C =>
     obtain⟨g,s⟩:=WP ok n d x _ hp.1 j B;obtain⟨bs,F⟩:=z rs _ hp.2 A C;exact⟨_,.cons s F⟩
  cases d with
  |int i =>
   subst q;obtain⟨t,rfl⟩:=(r);exact⟨_,.int i t⟩
  |str x =>
   subst q;obtain⟨t,rfl⟩:=(r);exact⟨_,.str x t⟩
  |non =>
   subst q;obtain rfl:=r;exact⟨_,.none⟩
  |tup ds =>
   obtain⟨a,b,rfl,f,j⟩:=q;obtain rfl:=r;obtain⟨_,its,y,o,e,c,G,I⟩:=(ok a _ f);obtain⟨g,s⟩:=all ds b its p j y;exact⟨_,.tuple e c I ()⟩
  |lst ds =>
   obtain⟨a,b,rfl,f,j⟩:=q;obtain rfl:=r;obtain⟨_,its,G,y,e⟩:=f.ok ok;obtain⟨g,s⟩:=all ds b its p j y;exact⟨_,.list e rfl rfl ()⟩
  |_=>exact JD p
section
open Classical
def Qp (d e:D):Bool:=decide (d=e)
def X0 (d):Qp d d=true:=Zp rfl
def bT:Qp d e=true↔d=e:=decide_eq_true_iff
def v7:Qp d e=false↔d≠e:=decide_eq_false_iff_not
def qS:D->D->YH
 | .bl a,.bl b=>some (.bl (a == b))
 |d,e=>if qo 12 d&&qo 12 e then some (.bl (Qp d e)) else none
def yt:D->D->YH
 | .bl a,.bl b=>some (.bl (a != b))
 |d,e=>if qo 12 d&&qo 12 e then some (.bl (!Qp d e)) else none
end
def AN (a:qo 12 d=true)(b:qo 12 e=true):qS d e=some (.bl (Qp d e)):=by
 unfold qS
 split
 .exact JD a
 simp_all
def Gg (a:qo 12 d=true)(b:qo 12 e=true):yt d e=some (.bl (!Qp d e)):=by
 unfold yt
 split
 .exact JD a
 simp_all
def Pp (i j):qS (.int i) (.int j)=some (.bl (decide (i=j))):=by
 rw[AN rfl rfl];by_cases h:i=j
 .simp_all [X0]
 .rw[Zo h,v7.mpr ()]
def Pq (i j):yt (.int i) (.int j)=some (.bl (!decide (i=j))):=by
 rw[Gg rfl rfl];by_cases h:i=j
 .simp_all [X0]
 .rw[Zo h,v7.mpr ()]
def xj (n:X.A.units+64<cLine):yE X (compareOp .Eq) qS:=by
 intro Y s Z H x y v u Q I g h ⟨F,d,e,z,c,id,f,hz,q⟩;unfold qS at hz
 split at hz
 .rename_i a b;obtain rfl:=Zqi hz;refine uX Y s Z H x y v u Q I g h ⟨?_,?_⟩
  .rw[jp.mp id,jp.mp f];rfl
  .rw[jp.mp id,jp.mp f];refine q _ F H (.refl c) ?_;cases a<;>cases b<;>rfl
 .split at hz
  .rename_i hp;rw[Ud] at hp;obtain rfl:=Zqi hz;obtain⟨o,i⟩:=WP I.hok 12 d x v hp.1 (jf.same c _ _ id) g;obtain⟨bs,j⟩:=WP I.hok 12 e y u hp.2 (jf.same c _ _ f) h;have ⟨l,p⟩:=Xz 12 d hp.1;have ⟨m,r⟩:=Xz 12 e hp.2;refine PySem.SeqAt.compareEq_reads i j l m () ?_;rw[(Vi.mpr ((CM 12 d e hp.1 hp.2).trans bT.symm))];exact⟨.bl _,H,I,rfl,q _ F H (.refl c) (zm _ F)⟩
  simp_all
def vp (n:X.A.units+64<cLine):yE X (compareOp .NotEq) yt:=by
 intro Y s Z H x y v u Q I g h ⟨F,d,e,z,c,id,f,hz,q⟩;unfold yt at hz
 split at hz
 .rename_i a b;obtain rfl:=Zqi hz;refine uT Y s Z H x y v u Q I g h ⟨?_,?_⟩
  .rw[jp.mp id,jp.mp f];rfl
  .rw[jp.mp id,jp.mp f];refine q _ F H (.refl c) ?_;cases a<;>cases b<;>rfl
 .split at hz
  .rename_i hp;rw[Ud] at hp;obtain rfl:=Zqi hz;obtain⟨o,i⟩:=WP I.hok 12 d x v hp.1 (jf.same c _ _ id) g;obtain⟨bs,j⟩:=WP I.hok 12 e y u hp.2 (jf.same c _ _ f) h;have ⟨l,p⟩:=Xz 12 d hp.1;have ⟨m,r⟩:=Xz 12 e hp.2;refine PySem.SeqAt.compareNe_reads i j l m () ?_;rw[(Vi.mpr ((CM 12 d e hp.1 hp.2).trans bT.symm))];exact⟨.bl _,H,I,rfl,q _ F H (.refl c) (zm _ F)⟩
  simp_all
end
def PE.or (h:PE X e t)(h':PE X e t'):PE X e (λZ H Q=>t Z H Q\/t' Z H Q):=λY s Z H Q I q=>q.elim (h Y s Z H Q I) (h' Y s Z H Q I)
def PT.or (h:PT X e t)(h':PT X e t'):PT X e (λZ H Q=>t Z H Q\/t' Z H Q):=λY s Z H Q I q=>q.elim (h Y s Z H Q I) (h' Y s Z H Q I)
def QF:D->Option j6
 | .int i=>some (.inl i)
 | .str x=>some (.inr x)
 |_=>none
def WQ {K:W.Frag}{H:Hp}{d:D}{k:j6}{v:V}(h:QF d=some k)(i:jf K H d v):v=kV k:=by
 cases d with
 |int j=>cases h;exact je.mp i
 |str x=>cases h;exact ju.mp i
 |_=>exact J3 h
def jF:List j6->YG->j6->YH
 |k::ks,d::ds,q=>if k=q then some d else jF ks ds q
 |_,_,_=>none
theorem Pr (k q:j6)(v)(r):qA ((k,v)::r) q=if k=q then some v else qA r q:=by
 grind[qA,List.find?_cons]
theorem CN:jF (k::ks) (d::ds) q=if k=q then some d else jF ks ds q:=rfl
theorem X1 {K:W.Frag}{H:Hp}(q):∀{ks:List j6} {ds:YG} {a:YE},ks.length=a.length->jd K H ds a ->
 (∀d,jF ks ds q=some d->∃x,qA (ks.zip a) q=some x/\jf K H d x)/\(jF ks ds q=none->qA (ks.zip a) q=none)
 | [],ds,a,hl,h=>by
  refine⟨λd e=>?_,λ_=>rfl⟩;cases ds<;>exact J3 e
 |k::ks,[],a,hl,h=>by
  simp_all [jd.nil_iff]
 |k::ks,d::ds,a,hl,h=>by
  obtain⟨x,r,rfl,c,b⟩:=h;have f:=X1 q (UN hl) b
  grind[List.zip_cons_cons,Pr,CN]
def zc:List j6->YG->j6->D->YG
 |k::ks,d::ds,q,v=>(if k=q then v else d)::zc ks ds q v
 |_,_,_,_=>[]
def zb:List j6->YE->j6->V->YE
 |k::ks,d::ds,q,v=>(if k=q then v else d)::zb ks ds q v
 |_,_,_,_=>[]
def Gh:zc (k::ks) (d::ds) q v=(if k=q then v else d)::zc ks ds q v:=rfl
def Ps:zb (k::ks) (d::ds) q v=(if k=q then v else d)::zb ks ds q v:=rfl
theorem Gi {K:W.Frag}{H:Hp}{q:j6}{d:D}{v:V}(e:jf K H d v):∀{ks:List j6} {ds:YG} {a:YE},ks.length=a.length->jd K H ds a->jd K H (zc ks ds q d) (zb ks a q v)/\(zb ks a q v).length=ks.length /\
 (ks.zip a).map (λc=>if c.1=q then(c.1,v) else c)=ks.zip (zb ks a q v)
 | [],ds,a,hl,h=>by
  refine⟨?_,rfl,rfl⟩;rfl
 |k::ks,[],a,hl,h=>by
  simp_all [jd.nil_iff]
 |k::ks,d'::ds,a,hl,h=>by
  obtain⟨x,r,rfl,j,f⟩:=h;obtain⟨g,i,l⟩:=Gi e (UN hl) f;rw[Gh,Ps];refine⟨jd.mk ?_ g,by rw[Zu,i];rfl,?_⟩
  .by_cases b:k=q
   .rwa [Zd b,Zd b]
   .rwa [Ze b,Ze b]
  grind[List.zip_cons_cons,List.map_cons]
def y7 (q:j6)(ks:List j6):Bool:=ks.any λk=>decide (k=q)
theorem Gj (q):∀{ks:List j6} {a:YE},ks.length=a.length->((ks.zip a).any λb=>decide (b.1=q))=y7 q ks
 | [],a,_=>rfl
 |k::ks,[],h=>by cases h
 |k::ks,x::a,h=>by
  rw[Vt,List.any_cons,Gj q (UN h)];rfl
def Wb (ks:List j6)(q:j6):List j6:=if y7 q ks=true then ks else ks++[q]
def Wv (ks:List j6)(ds:YG)(q:j6)(v:D):YG:=if y7 q ks=true then zc ks ds q v else ds++[v]
def Gk {K:W.Frag}{H:Hp}{q:j6}{d:D}{v:V}{ks:List j6}{ds:YG}{b:YE}(c:ks.length=b.length)(h:jd K H ds b)(e:jf K H d v):
 ∃ys,qC (ks.zip b) q v=(Wb ks q).zip ys/\(Wb ks q).length=ys.length/\jd K H (Wv ks ds q d) ys:=by
 unfold qC Wb Wv;rw[Gj q c];by_cases a:y7 q ks=true
 .rw[Zd a,Zd a,Zd a];obtain⟨f,g,i⟩:=Gi e c h;exact⟨_,i,g.symm,f⟩
 .rw[Ze a,Ze a,Ze a];exact⟨b++[v],by rw[List.zip_append c];rfl,by simp[c],h.snoc e⟩
section
variable {X:Cx}{E:XK}{m:Option Bool}{a b o i e:Expr}{fa fb fo fi fv:FE}{pos pos' apos cpos:Pos}
def CO {K:W.Frag}{H:Hp}{ds:YG}{c:YE}{k:Int}{d:D}(h:jd K H ds c)(e:qr ds k=some d):∃x,qr c k=some x/\jf K H d x:=by
 unfold qr at e ⊢;rw[h.length];cases f:y0 ds.length k with
 |none=>simp_all
 |some j =>
  rw[f] at e;exact h.get e
def jE:D->D->YH
 | .lst ds,.int k=>qr ds k
 | .tup ds,.int k=>qr ds k
 | .scr ns,.int k=>(qr ns k).map .int
 | .str x,.int k=>if x.length<=sizeLine then(qr x.cps.toList k).map λc=>.str ⟨#[c]⟩ else none
 | .dct ks ds,k=>(QF k).bind λq=>jF ks ds q
 | .dcf ks ds,k=>(QF k).bind λq=>jF ks ds q
 |_,_=>none
def Gm {K:W.Frag}{H:Hp}{d:D}{ks:List j6}{ds:YG}{v:V}(l:d=.dct ks ds\/d=.dcf ks ds)(h:jf K H d v):∃a c,v=.ref a/\Rd H a (.dK (ks.zip c))/\ks.length=c.length/\jd K H ds c:=by
 rcases l with rfl|rfl
 .obtain⟨a,c,f,g,j⟩:=qa.mp h;exact⟨a,c,f,.inl g,j⟩
 .obtain⟨a,o,c,f,g,j⟩:=qw.mp h;exact⟨a,c,f,.inr ⟨o,g⟩,j⟩
def CP {H c:Hp}{a:Addr}{u:HO}(e:jl H c)(h:Rd H a u):Rd c a u:=h.imp (λq=>e _ _ q) λ⟨o,q⟩=>⟨o,e _ _ q⟩
def CQ {H:Hp}{a:Addr}{c:List (j6×V)}{k:j6}(e:Rd H a (.dK c)):x8 H a (kV k) (qA c k):=.inl ⟨c,k,e,rfl,rfl⟩
def Gn:yF X (wZ X.K λd e=>match d with
 | .dct _ _=>none
 | .dcf _ _=>none
 |d=>jE d e):=yF.weak N4 λx y H Q ⟨F,d,e,z,f,id,h,hz,q⟩=>by
 cases d with
 |lst ds =>
  cases e with
  |int k =>
   obtain⟨p,n,rfl,g,r⟩:=id;obtain⟨x,l,s⟩:=CO r (hz);exact .inl ⟨p,n,k,x,rfl,je.mp h,(g.same f).sq,l,q _ F H (.refl f) s⟩
  |_=>exact J3 hz
 |tup ds =>
  cases e with
  |int k =>
   obtain⟨p,n,rfl,g,r⟩:=id;obtain⟨x,l,s⟩:=CO r (hz);exact .inr (.inl ⟨p,n,k,x,rfl,je.mp h,(g.same f).sq,l,q _ F H (.refl f) s⟩)
  |_=>exact J3 hz
 |scr ns =>
  cases e with
  |int k =>
   obtain⟨p,rfl,g⟩:=id;obtain⟨j,v,hz⟩:=Jj.mp (hz);subst hz;refine .inl ⟨p,_,k,.int j,rfl,je.mp h,jl.seq f g,?_,q _ F H (.refl f) (yr _ F)⟩;unfold qr at v ⊢;cases l:y0 ns.length k with
   |none=>simp_all
   |some i=>simp_all
  |_=>exact J3 hz
 |str t =>
  cases e with
  |int k =>
   have hz:(if t.length<=sizeLine then(qr t.cps.toList k).map λc=>D.str ⟨#[c]⟩ else none)=some z:=hz
   split at hz
   .rename_i w;cases u:qr t.cps.toList k with
    |none=>rw[u] at hz;exact J3 hz
    |some c =>
     rw[u] at hz;obtain rfl:=Zqi hz;exact .inr (.inr ⟨t,k,c,ju.mp id,je.mp h,w,u,q _ F H (.refl f) (ju.mpr rfl)⟩)
   simp_all
  |_=>exact J3 hz
 |_=>exact J3 hz
def Qe (C:X.A.units+1<cLine)(t:QE X E a fa)(u:QE X E b fb)(hs:Ak b)(j:zM b):QE X E (.Subscript a b pos) (ji jE fa fb):=
 PE.weak (PE.or (Cm C t u j) (Cf (Gn) t u hs)) λZ H Q h=>by
  obtain⟨B,F,sd,r,n⟩:=h;by_cases l:∃d ks ds,fa sd=.ok d/\(d=.dct ks ds\/d=.dcf ks ds)
  .obtain⟨d,ks,ds,l,A⟩:=l;refine .inl ⟨B,F,sd,r,(ja n).monoE (λx f G v I T g J=>?_) λ_ _ q=>q⟩;rw[l] at f;cases f;refine⟨B,I,sd,r.step g,(ja G).mono (λy K w L M s N=>?_) λ_ _ q=>q.ext g⟩;obtain⟨z,hz,q⟩:=jg K;obtain⟨k,O,hz⟩:=Jf.mp (show(QF y).bind (λq=>jF ks ds q)=some z by rcases A with rfl|rfl<;>exact hz);obtain⟨p,U,rfl,P,R,S⟩:=Gm A J;obtain⟨x,f,ix⟩:=(X1 k R S).1 z hz;refine⟨p,x,rfl,?_,q x L M (g.trans s) (jf.same s.ff _ _ ix)⟩;rw[WQ O N,<- f];exact CQ (CP s.hh (CP g.fh P))
  .refine .inr (YQ ⟨B,F,sd,r,?_⟩);unfold ji at n ⊢;cases f:fa sd with
   |ok d =>
    simp_all
   |no=>simp_all
   |ex c fs=>simp_all
def zZ (c:Bool):D->D->YH
 |k,.dct ks ds=>(QF k).map λq=>.bl (if c then !(jF ks ds q).isSome else(jF ks ds q).isSome)
 |k,.dcf ks ds=>(QF k).map λq=>.bl (if c then !(jF ks ds q).isSome else(jF ks ds q).isSome)
 |d,.lst ds=>if qo 12 d&&ds.all (qo 12) then some (.bl (if c then !ds.any (λe=>Qp e d) else ds.any λe=>Qp e d)) else none
 |d,.tup ds=>if qo 12 d&&ds.all (qo 12) then some (.bl (if c then !ds.any (λe=>Qp e d) else ds.any λe=>Qp e d)) else none
 |_,_=>none
theorem Go {K:W.Frag}{H:Hp}:∀n d e v,qo n d=true->qo n e=true->jf K H d v->jf K H e v->d=e
 | 0,_,_,_,h,_,_,_=>by exact JD h
 |n+1,d,e,v,hd,he,f,c=>by
  have all:∀ds es g,ds.all (qo n)=true->es.all (qo n)=true->jd K H ds g->jd K H es g->ds=es:=by
   intro ds
   induction ds with
   |nil =>
    intro es g _ _ f c;rw[jd.nil_iff] at f;subst f;have:=c.length
    grind
   |cons d ds A =>
    intro es g w y f c;rw[Vf,Ud] at w;rw[js] at f;obtain⟨x,r,rfl,B,C⟩:=f;cases es with
    |nil=>rw[jd.nil_iff] at c;cases c
    |cons e es =>
     rw[Vf,Ud] at y;rw[js] at c;obtain⟨J,L,t,F,G⟩:=c;cases t;rw[Go n d e x w.1 y.1 B F,A es r w.2 y.2 C G]
  have ne:∀{a:Addr} {g ys:YE},xZ K H a g->xb K H a ys->False:=λ{a g ys} p l=>by
   rcases l with l|⟨o,l⟩
   .rw[p] at l;cases l
   .rw[p] at l;cases l
  cases d with
  |int i =>
   rw[je] at f;subst f;cases e with
   |int j=>rw[je] at c;cases c;rfl
   |str j=>rw[ju] at c;cases c
   |non=>rw[j9] at c;cases c
   |tup es=>grind[j1]
   |lst es=>grind[jk]
   |_=>exact JD he
  |str i =>
   rw[ju] at f;subst f;cases e with
   |int j=>rw[je] at c;cases c
   |str j=>rw[ju] at c;cases c;rfl
   |non=>rw[j9] at c;cases c
   |tup es=>simp_all [j1]
   |lst es=>simp_all [jk]
   |_=>exact JD he
  |non =>
   rw[j9] at f;subst f;cases e with
   |int j=>rw[je] at c;cases c
   |str j=>rw[ju] at c;cases c
   |non=>rfl
   |tup es=>grind[j1]
   |lst es=>grind[jk]
   |_=>exact JD he
  |tup ds =>
   rw[j1] at f;obtain⟨a,g,rfl,p,l⟩:=f;cases e with
   |int j=>rw[je] at c;cases c
   |str j=>simp_all [ju]
   |non=>simp_all [j9]
   |tup es =>
    rw[j1] at c;obtain⟨I,q,t,s,z⟩:=c;cases t;have u:H a=some (.tup g):=p;rw[show H a=some (.tup q) from s] at u;cases u;rw[all ds es _ hd he l z]
   |lst es =>
    grind[jk]
   |_=>exact JD he
  |lst ds =>
   rw[jk] at f;obtain⟨a,g,rfl,p,l⟩:=f;cases e with
   |int j=>rw[je] at c;cases c
   |str j=>cases c
   |non=>cases c
   |tup es =>
    grind[j1]
   |lst es =>
    rw[jk] at c;obtain⟨I,q,t,s,z⟩:=c;cases t;have:g=q:=by
     rcases p with p|⟨_,p⟩<;>rcases s with s|⟨_,s⟩<;>rw[p] at s<;>cases s<;>rfl
    subst this;rw[all ds es _ hd he l z]
   |_=>exact JD he
  |_=>exact JD hd
def fG (K:W.Frag)(H:Hp)(d:D)(u:Value):Prop:=∃v,jy v u/\jf K H d v
def x4 (K:W.Frag)(H:Hp)(d:D)(u:Value):Bool:=@decide (fG K H d u) (Classical.propDecidable _)
def Pt {K:W.Frag}{H:Hp}{d e:D}{v:V}{u:Value}(c:qo 12 d=true)(f:qo 12 e=true)(h:jf K H e v)(r:jy v u):x4 K H d u=Qp e d:=by
 by_cases q:e=d
 .rw[q,X0];exact @decide_eq_true _ (Classical.propDecidable _) ⟨v,r,q ▸ h⟩
 .rw[v7.mpr q];refine @decide_eq_false _ (Classical.propDecidable _) λ⟨j,g,h'⟩=>q ?_;rw[g.inj r] at h';exact Go 12 e d v f c h h'
def Gp {P:Program}{w:World}{K:W.Frag}{A:Around}{s:Shared}{H:Hp}(B:A.units+60<cLine)(ok:qP P w H s.heap){d:D}{x:V}{v:Value}(hp:qo 12 d=true)(p:jf K H d x)(q:jy x v):
 ∀{ds:YG} {g:YE} {f:Yf},ds.all (qo 12)=true->jd K H ds g->jq g f->f.map (x4 K H d)=ds.map (λe=>Qp e d)/\∀u∈f,SeqAt.EqAt A s u v (x4 K H d u):=by
 intro ds
 induction ds with
 |nil =>
  intro g f _ h j;subst h;cases j;simp
 |cons e ds r =>
  intro g f c h j;rw[Vf,Ud] at c;obtain⟨y,rs,rfl,l,t⟩:=h;cases j with
  |cons n z =>
   obtain⟨C,F⟩:=r c.2 t z;obtain⟨G,I⟩:=WP ok 12 e y _ c.1 l n;obtain⟨J,L⟩:=WP ok 12 d x v hp p q;obtain⟨M,N⟩:=Xz 12 e c.1;obtain⟨O,Q⟩:=Xz 12 d hp;have es:=Pt hp c.1 l n;refine⟨(),λu hm=>?_⟩;rcases UI.mp hm with hm|hm
   .subst hm;rw[es,<- (Vi.mpr ((CM 12 e d c.1 hp).trans bT.symm):PyData.eqv (xQ e) (xQ d)=Qp e d)]
    grind[SeqAt.eqAt_reads]
   simp_all
def AO {α: Type}{f:α -> Bool}{l:List α}:l.any f=(l.map f).any id:=()
def Pu (C:X.A.units+64<cLine)(c:Bool):xa X (compareOp (if c then .NotIn else .In)) (wZ X.K λd e=>match e with
 | .dct _ _=>none
 | .dcf _ _=>none
 |e=>zZ c d e):=by
 intro Y s Z H x y v u Q I r t ⟨F,d,e,z,f,id,h,hz,q⟩;have id':=jf.same f _ _ id;cases e with
 |lst ds =>
  have hz:(if qo 12 d&&ds.all (qo 12) then some (D.bl (if c then !ds.any (λe=>Qp e d) else ds.any λe=>Qp e d)) else none)=some z:=hz
  split at hz
  .rename_i hp;rw[Ud] at hp;obtain rfl:=Zqi hz;rw[jk] at h;obtain⟨p,w,rfl,j,l⟩:=h;obtain rfl:u=Value.ref p:=t;obtain⟨its,n,pl,B⟩:=I.list (j.same f).sq;obtain⟨k1,k2⟩:=Gp (A:=X.A.in1) (by show X.A.units+1+60<cLine;lia) I.hok hp.1 id' r hp.2 (jd.same f _ _ l) n;have g:its.toArray.any (x4 X.K H d)=ds.any (λe=>Qp e d):=by
    rw[show its.toArray.any (x4 X.K H d)=its.any (x4 X.K H d) by simp,AO,k1,<- AO]
   cases c with
   |true =>
    refine SeqAt.notIn_listAt (x4 X.K H d) pl.isList () ⟨.bl _,H,I,rfl,?_⟩;rw[g];exact q _ F H (.refl f) (zm _ F)
   |false =>
    refine SeqAt.in_listAt (x4 X.K H d) pl.isList () ⟨.bl _,H,I,rfl,?_⟩;rw[g];exact q _ F H (.refl f) (zm _ F)
  simp_all
 |tup ds =>
  have hz:(if qo 12 d&&ds.all (qo 12) then some (D.bl (if c then !ds.any (λe=>Qp e d) else ds.any λe=>Qp e d)) else none)=some z:=hz
  split at hz
  .rename_i hp;rw[Ud] at hp;obtain rfl:=Zqi hz;obtain⟨p,w,rfl,j,l⟩:=h;obtain rfl:=t;obtain⟨its,n,pl,B⟩:=I.tuple (j.same f).sq;obtain⟨k1,k2⟩:=Gp (A:=X.A.in1) (by show X.A.units+1+60<cLine;lia) I.hok hp.1 id' r hp.2 (jd.same f _ _ l) n;have g:its.toArray.any (x4 X.K H d)=ds.any (λe=>Qp e d):=by
    rw[show its.toArray.any (x4 X.K H d)=its.any (x4 X.K H d) by simp,AO,k1,<- AO]
   cases c with
   |true =>
    refine SeqAt.notIn_tupleAt (x4 X.K H d) pl () ⟨.bl _,H,I,rfl,?_⟩;rw[g];exact q _ F H (.refl f) (zm _ F)
   |false =>
    refine SeqAt.in_tupleAt (x4 X.K H d) pl () ⟨.bl _,H,I,rfl,?_⟩;rw[g];exact q _ F H (.refl f) (zm _ F)
  simp_all
 |_=>exact J3 hz
def vW {K:W.Frag}{f:Bool}{Z: St}{H:Hp}{Q:VK}(h:tD K E (ji (zZ f) fa fb) Z H Q):
 (λZ H Q=>tD K E fa Z H λy u=>tD K E fb Z u λx j=>∃a o,x=.ref a/\x8 j a y o/\Q (.bl (if f then !o.isSome else o.isSome)) j) Z H Q\/wX (wZ K λd e=>match e with
 | .dct _ _=>none
 | .dcf _ _=>none
 |e=>zZ f d e) (tD K E fa) (tD K E fb) Z H Q:=by
 obtain⟨B,F,sd,r,n⟩:=h;by_cases l:∃d ks ds,fb sd=.ok d/\(d=.dct ks ds\/d=.dcf ks ds)
 .obtain⟨d,ks,ds,l,A⟩:=l;refine .inl ⟨B,F,sd,r,(ja n).mono (λx J v L u s M=>⟨B,L,sd,r.step s,(ja J).monoE (λy g N w O j C P=>?_) λ_ _ q=>q.ext s⟩) λ_ _ q=>q⟩;rw[l] at g;cases g;obtain⟨z,hz,q⟩:=jg N;obtain⟨k,R,hz⟩:=Jj.mp (show(QF x).map (λq=>D.bl (if f then !(jF ks ds q).isSome else(jF ks ds q).isSome))=some z by rcases A with rfl|rfl<;>exact hz);subst hz;obtain⟨p,G,rfl,S,T,U⟩:=Gm A P;obtain⟨Y,g2⟩:=X1 k T U;refine⟨p,qA (ks.zip G) k,rfl,?_,?_⟩
  .rw[WQ R M];exact CQ (CP C.fh S)
  .have es:(qA (ks.zip G) k).isSome=(jF ks ds k).isSome:=by
    cases I:jF ks ds k with
    |none=>rw[g2 I];rfl
    |some d=>obtain⟨x,t,_⟩:=Y d I;rw[t];rfl
   rw[es];exact q _ O j (s.trans C) (jp.mpr rfl)
 .refine .inr (YQ ⟨B,F,sd,r,?_⟩);unfold ji at n ⊢;cases t:fa sd with
  |ok d =>
   rw[t] at n;cases g:fb sd with
   |ok e =>
    simp_all
   |no=>rwa [g] at n
   |ex c fs=>rwa [g] at n
  |no=>simp_all
  |ex c fs=>simp_all
def CS (j:X.A.units+64<cLine)(c:QE X E a fa)(f:QE X E b fb)(g:behindInMarks .NotIn b=false:=by rfl):QT X E (.Compare a [.NotIn] [b] pos) (JB (ji (zZ true) fa fb)):=
 PT.weak (PT.or (BU (NK () c f) g) (Ey (Pu j true) c f g)) λZ H Q h=>vW (WN h)
end
section
variable {X:Cx}{E:XK}{m:Option Bool}{a b o i e f tg:Expr}{fa fb fo fi fv:FE}{fr:FA}{pos pos' apos cpos p:Pos}
theorem Qs {K:W.Frag}{H:Hp}{d:D}{c:YE}(h:jd K H [d] c):∃v,c=[v]/\jf K H d v:=by
 simp_all [js,jd.nil_iff]
def CT {K:W.Frag}{H:Hp}{d e:D}{c:YE}(h:jd K H [d,e] c):∃v w,c=[v,w]/\jf K H d v/\jf K H e w:=by
 grind[js,Qs]
def jL:YG->YH
 | [.lst ds]=>some (.int ds.length)
 | [.tup ds]=>some (.int ds.length)
 | [.dct ks _]=>some (.int ks.length)
 | [.scr ns]=>some (.int ns.length)
 | [.str x]=>if x.length<=sizeLine then some (.int x.length) else none
 |_=>none
def ri (ds:YG)(z:D):Prop:=(∃es,ds=[.lst es]/\z=.int es.length)\/(∃es,ds=[.tup es]/\z=.int es.length)\/(∃ks es,ds=[.dct ks es]/\z=.int ks.length)\/(∃ns,ds=[.scr ns]/\z=.int ns.length)\/∃x,x.length<=sizeLine/\ds=[.str x]/\z=.int x.length
def Pv (hz:jL ds=some z):ri ds z:=by
 cases ds with
 |nil=>exact J3 hz
 |cons d ds =>
  cases ds with
  |nil =>
   cases d with
   |lst ds=>exact .inl ⟨_,rfl,(Zqi hz).symm⟩
   |tup ds=>exact .inr (.inl ⟨_,rfl,(Zqi hz).symm⟩)
   |dct ks ds=>exact .inr (.inr (.inl ⟨_,_,rfl,(Zqi hz).symm⟩))
   |scr ns=>exact .inr (.inr (.inr (.inl ⟨_,rfl,(Zqi hz).symm⟩)))
   |str x=>exact let q:=CF hz;.inr (.inr (.inr (.inr ⟨_,q.1,rfl,q.2.symm⟩)))
   |_=>exact J3 hz
  |cons e ds=>cases d<;>exact J3 hz
def Kj:jO X (.builtin "len") (yX X.K jL):=jO.weak (jO.or N7 (jO.or NX N8)) λr H Q l=>by
 obtain⟨F,ds,z,c,id,hz,q⟩:=l;rcases Pv hz with ⟨es,rfl,rfl⟩|⟨es,rfl,rfl⟩|⟨ks,es,rfl,rfl⟩|⟨ns,rfl,rfl⟩|⟨x,n,rfl,rfl⟩
 .obtain⟨v,rfl,h⟩:=Qs id;obtain⟨a,ys,rfl,g,j⟩:=h;rw[<- j.length] at q;exact .inl ⟨a,ys,rfl,.inl (g.same c).sq,q _ F H (.refl c) (yr _ F)⟩
 .obtain⟨v,rfl,h⟩:=Qs id;obtain⟨a,ys,rfl,g,j⟩:=h;rw[<- j.length] at q;exact .inl ⟨a,ys,rfl,.inr (g.same c).sq,q _ F H (.refl c) (yr _ F)⟩
 .obtain⟨v,rfl,h⟩:=Qs id;obtain⟨a,ys,rfl,g,j,s⟩:=h;refine .inr (.inl ⟨a,_,rfl,c _ _ g,?_⟩);rw[List.length_zip,<- j,Nat.min_self];exact q _ F H (.refl c) (yr _ F)
 .obtain⟨v,rfl,h⟩:=Qs id;obtain⟨a,rfl,g⟩:=h;refine .inl ⟨a,_,rfl,.inl (jl.seq c g),?_⟩;rw[Zql];exact q _ F H (.refl c) (yr _ F)
 .obtain⟨v,rfl,h⟩:=Qs id;subst h;exact .inr (.inr ⟨_,rfl,n,q _ F H (.refl c) (yr _ F)⟩)
def Wc:YG->YH
 | [.int i,.int j]=>some (.int (if j > i then j else i))
 |_=>none
def AQ:YG->YH
 | [.int i,.int j]=>some (.int (if j<i then j else i))
 |_=>none
def Gq (ds:YG):Prop:=∃i j,ds=[.int i,.int j]
def Pw (hz:Wc ds=some z):Gq ds:=by
 cases ds with
 |nil=>exact J3 hz
 |cons d ds =>
  cases ds with
  |nil=>cases d<;>exact J3 hz
  |cons e ds =>
   cases d with
   |int i =>
    cases e with
    |int j =>
     cases ds with
     |nil=>exact⟨_,_,rfl⟩
     |cons _ _=>exact J3 hz
    |_=>exact J3 hz
   |_=>exact J3 hz
def Px (hz:AQ ds=some z):Gq ds:=by
 cases ds with
 |nil=>exact J3 hz
 |cons d ds =>
  cases ds with
  |nil=>cases d<;>exact J3 hz
  |cons e ds =>
   cases d with
   |int i =>
    cases e with
    |int j =>
     cases ds with
     |nil=>exact⟨_,_,rfl⟩
     |cons _ _=>exact J3 hz
    |_=>exact J3 hz
   |_=>exact J3 hz
def CU (c:X.calm=true):jO X (.builtin "max") (yX X.K Wc):=jO.weak (MV c) λr H Q g=>by
 obtain⟨F,ds,z,h,id,hz,q⟩:=g;obtain⟨i,j,rfl⟩:=Pw hz;obtain rfl:=Zqi hz;obtain⟨v,w,rfl,l,n⟩:=CT id;exact⟨_,_,by rw[je.mp l,je.mp n],q _ F H (.refl h) (yr _ F)⟩
def Py (c:X.calm=true):jO X (.builtin "min") (yX X.K AQ):=jO.weak (MW c) λr H Q g=>by
 obtain⟨F,ds,z,h,id,hz,q⟩:=g;obtain⟨i,j,rfl⟩:=Px hz;obtain rfl:=Zqi hz;obtain⟨v,w,rfl,l,n⟩:=CT id;exact⟨_,_,by rw[je.mp l,je.mp n],q _ F H (.refl h) (yr _ F)⟩
def X2:D->Option Yh
 | .lst ds=>Q3 YT ds
 |_=>none
def CV {K:W.Frag}{H:Hp}{d:D}{ns:Yh}{v:V}(h:X2 d=some ns)(i:jf K H d v):∃a,v=.ref a/\xb K H a (ns.map V.int):=by
 cases d with
 |lst ds =>
  obtain⟨a,j,rfl,g,c⟩:=i;rw[Pk (h)] at c;rw[q9 c] at g
  simp_all
 |_=>exact J3 h
def CW (ns):X2 (.lst (ns.map D.int))=some ns:=Pm ns
def WR:YG->YH
 | [d]=>(X2 d).bind λns=>if ns=[] then none else some (.int (qp ns))
 |_=>none
def Ww:YG->YH
 | [d]=>(X2 d).bind λns=>if ns=[] then none else some (.int (qx ns))
 |_=>none
def Gr (g:X.calm=true):jO X (.builtin "max") (yX X.K WR):=jO.weak (Oj g) λs H Q j=>by
 obtain⟨F,ds,z,c,id,hz,q⟩:=j;unfold WR at hz
 split at hz
 .obtain⟨ns,l,hz⟩:=Jf.mp hz
  split at hz
  .exact J3 hz
  .rename_i n;obtain rfl:=Zqi hz;obtain⟨v,rfl,h⟩:=Qs id;obtain⟨a,rfl,r⟩:=CV l h;exact⟨a,ns,rfl,(r.same c).sq,n,q _ F H (.refl c) (yr _ F)⟩
 simp_all
def CY (g:X.calm=true):jO X (.builtin "min") (yX X.K Ww):=jO.weak (Ol g) λs H Q j=>by
 obtain⟨F,ds,z,c,id,hz,q⟩:=j;unfold Ww at hz
 split at hz
 .obtain⟨ns,l,hz⟩:=Jf.mp hz
  split at hz
  .exact J3 hz
  .rename_i n;obtain rfl:=Zqi hz;obtain⟨v,rfl,h⟩:=Qs id;obtain⟨a,rfl,r⟩:=CV l h;exact⟨a,ns,rfl,(r.same c).sq,n,q _ F H (.refl c) (yr _ F)⟩
 simp_all
def bY:D->Option String
 | .non=>some "NoneType"
 | .bl _=>some "bool"
 | .int _=>some "int"
 | .str _=>some "str"
 | .lst _=>some "list"
 | .tup _=>some "tuple"
 | .dct _ _=>some "dict"
 |_=>none
def vi (t n:String):Bool:=(t == n)||(t == "bool" && n == "int")
def AR (t n:String):Bool:=["NoneType", "bool", "int", "str", "list", "tuple", "dict"].contains t&&["bool", "int", "str", "list", "tuple", "dict"].contains n
def Pz (K)(t n)(h:AR t n=true):W.kitOne K (.type t) (.type n)=some (vi t n):=by
 unfold AR at h;rw[Ud,List.contains_iff_mem,List.contains_iff_mem] at h;obtain⟨c,g⟩:=h;simp only[UI,UT,or_false] at c g;rcases c with rfl|rfl|rfl|rfl|rfl|rfl|rfl<;>rcases g with rfl|rfl|rfl|rfl|rfl|rfl<;>first|rfl|kernel_rfl
def xz:YG->YH
 | [d,.ty n]=>(bY d).bind λt=>if AR t n then some (.bl (vi t n)) else none
 |_=>none
def P0 {K:W.Frag}{H:Hp}{d:D}{v:V}{t:String}(h:bY d=some t)(i:jf K H d v):TyOf K H v (.type t):=by
 cases d with
 |non=>cases h;rw[j9.mp i];exact .non
 |bl b=>cases h;rw[jp.mp i];exact .bl b
 |int j=>cases h;rw[je.mp i];exact .int j
 |str x=>cases h;rw[ju.mp i];exact .str x
 |lst ds =>
  obtain rfl:=Zqi h;obtain⟨a,l,rfl,g,_⟩:=i;rcases g with g|⟨o,g⟩
  .exact .lst g
  .exact .frz g
 |tup ds =>
  obtain rfl:=Zqi h;obtain⟨a,l,rfl,g,_⟩:=i;exact .tup g
 |dct ks ds =>
  obtain rfl:=Zqi h;obtain⟨a,l,rfl,g,_⟩:=i;exact .dK g
 |ty n=>exact J3 h
 |scr n=>exact J3 h
 |ins C fs ds=>exact J3 h
 |exc c=>exact J3 h
 |ucl c=>exact J3 h
 |adr c=>exact J3 h
 |dcf c ds=>exact J3 h
 |pin c ds=>exact J3 h
def rk (ds:YG)(z:D):Prop:=∃d n t,ds=[d,.ty n]/\bY d=some t/\AR t n=true/\z=.bl (vi t n)
def P4 (hz:xz ds=some z):rk ds z:=by
 cases ds with
 |nil=>exact J3 hz
 |cons d ds =>
  cases ds with
  |nil=>exact J3 hz
  |cons e ds =>
   cases ds with
   |nil =>
    cases e with
    |ty n =>
     obtain⟨t,c,hz⟩:=Jf.mp (hz);exact⟨d,n,t,rfl,c,(CF hz).1,(CF hz).2.symm⟩
    |_=>exact J3 hz
   |cons _ _=>cases e<;>exact J3 hz
def AS:jO X (.builtin "isinstance") (yX X.K xz):=jO.weak Om λs H Q g=>by
 obtain⟨F,ds,z,c,id,hz,q⟩:=g;obtain⟨d,n,t,rfl,h,j,rfl⟩:=P4 hz;obtain⟨v,w,rfl,l,r⟩:=CT id;exact⟨v,_,_,_,by rw[xf.mp r],P0 h (jf.same c _ _ l),Pz _ _ _ j,q _ F H (.refl c) (zm _ F)⟩
def AT (c:Gl X x)(g:X.mg x=none)(h:bootBuiltins x=some u)(r:jy (.ty n) u)(j:x ≠ "__name__" := by decide)(l:(x == ("__debug__" : Str))=false:=by decide):QE X E (.Name x pos) (dC (.ty n)):=
 YO (Mu c g h r j l) λ_=>xf.mpr rfl
def QH:YG->YH
 | [.lst ds]=>some (.lst ds)
 | [.tup ds]=>some (.lst ds)
 | [.scr ns]=>some (.lst (ns.map .int))
 |_=>none
def fM (ds:YG)(z:D):Prop:=(∃es,ds=[.lst es]/\z=.lst es)\/(∃es,ds=[.tup es]/\z=.lst es)\/∃ns,ds=[.scr ns]/\z=.lst (ns.map .int)
def P5 (hz:QH ds=some z):fM ds z:=by
 cases ds with
 |nil=>exact J3 hz
 |cons d ds =>
  cases ds with
  |nil =>
   cases d with
   |lst ds=>exact .inl ⟨_,rfl,(Zqi hz).symm⟩
   |tup ds=>exact .inr (.inl ⟨_,rfl,(Zqi hz).symm⟩)
   |scr ns=>exact .inr (.inr ⟨_,rfl,(Zqi hz).symm⟩)
   |_=>exact J3 hz
  |cons e ds=>cases d<;>exact J3 hz
def Wx:jO X (.type "list") (z8 X.K QH):=jO.weak N9 λt H Q s=>by
 obtain⟨F,ds,z,g,id,hz,q⟩:=s;have c:∀{es:YG} {ys:YE},jd X.K F es ys->xP X.K F H Q (.lst es)->∀l,H l=none->Q (.ref l) (upd H l (.lst ys)):=λ{es ys} h q l n =>
  q l F _ (.keep g n _) n (Qk g n) ⟨ys,JK,h⟩
 rcases P5 hz with ⟨es,rfl,rfl⟩|⟨es,rfl,rfl⟩|⟨ns,rfl,rfl⟩
 .obtain⟨v,rfl,h⟩:=Qs id;obtain⟨a,ys,rfl,j,r⟩:=h;exact⟨a,ys,rfl,.inl (j.same g).sq,c r q⟩
 .obtain⟨v,rfl,h⟩:=Qs id;obtain⟨a,ys,rfl,j,r⟩:=h;exact⟨a,ys,rfl,.inr (j.same g).sq,c r q⟩
 .obtain⟨v,rfl,h⟩:=Qs id;obtain⟨a,rfl,j⟩:=h;exact⟨a,_,rfl,.inl (jl.seq g j),c (qh _) q⟩
def Wy:YG->YH
 | [.lst ds]=>some (.tup ds)
 | [.tup ds]=>some (.tup ds)
 |_=>none
def rb (ds:YG)(z:D):Prop:=(∃es,ds=[.lst es]/\z=.tup es)\/∃es,ds=[.tup es]/\z=.tup es
def P6 (hz:Wy ds=some z):rb ds z:=by
 cases ds with
 |nil=>exact J3 hz
 |cons d ds =>
  cases ds with
  |nil =>
   cases d with
   |lst ds=>exact .inl ⟨_,rfl,(Zqi hz).symm⟩
   |tup ds=>exact .inr ⟨_,rfl,(Zqi hz).symm⟩
   |_=>exact J3 hz
  |cons e ds=>cases d<;>exact J3 hz
def AU:jO X (.type "tuple") (yX X.K Wy):=jO.weak NA λt H Q r=>by
 obtain⟨F,ds,z,c,id,hz,q⟩:=r;rcases P6 hz with ⟨es,rfl,rfl⟩|⟨es,rfl,rfl⟩
 .obtain⟨v,rfl,h⟩:=Qs id;obtain⟨a,ys,rfl,g,j⟩:=h;refine⟨a,ys,rfl,.inl ⟨(g.same c).sq,λl s=>?_⟩⟩;have n:=qF c s (.tup ys);exact q _ _ _ n (j1.mpr ⟨l,ys,rfl,.of JK,jd.same n.ff _ _ j⟩)
 .obtain⟨v,rfl,h⟩:=Qs id;have h':=h;obtain⟨a,ys,rfl,g,j⟩:=h;exact⟨a,ys,rfl,.inr ⟨(g.same c).sq,q _ F H (.refl c) h'⟩⟩
def qZ (r:Jy):D:=.dct (r.map λp=>.inl p.1) (r.map λp=>.int p.2)
def X3 (r:Jy):Jy:=r.foldl (λa p=>qL a p.1 p.2) []
def P7 (r):Av r=xy (X3 r):=FP r []
def P8 (h:j4 r):X3 r=r:=by
 grind[X3,FQ]
def Gs (r):xy r=(r.map λp=>(Ue p.1:j6)).zip (r.map λp=>V.int p.2):=by
 grind[xy,List.map_cons]
def P9 (K)(F)(r:Jy):jd K F (r.map λp=>D.int p.2) (r.map λp=>V.int p.2):=by
 have:=qh (K:=K) (H:=F) (r.map (·.2))
 rwa [Zw,Zw] at this
def Wz:YG->YH
 | [d]=>(K6 d).bind λr=>if r.length<=100 then some (qZ (X3 r)) else none
 |_=>none
def AV (g:X.calm=true):jO X (.type "dict") (z8 X.K Wz):=jO.weak (Ov g) λj H Q l=>by
 obtain⟨F,ds,z,c,id,hz,q⟩:=l;unfold Wz at hz
 split at hz
 .obtain⟨r,n,hz⟩:=Jf.mp hz
  split at hz
  .rename_i s;obtain rfl:=Zqi hz;obtain⟨v,rfl,h⟩:=Qs id;rw[Gc n,bP] at h;obtain⟨a,ys,e,_⟩:=(show ∃a j,v=.ref a/\_ by unfold rD at h;rwa [ym] at h);subst e;refine⟨a,r,rfl,(Is.same c _ _ h),s,λp hp=>(q p F _ (.keep c hp _) hp (Qk c hp) ⟨(X3 r).map λp=>V.int p.2,?_,(),P9 _ _ _⟩)⟩;rw[JK,P7,Gs]
  .exact J3 hz
 simp_all
def fz:FE:=λ_=>.ok (.dct [] [])
def PB:QN X E (.Dict [] [] pos) fz:=PE.weak NN λZ H Q ⟨B,F,sd,r,n⟩=>λp hp=>n p F _ (.keep r.ext.fh hp _) hp (Qk r.ext.fh hp) ⟨[],JK,rfl,.nil⟩
def X4 (fo c g:FE):FE:=λsd=>(fo sd).bind λd=>match d with
 | .dct ks ds=>(c sd).bind λk=>(g sd).bind λx=>.ofO ((QF k).map λq=>(jF ks ds q).getD x)
 |_=>.no
def Gu (C:X.A.units+1<cLine)(G:QE X E o fo)(I:QE X E e fa)(J:QE X E f fb)(K:M2 X o "get" apos e f cpos):QE X E (.Call (.Attribute o "get" apos) [e,f] [] cpos) (X4 fo fa fb):=PE.weak (NR C G I J K) λZ H Q L=>by
 obtain⟨B,F,sd,r,n⟩:=L;refine⟨B,F,sd,r,(ja n).mono (λd s v M H1 c N=>?_) λ_ _ q=>q⟩;cases d with
 |dct ks ds =>
  obtain⟨p,O,rfl,P,R,S⟩:=N;have hp:=c.fh _ _ P;refine⟨p,rfl,.inl ⟨_,.inl hp⟩,B,M,sd,r.step c,(ja s).mono (λk T w U H2 g Y=>⟨B,U,sd,(r.step c).step g,(ja T).mono (λx n3 u t A h i3=>?_) λ_ _ q=>q.ext (c.trans g)⟩) λ_ _ q=>q.ext c⟩;obtain⟨z,hz,q⟩:=jg n3;obtain⟨l,hk,hz⟩:=Jj.mp hz;subst hz;obtain⟨g1,g2⟩:=X1 l R S;refine⟨qA (ks.zip O) l,?_,?_⟩
  .rw[WQ hk Y];exact x8.k (h.hh _ _ (g.hh _ _ hp))
  .cases j:jF ks ds l with
   |none =>
    rw[j] at q;rw[g2 j];exact q _ t A ((c.trans g).trans h) i3
   |some d =>
    rw[j] at q;obtain⟨y,hy,iy⟩:=g1 d j;rw[hy];exact q _ t A ((c.trans g).trans h) (jf.same (g.ff.trans h.ff) _ _ iy)
 |_=>exact s.elim
def YW (i:Nat)(c fv:FE):FS:=λsd=>(fv sd).bind λv=>match sd[i]? with
 |some (some (.own false (.dct ks ds)))=>(c sd).bind λk=>match QF k with
  |some q=>if ks.length<sizeLine then .ok (.next (sd.set i (some (.own false (.dct (Wb ks q) (Wv ks ds q v)))))) else .no
  |none=>.no
 |_=>.no
def PF (x:X.A.units+1<cLine)(y:PE X o (xH j))(z:QE X E i fi)(A:QE X E e fv)(hs:swapsWith e (some (.Subscript o i pos')) pos.line X.env=pure false:=by rfl):
 QS X E m (.Assign [.Subscript o i pos'] e pos) (YW j fi fv):=PS.weak (EJ x y z A hs) λT Z H C=>by
 obtain⟨B,F,sd,r,n⟩:=C;refine⟨B,F,sd,r,(ja n).mono (λd s v G S c I=>?_) λ_ _ q=>q.ext r.ext⟩
 split at s
 .rename_i ks ds t;obtain⟨l,u,U,Y,⟨xs,J,K,L⟩,_⟩:=(r.step c).own t;refine⟨.ref l,u,B,G,sd,r.step c,(ja s).mono (λk g w M H2 h N=>?_) λ_ _ q=>q.ext (r.step c).ext⟩
  split at g
  .rename_i q O
   split at g
   .obtain⟨ys,P,Q,R⟩:=Gk K (jd.same h.ff _ _ L) (jf.same h.ff _ _ I);exact⟨l,_,rfl,(by rw[WQ O N];exact zj.k (h.hh _ _ J) ()),g Z M _ (c.ff.trans h.ff) (((r.step c).step h).chg t u ⟨ys,by rw[JK,P],Q,R⟩)⟩
   .exact g.elim
  .exact g.elim
 .exact s.elim
def CZ:D->Option YG
 | .lst ds=>some ds
 | .scr ns=>some (ns.map .int)
 |_=>none
def vH:D->Option YG
 | .tup ds=>some ds
 |_=>none
def iL (f:FE):FA:=λsd=>(f sd).bind λd=>.ofO (CZ d)
def iT (f:FE):FA:=λsd=>(f sd).bind λd=>.ofO (vH d)
def Da {K:W.Frag}{l:Hp}{J:It}{ds:YG}{c:YE}{S:Hp->Prop}(h:jd K l ds c)(w:∀F H,jl l F->jl F H->S H)(g:∀i H x,S H->c[i]? = some x->J.go i H)(st:∀i H,S H->c.length<=i->J.stop i H)
 (z:∀i H x r,S H->J.yld i H x r->r=H/\c[i]? = some x):zJ K l J ds:=λi s j t u=>by
 have n:=w s j t u;refine⟨λv=>?_,λv=>st i j n (by rwa [h.length])⟩;obtain⟨x,A,_⟩:=h.get (Zqg v);refine⟨g i j x n A,λy B C=>?_⟩;obtain⟨rfl,q⟩:=z i j y B n C;obtain⟨d,G,id⟩:=h.getV q;exact⟨d,s,G,.refl u,jf.same t _ _ id⟩
def PH (h:QE X E e fa):QI X E tg e (iL fa):=PI.weak (MG h) λZ H R G=>by
 obtain⟨B,F,sd,r,n⟩:=G;refine⟨B,F,sd,r,(ja n).mono (λd I v z A l C=>?_) λ_ _ q=>q⟩;obtain⟨ds,hz,q⟩:=jg I;cases d with
 |lst es =>
  obtain rfl:=Zqi hz;obtain⟨a,s,rfl,g,J⟩:=C;refine⟨a,rfl,⟨s,(g.same l.fh).sq⟩,q _ z A l (Da J (λF H t u=>((g.same t).same u).sq) (λi H x c w=>⟨s,x,c,w⟩) (λi H c y=>⟨s,c,y⟩) λi H x K c j=>⟨j.1,j.2 s c⟩)⟩
 |scr ns =>
  obtain rfl:=Zqi hz;obtain⟨a,rfl,g⟩:=C;refine⟨a,rfl,⟨_,jl.seq l.fh g⟩,q _ z A l (Da (qh ns) (λF H t u=>jl.seq u (jl.seq t g)) (λi H x c w=>⟨_,x,c,w⟩) (λi H c y=>⟨_,c,y⟩) λi H x K c j=>⟨j.1,j.2 _ c⟩)⟩
 |_=>exact J3 hz
def PJ (h:QE X E e fa):QI X E tg e (iT fa):=PI.weak (MI h) λZ H R t=>by
 obtain⟨B,F,sd,r,n⟩:=t;refine⟨B,F,sd,r,(ja n).mono (λd u v w y j z=>?_) λ_ _ q=>q⟩;obtain⟨ds,hz,q⟩:=jg u;cases d with
 |tup es =>
  obtain rfl:=Zqi hz;obtain⟨a,g,rfl,l,A⟩:=z;refine⟨a,rfl,⟨g,(l.same j.fh).sq⟩,q _ w y j (Da A (λF H C G=>((l.same C).same G).sq) (λi H x c I=>⟨g,x,c,I⟩) (λi H c J=>⟨g,c,J⟩) λi H x K c s=>⟨s.1,s.2 g c⟩)⟩
 |_=>exact J3 hz
def re {X:Cx}{tg e:Expr}{t t':TI}(h:PI X tg e t)(h':PI X tg e t'):PI X tg e (λZ H R=>t Z H R\/t' Z H R):=λY s Z H R I q=>q.elim (h Y s Z H R I) (h' Y s Z H R I)
def W0:D->Option YG
 | .lst ds=>some ds
 | .scr ns=>some (ns.map .int)
 | .tup ds=>some ds
 |_=>none
def iS (f:FE):FA:=λsd=>(f sd).bind λd=>.ofO (W0 d)
def JT (h:QE X E e fa):QI X E tg e (iS fa):=PI.weak (re (PH h) (PJ h)) λZ H R l=>by
 obtain⟨B,F,sd,r,n⟩:=l;by_cases g:∃ds,fa sd=.ok (.tup ds)
 .obtain⟨ds,g⟩:=g;refine .inr ⟨B,F,sd,r,?_⟩;unfold iS at n;unfold iT
  rwa [g] at n ⊢
 .refine .inl ⟨B,F,sd,r,?_⟩;unfold iS at n;unfold iL;cases j:fa sd with
  |ok d =>
   rw[j] at n;cases d with
   |tup ds=>simp_all
   |_=>exact n
  |no=>rwa [j] at n
  |ex c fs=>rwa [j] at n
def Qc (lo:Int)(n:Nat):YG:=(List.range n).map λk:Nat=>.int (lo+k)
def X5 (j:Int):Bool:=Uy j.toNat 1000000000&&Uy (-j).toNat 1000000000
def Gv (h:X5 j=true): -(2 ^ 62)<=j/\j<2 ^ 62:=by
 unfold X5 at h;rw[Ud,UO,UO] at h;lia
def PK (c: -1000000000<=j)(g:j<=1000000000):X5 j=true:=by
 unfold X5;rw[Ud,UO,UO];lia
def yM (fr:FA):FA:=λsd=>(fr sd).bind λds=>match ds with
 | [.int j]=>if X5 j then .ok (Qc 0 j.toNat) else .no
 |_=>.no
def PM {K:W.Frag}{g:Hp}(lo)(n):zJ K g (bN lo n) (Qc lo n):=λi h r s j=>by
 have l:(Qc lo n).length=n:=by unfold Qc;simp
 rw[l];refine⟨λc=>⟨c,λx t q=>?_⟩,λc=>c⟩;obtain⟨rfl,rfl⟩:=q;refine⟨.int (lo+i),h,?_,.refl j,je.mpr rfl⟩
 simp_all [Qc]
def KR {a:Expr}(l:Gl X "range")(s:X.mg "range" = none)(t:QA X E [a] fr)(hs:starEach [a] X.env=[(false,eval a X.env)]:=by rfl):QI X E tg (.Call (.Name "range" p) [a] [] pos) (yM fr):=PI.weak (MK l s t hs) λZ H R u=>by
 obtain⟨B,F,sd,r,n⟩:=u;refine⟨B,F,sd,r,(ja n).mono (λds c A w x y z=>?_) λ_ _ q=>q⟩
 split at c
 .split at c
  .rename_i j g;obtain⟨v,rfl,h⟩:=Qs z;rw[je.mp h];exact⟨j,rfl,(Gv g).1,(Gv g).2,c _ w x y (PM 0 _)⟩
  .exact c.elim
 .exact c.elim
end
section
variable {X:Cx}{E:XK}{m:Option Bool}{a b o i e f tg:Expr}{fa fb fo fi fv:FE}{fr:FA}{pos pos' apos cpos p:Pos}
def PG.weak (h:PG X e t)(w:∀v Z H Q,t' v Z H Q->t v Z H Q):PG X e t':=λY s Z H v u Q I r q=>h Y s Z H v u Q I r (w _ _ _ _ q)
def Db:Yj->vc
 | []=>kR
 |i::is=>Eo (Ux i) (Db is)
theorem Gw:∀{is:Yj} {c:YE} {Z: St} {H:Hp} {Q:St->Hp->Prop},c.length=is.length->Q (AI is c Z) H->Db is c Z H Q
 | [],c,Z,H,Q,hl,q=>⟨(),q⟩
 |i::is,[],Z,H,Q,hl,q=>by cases hl
 |i::is,x::c,Z,H,Q,hl,q=>⟨x,c,rfl,Gw (UN hl) q⟩
def Qf {i:Nat}{e:Expr}(h:PG X e (Ux i)):QG X e (.one i):=h
def Kk (is)(h:PG X e (kO X.K is.length (Db is))):QG X e (.tup is):=PG.weak h λv Z H Q ⟨a,g,e,j,c,q⟩=>⟨a,g,e,j,c,Gw c q⟩
def KS (tg:Tg)(c:FT)(f:FE)(sd:SD):YG->Res YG
 | []=>.ok []
 |x::xs=>(JO tg x sd).bind λs=>(c s).bind λb=>if b then(f s).bind λy=>(KS tg c f sd xs).bind λys=>.ok (y::ys) else KS tg c f sd xs
def WS (cap:List (Option Nat))(it:FA)(tg:Tg)(c:FT)(f:FE):FE:=λsd=>(it sd).bind λds=>if VZ (jY cap sd) tg=true/\ds.length<sizeLine then
 (KS tg c f (jY cap sd) ds).bind λys=>.ok (.lst ys) else .no
def Gx {K:W.Frag}{t:Tg}{fi:FA}{G:FT}{f:FE}{cap:List (Option Nat)}{Z: St}{H:Hp}{Q:VK}(I:v9 K E (WS cap fi t G f) Z H Q):Y1 cap (fX K E fi) (gT t K) (fW K E G) (tD K E f) Z H Q:=by
 obtain⟨B,F,sd,r,n⟩:=I;refine⟨B,F,sd,r,(ja n).mono (λds L J P H1 w wk=>?_) λ_ _ q=>q⟩
 split at L
 .rename_i I;obtain⟨hn,hz⟩:=I;refine⟨λi k ys Z l=>k=ds.length-i/\i<=ds.length/\∃h es,Ext P H1 h l/\RS K B h l (jY cap sd) Z /\ jd K h es ys/\es.length<=i /\
   (KS t G f (jY cap sd) (ds.drop i)).need (λrs=>xP K h l Q (.lst (es++rs))) (XW K E h l),⟨ds.length,rfl,Ua _,P,[],.refl w.fh,(r.step w).cap cap,.nil,Zf _,?_⟩,?_⟩
  .exact(ja L).mono (λrs q=>(q).ext w) λ_ _ q=>q.ext w
  rintro i k ys Z2 l ⟨rfl,hi,h,es,z,M,A,R,s⟩;have ly:=A.length;refine⟨(),?_⟩;obtain⟨w1,w2⟩:=wk i h l z.ff z.fh;by_cases j:i<ds.length
  .obtain⟨go,yl⟩:=w1 j;refine .inr ⟨go,λx H3 y=>?_⟩;obtain⟨d,F3,hd,g,i3⟩:=yl x H3 y;rw[Ur j] at s;have N:ds[i]=d:=by grind[Zqg,Zqi]
   rw[N] at s;refine YS (M.step g) i3 (ja s) λsd' Z' n4 hb C=>?_;have ⟨S,T⟩:=CJ hn hb;refine⟨B,F3,sd',C,(ja n4).mono (λb U Y H4 c=>?_) λ_ _ q=>q.ext g⟩;cases b with
   |true =>
    refine⟨B,Y,sd',C.step c,(ja U).mono (λy n6 v F5 H5 u i5=>⟨ds.length-(i+1),(),rfl,j,F5,es++[y],((z.trans g).trans c).trans u,((C.step c).step u).forget S T,(jd.same ((g.ff.trans c.ff).trans u.ff) _ _ A).snoc i5,by rw[Ub];exact Vx R,(ja n6).mono (λrs q=>?_) λ_ _ q=>q.ext ((g.trans c).trans u)⟩) λ_ _ q=>q.ext (g.trans c)⟩;rw[Ug];exact(q).ext ((g.trans c).trans u)
   |false =>
    exact⟨ds.length-(i+1),(),rfl,j,Y,es,(z.trans g).trans c,(C.step c).forget S T,jd.same (g.ff.trans c.ff) _ _ A,Vn R,(U).mono (λrs q=>q.ext (g.trans c)) λ_ _ q=>q.ext (g.trans c)⟩
  .have he:i=ds.length:=()
   subst he;refine .inl ⟨w2 (Zf _),λD O=>?_⟩;rw[Ve] at s;have q:xP K h l Q (.lst (es++[])):=s;rw[ZA] at q;exact q D h _ (.keep M.ext.fh O _) O (Qk M.ext.fh O) ⟨ys,JK,A⟩
 .exact L.elim
def Gy {tg j l c:Expr}{g:Scope}{t:Tg}{fi:FA}{u:FT}{f:FE}(N)(cap)(v:X.calm=true)(r:QL g X.env N X.N cap=true)(w:QI X E tg j fi)
 (y:∀n C s H q,QG (JI X g N n C s H q) tg t) (z:∀n C s H q,QT (JI X g N n C s H q) E c u) (A:∀n C s H q,QE (JI X g N n C s H q) E l f) (hs:∀x,foldedSetIterable j X.env x=pure x:=by intro _;rfl):
 QN X E (.ListComp l [⟨tg,j,[c],0⟩] g pos) (WS cap fi t u f):=PE.weak (OO N cap v r w y z A hs) λ_ _ _ h=>Gx h
def YX:List j6->YG->Option Jy
 | .inl k::ks,.int v::ds=>(YX ks ds).map λr=>(k,v)::r
 | [],[]=>some []
 |_,_=>none
def PN (ks:List j6)(ds:YG)(r:Jy):Prop:=ks=r.map (λp=>.inl p.1)/\ds=r.map λp=>.int p.2
def PP (h:YX ks ds=some r):PN ks ds r:=by
 induction ks generalizing ds r with
 |nil =>
  cases ds with
  |nil=>obtain rfl:=Zqi h;exact⟨rfl,rfl⟩
  |cons _ _=>exact J3 h
 |cons k ks c =>
  cases k with
  |inr _=>exact J3 h
  |inl k =>
   cases ds with
   |nil=>exact J3 h
   |cons d ds =>
    cases d with
    |int v =>
     obtain⟨l,g,j⟩:=Jj.mp (h);subst j;exact⟨Zt (Ue k :: ·) (c g).1,Zt (D.int v :: ·) (c g).2⟩
    |_=>exact J3 h
def PQ (r):YX (r.map λp=>.inl p.1) (r.map λp=>.int p.2)=some r:=by
 induction r with
 |nil=>rfl
 |cons p r c=>exact Zt (Option.map λr=>(p.1,p.2)::r) c
def zU (s:jl F H)(fr:∀p∈L,H p.1=none):Ext F H (qH F L) (qH H L):=by
 have c:∀{G:Hp} {b:Addr},H b≠none->qH G L b=G b:=λ{G b} g=>A6 ();have ne:∀{b:Addr} {o:HO},H b=some o->H b≠none:=by grind
 refine⟨λb o e=>by rwa [c (ne (s _ _ e))],λb o e=>?_,λb o e=>by rwa [c (ne e)],()⟩;rcases FM e with h|⟨h1,h2⟩
 .grind[qH]
 .rw[A6 h1];exact s _ _ h2
def Dc:D->YH
 | .dct ks ds=>(YX ks ds).bind λr=>if r ≠ []/\r.length<1000 then some (.lst ((JS jW r).map qc)) else none
 |_=>none
def Dd (fo:FE):FE:=λsd=>(fo sd).bind λd=>.ofO (Dc d)
def PR (h:∀{C:TE},PE X o C->PE X e (wl (λt H Q=>∃c d r,t=[.ref c]/\H c=some (Wt c d)/\H d=some (.dK (xy r))/\r ≠ []/\r.length<1000/\∀l L,(∀p∈L,H p.1=none)->(L.map (·.1)).Nodup->(∀G,Is (qH G L) (.list ((JS jW r).map pD)) (.ref l))->Q (.ref l) (qH H L))
 (Ai (uf X.K "dict" (λx M H Q=>∃d u,x=.ref d/\M=[]/\H d=some (.dK u)/\∀p,H p=none->Q (.ref p) (upd H p (Wt p d))) C) wf))) (N:QE X E o fo):QE X E e (Dd fo):=PE.weak (h N) λZ H Q O=>by
 obtain⟨B,F,sd,r,n⟩:=O;refine⟨B,F,sd,r,(ja n).mono (λd P v s I w R=>?_) λ_ _ q=>q⟩;obtain⟨z,hz,q⟩:=jg P;cases d with
 |dct ks ds =>
  obtain⟨y,S,A⟩:=Jf.mp (hz)
  split at A
  .rename_i J;obtain rfl:=Zqi A;obtain⟨k1,k2⟩:=PP S;obtain⟨d,t,rfl,T,g2,U⟩:=R;have Y:t=y.map λp=>V.int p.2:=by
    rw[k2] at U;have:=q9 (by rwa [Zw]);rw[this,Zw];rfl
   have hd:s d=some (.dK (xy y)):=by rw[T,k1,Y,<- Gs]
   have g:=w.fh _ _ hd;refine⟨.inr (.inr (.inl ⟨rfl,.inl ⟨_,g⟩⟩)),d,_,rfl,rfl,g,λc j=>⟨c,d,y,rfl,JK,(K4 j (Wt c d)) _ _ g,J.1,J.2,λl L fr nd hl=>?_⟩⟩;have K:Ext s I s (upd I c (Wt c d)):=.keep w.fh j _;refine q _ _ _ (w.trans (K.trans (zU K.fh fr))) ?_;obtain⟨l',ys,e',g4,g5⟩:=xC.mp (hl s);exact jk.mpr ⟨l',ys,e',.of g4,vD.mpr g5⟩
  .exact J3 A
 |_=>exact J3 hz
end
section
variable {P:Program}{w:World}{K:W.Frag}{mg:Ye}{base:Heap}{f:Addr}{fd:FuncData}{ps:Yk}{k:Nat}
def gy:FnOk P w K mg base yw k f fd ps (qN K λ_=>.no):=⟨λ_ _ _ _ ⟨_,_,_,_,n⟩=>n.elim,λ_ _ _ _ _ _ _ _ _ _ _ _ _ ⟨_,_,_,_,n⟩=>n.elim⟩
end
section
variable {X:Cx}{E:XK}{m:Option Bool}{a b o i e f tg:Expr}{fa fb fo fi fv:FE}{fr:FA}{pos pos' apos cpos p:Pos}
def jI (c:Bool):D->YH
 | .non=>some (.bl (!c))
 |_=>some (.bl c)
def K7:D->Bool
 | .non=>true
 |_=>false
def Gz {K:W.Frag}{H:Hp}{d:D}{v:V}(h:jf K H d v):decide (v=.non)=K7 d:=by
 cases d with
 |non=>rw[j9.mp h];rfl
 |bl b=>rw[jp.mp h];rfl
 |int b=>rw[je.mp h];rfl
 |str b=>rw[ju.mp h];rfl
 |ty b=>rw[xf.mp h];rfl
 |scr b=>obtain⟨a,rfl,_⟩:=qs.mp h;rfl
 |tup b=>obtain⟨a,_,rfl,_⟩:=j1.mp h;rfl
 |lst b=>obtain⟨a,_,rfl,_⟩:=jk.mp h;rfl
 |dct b c=>obtain⟨a,_,rfl,_⟩:=qa.mp h;rfl
 |ins b c d=>obtain⟨a,_,_,_,rfl,_⟩:=jZ.mp h;rfl
 |exc b=>obtain⟨a,_,rfl,_⟩:=qU.mp h;rfl
 |ucl b=>obtain⟨a,rfl,_⟩:=yB.mp h;rfl
 |adr b=>rw[qb.mp h];rfl
 |dcf b c=>obtain⟨a,_,_,rfl,_⟩:=qw.mp h;rfl
 |pin b c=>rw[(qu.mp h).1];rfl
def G0 {K:W.Frag}{Z: St}{H:Hp}{Q:VK}(h:tD K E (jS (jI false) fa) Z H Q):vT (tD K E fa) Z H Q:=by
 obtain⟨B,F,sd,r,n⟩:=h;refine⟨B,F,sd,r,(ja n).mono (λx g v j c l s=>?_) λ_ _ q=>q⟩;show Q (V.bl (decide (v=V.non))) c;rw[Gz s];cases x<;>exact g _ j c l (jp.mpr rfl)
def PU {K:W.Frag}{Z: St}{H:Hp}{Q:VK}(h:tD K E (jS (jI true) fa) Z H Q):Em (tD K E fa) Z H Q:=by
 obtain⟨B,F,sd,r,n⟩:=h;refine⟨B,F,sd,r,(ja n).mono (λx g v j c l s=>?_) λ_ _ q=>q⟩;show Q (V.bl !decide (v=V.non)) c;rw[Gz s];cases x<;>exact g _ j c l (jp.mpr rfl)
def G1 {j pos'}(c:QE X E a fa):QE X E (.Compare a [.Is] [.Constant .none j pos'] pos) (jS (jI false) fa):=PE.weak (Mw (En c)) λ_ _ _ h=>G0 h
def AW {j pos'}(c:QE X E a fa):QT X E (.Compare a [.Is] [.Constant .none j pos'] pos) (JB (jS (jI false) fa)):=PT.weak (BU (En c)) λ_ _ _ h=>G0 (WN h)
def AX {j pos'}(c:QE X E a fa):QT X E (.Compare a [.IsNot] [.Constant .none j pos'] pos) (JB (jS (jI true) fa)):=PT.weak (BU (Mv c)) λ_ _ _ h=>PU (WN h)
def WT (i:Nat)(fb:FE):FE:=λsd=>match sd[i]? with
 |some (some (.own _ d))=>(fb sd).bind λy=>.ofO (jE d y)
 |_=>.no
def PX {i:Nat}(M:X.A.units+1<cLine)(J:PE X a (xH i))(K:QE X E b fb)(hs:Ak b)(u:zM b):QE X E (.Subscript a b pos) (WT i fb):=
 PE.weak (PE.or (Cm M J K u) (Cf rn J K hs)) λZ H Q N=>by
  obtain⟨B,F,sd,r,n⟩:=N;unfold WT at n
  split at n
  .rename_i p d O;obtain⟨l,v,S,T,A,_⟩:=r.own O;cases d with
   |lst ds =>
    obtain⟨L,C,G⟩:=A;refine .inr ⟨.ref l,v,B,F,sd,r,(ja n).mono (λy h w j s g t=>?_) λ_ _ q=>q⟩;obtain⟨z,hz,q⟩:=jg h;cases y with
    |int k =>
     obtain⟨x,I,ix⟩:=CO G (hz);exact⟨l,L,k,x,rfl,je.mp t,qE.of (g.hh _ _ C),I,q _ j s g (jf.same g.ff _ _ ix)⟩
    |_=>exact J3 hz
   |dct ks ds =>
    obtain⟨L,C,G,P⟩:=A;refine .inl ⟨.ref l,v,B,F,sd,r,(ja n).mono (λy h w j s g t=>?_) λ_ _ q=>q⟩;obtain⟨z,hz,q⟩:=jg h;obtain⟨k,R,hz⟩:=Jf.mp (hz);obtain⟨x,I,ix⟩:=(X1 k G P).1 z hz;refine⟨l,x,rfl,?_,q x j s g (jf.same g.ff _ _ ix)⟩;rw[WQ R t,<- I];exact x8.k (g.hh _ _ C)
   |ins c fs ds =>
    refine .inr ⟨.ref l,v,B,F,sd,r,(ja n).mono (λy h w j s g t=>?_) λ_ _ q=>q⟩;obtain⟨z,hz,q⟩:=jg h;cases y<;>exact J3 hz
   |_=>exact A.elim
  .exact n.elim
end
end L2.DL
namespace L2
section
variable {X:Cx}{tg iter elt c:Expr}{scope:Scope}{pos:Pos}{wi:TI}{g:TG}{te:TE}{tt:TT}
def G2 (a:X.N.Nodup)(f:X.N[iy]? = some y)(h:yR X.env.scope y)(i:X.fn y=true\/X.env.scope.names.lookup y=some .local):
 Y2 X Y Z (λv B=>DD.nx (Z.set iy (some v)) B) (some (assign (.Name y py) X.env)) (λ_ s'=>SP X Y DD .next s'):=λC D m j r E F N sz G H k=>by
 obtain⟨O,z,A,l,I,J⟩:=k j.heap ⟨rfl,λ_ _=>rfl⟩;obtain⟨n,q,s,K,t,u⟩:=id E;have L:Inv X (Y++[(C,n)]) Z z { j with heap:=j.heap }:=A.pins_of λp hp=>by
  rcases Jb.mp hp with hp|hp
  .exact A.pin p ()
  simp_all
 exact wpAny_assign_Name (Ae L a f h l (λP w=>(⟨m,⟨n,q,s,(w.pin (C,n) ()).1,t,u⟩,λh' x=>⟨_,z,(w.pins_of λp hp=>w.pin p ()).turned (λb o M e=>(x.2 b M).trans e) I F (.inr sz) G H,J⟩⟩)) i)
def G3 (a:swapsWith (.ListComp elt [⟨tg,iter,[],0⟩] scope pos) (some (.Name y py)) spos.line X.env=pure true)(b:X.N.Nodup)(f:X.N[iy]? = some y)(i:yR X.env.scope y)(j:X.fn y=true\/X.env.scope.names.lookup y=some .local)(N)(cap)(o:X.calm=true)(l:QL scope X.env N X.N cap=true)(p:PI X tg iter wi)(q:∀m C s H n,PG (JI X scope N m C s H n) tg g)(t:∀m C s H n,PE (JI X scope N m C s H n) elt te)
 (hs:∀x,foldedSetIterable iter X.env x=pure x:=by intro _;rfl):PS X (.Assign [.Name y py] (.ListComp elt [⟨tg,iter,[],0⟩] scope pos) spos) (zw (Xm cap wi g te) (Ux iy)):=by
 intro Y s Z H u I h;rw[exec_Assign_Name_used _ _ _ _ a];refine Za (wpAny_standAt (Za (Za (Zc (ER N cap o l p q () hs I h (G2 b f i j)) (λ_ s' r=>Zb (Zb r)) λ_ _ e=>e))))
def PY (f:swapsWith (.ListComp elt [⟨tg,iter,[c],0⟩] scope pos) (some (.Name y py)) spos.line X.env=pure true)(i:X.N.Nodup)(j:X.N[iy]? = some y)(l:yR X.env.scope y)(m:X.fn y=true\/X.env.scope.names.lookup y=some .local)(N)(cap)(o:X.calm=true)(n:QL scope X.env N X.N cap=true)(p:PI X tg iter wi)(q:∀a C s H b,PG (JI X scope N a C s H b) tg g)(r:∀a C s H b,PT (JI X scope N a C s H b) c tt)(t:∀a C s H b,PE (JI X scope N a C s H b) elt te)
 (hs:∀x,foldedSetIterable iter X.env x=pure x:=by intro _;rfl):PS X (.Assign [.Name y py] (.ListComp elt [⟨tg,iter,[c],0⟩] scope pos) spos) (zw (Y1 cap wi g tt te) (Ux iy)):=by
 intro Y s Z H v I h;rw[exec_Assign_Name_used _ _ _ _ f];refine Za (wpAny_standAt (Za (Za (Zc (FK N cap o n p q r t hs I h (G2 i j l m)) (λ_ s' u=>Zb (Zb u)) λ_ _ e=>e))))
end
end L2
namespace L2.DL
section
variable {X:Cx}{E:XK}{m:Option Bool}{tg iter elt c:Expr}{scope:Scope}{pos spos py:Pos}{y:Str}{iy:Nat}{t:Tg}{fi:FA}{fc:FT}{f:FE}
def De {K:W.Frag}{a:TE}{i:Nat}{b:FE}(w:∀Z H Q,v9 K E b Z H Q->a Z H Q){T:Ends}{Z: St}{H:Hp}(h:vZ K E m (jr i b) T Z H):zw a (Ux i) T Z H:=w _ _ _ (by
 obtain⟨B,F,sd,r,n⟩:=h;exact⟨B,F,sd,r,(ja n).mono (λd g=>yu.new λv j l e o=>(g _ j l e.ff ((r.step e).setVal o))) λ_ _ q=>q.ext r.ext⟩)
def G4 (N)(cap)(a:X.N.Nodup)(b:X.N[iy]? = some y)(e:yR X.env.scope y)(o:X.calm=true)(g:QL scope X.env N X.N cap=true)(p:QI X E tg iter fi)
 (r:∀i C s H j,QG (JI X scope N i C s H j) tg t) (u:∀i C s H j,QE (JI X scope N i C s H j) E elt f) (l:swapsWith (.ListComp elt [⟨tg,iter,[],0⟩] scope pos) (some (.Name y py)) spos.line X.env=pure true:=by rfl)
 (n:X.fn y=true\/X.env.scope.names.lookup y=some .local:=by trivial) (hs:∀x,foldedSetIterable iter X.env x=pure x:=by intro _;rfl):
 QS X E m (.Assign [.Name y py] (.ListComp elt [⟨tg,iter,[],0⟩] scope pos) spos) (jr iy (Ql cap fi t f)):=PS.weak (G3 l a b e n N cap o g p r u hs) λT Z H h=>De (λ_ _ _ q=>CK q) h
def PZ (N)(cap)(e:X.N.Nodup)(g:X.N[iy]? = some y)(i:yR X.env.scope y)(o:X.calm=true)(j:QL scope X.env N X.N cap=true)(p:QI X E tg iter fi)
 (r:∀a C s H b,QG (JI X scope N a C s H b) tg t) (u:∀a C s H b,QT (JI X scope N a C s H b) E c fc) (v:∀a C s H b,QE (JI X scope N a C s H b) E elt f) (l:swapsWith (.ListComp elt [⟨tg,iter,[c],0⟩] scope pos) (some (.Name y py)) spos.line X.env=pure true:=by rfl)
 (n:X.fn y=true\/X.env.scope.names.lookup y=some .local:=by trivial) (hs:∀x,foldedSetIterable iter X.env x=pure x:=by intro _;rfl):
 QS X E m (.Assign [.Name y py] (.ListComp elt [⟨tg,iter,[c],0⟩] scope pos) spos) (jr iy (WS cap fi t fc f)):=PS.weak (PY l e g i n N cap o j p r u v hs) λT Z H h=>De (λ_ _ _ q=>Gx q) h
end
def G8:Option (Option SV)->Res D
 |some (~~~d)=>.ok d
 |_=>.no
@[simp]def pV (d):G8 (some (~~~d))=.ok d:=rfl
@[simp]def nF (i)(sd):jb i sd=G8 sd[i]?:= rfl
@[simp]def pM (d)(sd):dC d sd=.ok d:=rfl
@[simp]def si (g)(fa fb)(sd):ji g fa fb sd=(fa sd).bind λx=>(fb sd).bind λy=>.ofO (g x y):=rfl
@[simp]def sf (g)(fa)(sd):jS g fa sd=(fa sd).bind λx=>.ofO (g x):=rfl
def sm:D->Res Bool
 | .bl b=>.ok b
 |_=>.no
@[simp]def nZ (b):sm (.bl b)=.ok b:=rfl
@[simp]def bD (fa)(sd):JB fa sd=(fa sd).bind sm:=by
 rfl
@[simp]def br (f)(sd):QX f sd=(f sd).bind λb=>.ok (!b):=rfl
@[simp]def bF (f g)(sd):V5 f g sd=(f sd).bind λb=>if b then g sd else .ok false:=rfl
@[simp]def nN (f g)(sd):yP f g sd=(f sd).bind λb=>if b then .ok true else g sd:=rfl
@[simp]def bE (fa fb)(sd):V6 fa fb sd=(JB fa sd).bind λb=>if b then fb sd else .ok (.bl false):=rfl
@[simp]def nO (sd):jc sd=.ok []:=rfl
@[simp]def bA (fa)(fr)(sd):J0 fa fr sd=(fa sd).bind λx=>(fr sd).bind λa=>.ok (x::a):=rfl
@[simp]def nP (fr)(sd):jR fr sd=(fr sd).bind λa=>if a.length<=1000 then .ok (.lst a) else .no:=rfl
@[simp]def nG (fr)(sd):ql fr sd=(fr sd).bind λa=>if a.length<=1000 then .ok (.tup a) else .no:=rfl
@[simp]def bC (Fn)(fr)(sd):J7 Fn fr sd=(fr sd).bind Fn:=rfl
@[simp]def nU (g)(fr)(sd):jn g fr sd=(fr sd).bind λa=>.ofO (g a):=rfl
@[simp]def bJ {α: Type}(a:α):(Res.ok a).bare=.ok a:=rfl
@[simp]def nI (is)(f)(sd):yj is f sd=(f (qz is sd)).bare.bind λd=>if KP d then .ok d else .no:=rfl
@[simp]def uu (i):KP (.int i)=true:=rfl
@[simp]def hD (i):KP (.bl i)=true:=rfl
@[simp]def gu (sd):qz [] sd=sd:=rfl
def frz1 (i:Nat)(sd:SD):Option (Option SV)->SD
 |some (some (.own _ d))=>sd.set i (~~~d)
 |_=>sd
@[simp]def gv (i)(sd)(p)(d):frz1 i sd (some (some (.own p d)))=sd.set i (~~~d):=rfl
@[simp]def pP (i)(is)(sd):qz (i::is) sd=qz is (frz1 i sd sd[i]?):=by
 rfl
def xr (g:FS):Out->Res Out
 | .next sd=>g sd
 |o=>.ok o
@[simp]def lu (g)(sd):xr g (.next sd)=g sd:=rfl
@[simp]def uq (g)(d):xr g (.ret d)=.ok (.ret d):=rfl
@[simp]def ur (g)(d):xr g (.brk d)=.ok (.brk d):=rfl
@[simp]def Ra (g1 g2)(sd):jh g1 g2 sd=(g1 sd).bind (xr g2):=by
 rfl
@[simp]def bt (sd):JJ sd=.ok (.next sd):=rfl
@[simp]def nT (sd):vk sd=.ok (.brk sd):=rfl
@[simp]def nJ (i)(f)(sd):jr i f sd=(f sd).bind λd=>.ok (.next (sd.set i (~~~d))):=rfl
@[simp]def nM (i)(f)(sd):qB i f sd=(f sd).bind λd=>.ok (.next (sd.set i (some (.own false d)))):=rfl
@[simp]def nL (f)(sd):jz f sd=(f sd).bind λd=>.ok (.ret d):=rfl
def vn:Option (Option SV)->Res D
 |some (some (.own _ d))=>.ok d
 |_=>.no
@[simp]def uN (p)(d):vn (some (some (.own p d)))=.ok d:=rfl
@[simp]def l3 (i)(sd):Kh i sd=(vn sd[i]?).bind λd=>.ok (.ret d):=by
 unfold Kh;cases sd[i]? with
 |none=>rfl
 |some o =>
  cases o with
  |none=>rfl
  |some v=>cases v<;>rfl
@[simp]def nQ (c)(g1 g2)(sd):qi c g1 g2 sd=(c sd).bind λb=>if b then g1 sd else g2 sd:=rfl
def wp:Option (Option SV)->Res YG
 |some (some (.own false (.lst ds)))=>.ok ds
 |_=>.no
@[simp]def uO (ds):wp (some (some (.own false (.lst ds))))=.ok ds:=rfl
@[simp]def ls (i)(f)(sd):Q9 i f sd=(wp sd[i]?).bind λds=>(f sd).bind λd=>if ds.length<sizeLine then .ok (.next (sd.set i (some (.own false (.lst (ds++[d])))))) else .no:=by
 unfold Q9;cases sd[i]? with
 |none=>rfl
 |some o =>
  cases o with
  |none=>rfl
  |some v =>
   cases v with
   |val d=>rfl
   |own p d=>cases p<;>cases d<;>rfl
def G9:D->Res YG
 | .lst es=>.ok es
 |_=>.no
@[simp]def lh (es):G9 (.lst es)=.ok es:=rfl
@[simp]def pU (i)(f)(sd):Xw i f sd=(wp sd[i]?).bind λds=>(f sd).bind λd=>(G9 d).bind λes=>if ds.length+es.length<=sizeLine then .ok (.next (sd.set i (some (.own false (.lst (ds++es)))))) else .no:=by
 unfold Xw;cases sd[i]? with
 |none=>rfl
 |some o =>
  cases o with
  |none=>rfl
  |some v =>
   cases v with
   |val d=>rfl
   |own p d =>
    cases p with
    |true=>cases d<;>rfl
    |false =>
     cases d with
     |lst ds =>
      cases f sd with
      |ok x=>cases x<;>rfl
      |ex c fs=>rfl
      |no=>rfl
     |_=>rfl
def uQ:Option (Option SV)->Res (List j6×YG)
 |some (some (.own false (.dct ks ds)))=>.ok (ks,ds)
 |_=>.no
@[simp]def uP (ks)(ds):uQ (some (some (.own false (.dct ks ds))))=.ok (ks,ds):=rfl
@[simp]def b9 (i)(fk fv)(sd):YW i fk fv sd=(fv sd).bind λv=>(uQ sd[i]?).bind λo=>(fk sd).bind λk=>(Res.ofO (QF k)).bind λq=>if o.1.length<sizeLine then .ok (.next (sd.set i (some (.own false (.dct (Wb o.1 q) (Wv o.1 o.2 q v)))))) else .no:=by
 unfold YW;cases fv sd with
 |ok v =>
  cases sd[i]? with
  |none=>rfl
  |some o =>
   cases o with
   |none=>rfl
   |some w =>
    cases w with
    |val d=>rfl
    |own p d =>
     cases p with
     |true=>cases d<;>rfl
     |false =>
      cases d with
      |dct ks ds =>
       cases fk sd with
       |ok k=>show(match QF k with|some q=>_|none=>_)=(Res.ofO (QF k)).bind _;cases QF k<;>rfl
       |ex c fs=>rfl
       |no=>rfl
      |_=>rfl
 |ex c fs=>rfl
 |no=>rfl
def xx:Out->Res D
 | .ret d=>.ok d
 | .next _=>.ok .non
 |_=>.no
@[simp]def uR (d):xx (.ret d)=.ok d:=rfl
def GA (n ar)(g)(ds)(h:ds.length=ar):jA n ar g ds=(g (Q2 n ds)).bind xx:=by
 unfold jA;rw[Zd h];rfl
def yg:Out->Res D
 | .ret d=>.ok d
 |_=>.no
@[simp]def uS (d):yg (.ret d)=.ok d:=rfl
def GB (n ar)(g)(ds)(h:ds.length=ar):qd n ar g ds=(g (Q2 n ds)).bind yg:=by
 unfold qd;rw[Zd h];rfl
@[simp]def mz (n)(g)(a):jA n 1 g [a]=(g (~~~a::List.replicate (n-1) none)).bind xx:=GA n 1 g [a] rfl
@[simp]def my (n)(g)(a b):jA n 2 g [a,b]=(g (~~~a::~~~b::List.replicate (n-2) none)).bind xx:=rfl
@[simp]def mx (n)(g)(a b c):jA n 3 g [a,b,c]=(g (~~~a::~~~b::~~~c::List.replicate (n-3) none)).bind xx:=rfl
@[simp]def Rb (n:Nat)(g:FS)(a b c d:D):jA n 4 g [a,b,c,d]=(g (~~~a::~~~b::~~~c::~~~d::List.replicate (n-4) none)).bind xx:=GA n 4 g [a,b,c,d] rfl
@[simp]def mv (n)(g)(a b):qd n 2 g [a,b]=(g (~~~a::~~~b::List.replicate (n-2) none)).bind yg:=rfl
@[simp]def mu (n)(g)(a b c):qd n 3 g [a,b,c]=(g (~~~a::~~~b::~~~c::List.replicate (n-3) none)).bind yg:=rfl
@[simp]def mt (n:Nat)(g:FS)(a b c d:D):qd n 4 g [a,b,c,d]=(g (~~~a::~~~b::~~~c::~~~d::List.replicate (n-4) none)).bind yg:=GB n 4 g [a,b,c,d] rfl
@[simp]def gt (i j):j3 (.int i) (.int j)=some (.int (i+j)):=rfl
@[simp]def kP (i j):xk (.int i) (.int j)=some (.int (i-j)):=rfl
@[simp]def kT (i):qY (.int i)=some (.int (-i)):=rfl
@[simp]def hU (i j):kW (.int i) (.int j)=some (.bl (decide (i<j))):=rfl
@[simp]def bh (i j):vr (.int i) (.int j)=some (.bl (decide (j<i))):=rfl
@[simp]def bi (i j):nq (.int i) (.int j)=some (.bl (decide (j<=i))):=rfl
@[simp]def gr (i j):qS (.int i) (.int j)=some (.bl (decide (i=j))):=Pp i j
@[simp]def kU (i j):yt (.int i) (.int j)=some (.bl (!decide (i=j))):=Pq i j
def X6 (h:Kt i j=true):xG (.int i) (.int j)=some (.int (i*j)):=by
 show(if Kt i j then _ else _)=_
 simp_all
def AY (a: -18446744073709551616<j)(b:j<18446744073709551616):Kt i j=true:=by
 unfold Kt;rw[U8,U8,UH,UH];lia
def Rc (a: -18446744073709551616<i)(b:i<18446744073709551616):Kt i j=true:=by
 unfold Kt;rw[U8,U8,UH,UH];lia
@[simp]def AZ (h:0<j):jC (.int i) (.int j)=some (.int (i % j)):=by
 show(if UG 0 j.toNat then _ else _)=_;rw[Zd (by rw[UH];lia)]
@[simp]def GC (h:0<j)(a:j<1073741824):Qd (.int i) (.int j)=some (.int (i / j)):=by
 show(if UG 0 j.toNat&&UG j.toNat 1073741824 then _ else _)=_;rw[Zd (by rw[Ud,UH,UH];lia)]
@[simp]def Ba (ds):jL [.lst ds]=some (.int ds.length):=rfl
@[simp]def kY (ds:YG):jL [.tup ds]=some (.int ds.length):=rfl
@[simp]def kZ (ns):jL [.scr ns]=some (.int ns.length):=rfl
@[simp]def l9 (i j):Wc [.int i,.int j]=some (.int (if j > i then j else i)):=rfl
@[simp]def pZ (i j):AQ [.int i,.int j]=some (.int (if j<i then j else i)):=rfl
@[simp]def lA (ds):QH [.lst ds]=some (.lst ds):=rfl
@[simp]def lI (ds):Wy [.lst ds]=some (.tup ds):=rfl
@[simp]def bb (ds)(k):jE (.lst ds) (.int k)=qr ds k:=rfl
@[simp]def hX (ds:YG)(k:Int):jE (.tup ds) (.int k)=qr ds k:=rfl
@[simp]def hY (ns)(k):jE (.scr ns) (.int k)=(qr ns k).map .int:=rfl
@[simp]def bf (ks)(ds)(k):jE (.dct ks ds) (.int k)=jF ks ds (.inl k):=rfl
@[simp]def bg (neg)(ks)(ds)(k):zZ neg (.int k) (.dct ks ds)=some (.bl (if neg then !(jF ks ds (.inl k)).isSome else(jF ks ds (.inl k)).isSome)):=rfl
@[simp]def lg (k):QF (.int k)=some (.inl k):=rfl
@[simp]def Bb (h:r.length<=100)(o:j4 r):Wz [jv r]=some (qZ r):=by
 show(K6 (jv r)).bind _=_;rw[Gb];show(if r.length<=100 then some (qZ (X3 r)) else none)=_;rw[Zd h,P8 o]
def GD (h:ns ≠ []):WR [.lst (ns.map .int)]=some (.int (qp ns)):=by
 simp_all [WR,CW]
def Df (h:ns ≠ []):Ww [.lst (ns.map .int)]=some (.int (qx ns)):=by
 simp_all [Ww,CW]
theorem X7:∀{r:Jy},j4 r->∀t:Int,jF (r.map λp=>.inl p.1) (r.map λp=>.int p.2) (.inl t)=(J5 r t).map .int
 | [],_,t=>rfl
 |p::r,o,t=>by
  have a:j4 r:=by simp_all [j4]
  have n:p.1∉r.map (·.1):=by simp_all [j4]
  rw[Zl,Zl,CN,A7];by_cases h:p.1=t
  .cases q:J5 r t with
   |none=>simp_all
   |some w=>exact Zn (Ja.mpr ⟨(t,w),Qn q,h.symm⟩) n
  .rw[Ze (λz=>h (by injection z)),X7 a t]
   grind
def GE:D->Res (List j6×YG)
 | .dct ks ds=>.ok (ks,ds)
 |_=>.no
@[simp]def pY (ks)(ds):GE (.dct ks ds)=.ok (ks,ds):=rfl
@[simp]def b7 (fo fk fx)(sd):X4 fo fk fx sd=(fo sd).bind λd=>(GE d).bind λo=>(fk sd).bind λk=>(fx sd).bind λx=>.ofO ((QF k).map λq=>(jF o.1 o.2 q).getD x):=by
 unfold X4;cases fo sd with
 |ok d=>cases d<;>rfl
 |ex c fs=>rfl
 |no=>rfl
def Re (r:Jy)(t):y7 (.inl t) (r.map λp=>.inl p.1)=r.any λp=>decide (p.1=t):=by
 grind[y7,List.any_map]
def Rf (r)(t w):D.dct (Wb (r.map λp=>.inl p.1) (.inl t)) (Wv (r.map λp=>.inl p.1) (r.map λp=>.int p.2) (.inl t) (.int w))=qZ (qL r t w):=by
 unfold Wb Wv qZ qL;rw[Re];have ch:∀r:Jy,zc (r.map λp=>.inl p.1) (r.map λp=>.int p.2) (.inl t) (.int w)=(r.map λp=>if p.1=t then(p.1,w) else p).map λp=>D.int p.2:=by
  intro r
  induction r with
  |nil=>rfl
  |cons p r a =>
   rw[Zl,Zl,Zl,Zl,Gh,a];by_cases h:p.1=t
   .rw[Zd (by rw[h]),Zd h]
   .rw[Ze (λz=>h (by injection z)),Ze h]
 have b:∀r:Jy,(r.map λp=>if p.1=t then(p.1,w) else p).map (λp=>(Ue p.1:j6))=r.map λp=>.inl p.1:=by
  intro r;rw[Zw]
  congr 1
  funext p
  show(Ue (if p.1=t then(p.1,w) else p).1:j6)=_;by_cases h:p.1=t
  .rw[Zd h]
  .rw[Ze h]
 by_cases q:(r.any λp=>decide (p.1=t))=true
 .rw[Zd q,Zd q,Zd q,ch,b]
 .rw[Ze q,Ze q,Ze q,Uc,Uc];rfl
@[simp]def lN (fo)(sd):Dd fo sd=(fo sd).bind λd=>.ofO (Dc d):=rfl
def Rg (h:r ≠ [])(a:r.length<1000):Dc (qZ r)=some (.lst ((JS jW r).map qc)):=by
 show(YX _ _).bind _=_
 simp_all [PQ]
@[simp]def gX (f)(sd):iS f sd=(f sd).bind λd=>.ofO (W0 d):=rfl
@[simp]def pX (ds):W0 (.lst ds)=some ds:=rfl
@[simp]def lw (ds):W0 (.tup ds)=some ds:=rfl
def KU:YG->Res YG
 | [.int j]=>if X5 j then .ok (Qc 0 j.toNat) else .no
 |_=>.no
@[simp]def nR (fr)(sd):yM fr sd=(fr sd).bind KU:=by
 rfl
def W1 (a: -1000000000<=j)(b:j<=1000000000):KU [.int j]=.ok (Qc 0 j.toNat):=Zd (PK a b)
def Bc {lo:Int}{n i:Nat}{x:D}(h:(Qc lo n)[i]? = some x):x=.int (lo+i)/\i<n:=by
 grind[Qc,List.getElem?_map,List.length_range]
def Wd (lo)(n):(Qc lo n).length=n:=by unfold Qc;simp
def qM (tg:Tg)(b:FS)(ds:YG)(sd:SD):Res Out:=xV (λx sd=>(JO tg x sd).bind b) ds sd
@[simp]def Rh (it)(tg)(b)(sd):jQ it tg b sd=(it sd).bind λds=>qM tg b ds sd:=rfl
@[simp]def gw (tg:Tg)(b:FS)(sd:SD):qM tg b [] sd=.ok (.next sd):=rfl
@[simp]def Ri (i)(d)(sd):JO (.one i) d sd=.ok (sd.set i (~~~d)):=rfl
@[simp]def lx (i j)(a b)(sd):JO (.tup [i,j]) (.tup [a,b]) sd=.ok ((sd.set i (~~~a)).set j (~~~b)):=rfl
@[simp]def lG (i j)(p)(sd):JO (.tup [i,j]) (qc p) sd=.ok ((sd.set i (~~~(.int p.1))).set j (~~~(.int p.2))):=rfl
def K8 (P:Nat->SD->Prop)(l:P 0 sd)(hs:∀i (x:D) sd,ds[i]? = some x->P i sd->∃sd',(JO tg x sd).bind b=.ok (.next sd')/\P (i+1) sd'):∃sd',qM tg b ds sd=.ok (.next sd')/\P ds.length sd':=by
 have c:∀k i sd,ds.length-i=k->i<=ds.length->P i sd->∃sd',qM tg b (ds.drop i) sd=.ok (.next sd')/\P ds.length sd':=by
  intro k
  induction k with
  |zero =>
   intro i sd e f p;have:i=ds.length:=()
   simp_all
  |succ k g =>
   intro i sd e f p;have a:i<ds.length:=()
   rw[Ur a];obtain⟨sd',m,h⟩:=hs i ds[i] sd () p;have ⟨j,n,o⟩:=g (i+1) sd' () a h
   simp_all [qM,xV]
 grind
def X8 (R:Res Out->Prop)(P:Nat->SD->Prop)(j:P 0 sd)(l:∀sd,P ds.length sd->R (.ok (.next sd)))
 (hs:∀i x sd,ds[i]? = some x->P i sd->(∃sd',((JO tg x sd).bind b=.ok (.next sd')\/(JO tg x sd).bind b=.ok (.cont sd'))/\P (i+1) sd')\/(∃sd',(JO tg x sd).bind b=.ok (.brk sd')/\R (.ok (.next sd')))\/∃d,(JO tg x sd).bind b=.ok (.ret d)/\R (.ok (.ret d))):R (qM tg b ds sd):=by
 have g:∀k i sd,ds.length-i=k->i<=ds.length->P i sd->R (qM tg b (ds.drop i) sd):=by
  intro k
  induction k with
  |zero =>
   intro i sd e h p;have:i=ds.length:=()
   simp_all
  |succ k f =>
   intro i sd e h p;have a:i<ds.length:=()
   rw[Ur a];unfold qM xV;rcases hs i ds[i] sd () p with ⟨sd',h1|h1,c⟩|⟨sd',h1,c⟩|⟨d,h1,c⟩
   .rw[h1];exact f (i+1) sd' () a c
   .rw[h1];exact f (i+1) sd' () a c
   .rwa [h1]
   .rwa [h1]
 grind
def GF {α β γ: Type}{f:α -> Res β}{k:γ -> α}{g:γ -> β}{a:List γ}(h:∀x∈a,f (k x)=.ok (g x)):xU f (a.map k)=.ok (a.map g):=by
 induction a with
 |nil=>rfl
 |cons x a b =>
  simp_all [xU]
def jT (tg:Tg)(f:FE)(c:SD)(ds:YG):Res YG:=xU (λx=>(JO tg x c).bind f) ds
@[simp]def bB (cap)(it)(tg)(f)(sd):Ql cap it tg f sd=(it sd).bind λds=>if VZ (jY cap sd) tg=true/\ds.length<sizeLine then(jT tg f (jY cap sd) ds).bind λys=>.ok (.lst ys) else .no:=rfl
def fA:Option (Option SV)->Option SV
 |some (~~~d)=>~~~d
 |_=>none
@[simp]def f9 (d):fA (some (~~~d))= ~~~d:=rfl
@[simp]def fB (sd):jY [] sd=[]:=rfl
@[simp]def nY (cap)(sd):jY (none::cap) sd=none::jY cap sd:=rfl
@[simp]def nX (j)(cap)(sd):jY (some j::cap) sd=fA sd[j]? :: jY cap sd:=rfl
@[simp]def lD (sd)(i):VZ sd (.one i)=V9 sd i:=rfl
@[simp]def lC (sd)(is):VZ sd (.tup is)=is.all (V9 sd):=rfl
@[simp]def km (sd:SD):V9 (none::sd) 0=true:=rfl
@[simp]def kl (o)(sd:SD)(i):V9 (o::sd) (i+1)=V9 sd i:=rfl
def Ku {α: Type}{k:α -> D}{g:α -> D}{a:List α}(h:∀x∈a,(JO tg (k x) c).bind f=.ok (g x)):jT tg f c (a.map k)=.ok (a.map g):=GF h
def X9 {tg:Tg}{f:FE}{c:SD}{lo:Int}{n:Nat}{g:Nat->D}(h:∀i,i<n->(JO tg (.int (lo+i)) c).bind f=.ok (g i)):jT tg f c (Qc lo n)=.ok ((List.range n).map g):=GF ()
@[simp]def pQ (cap)(it)(tg)(c)(f)(sd):WS cap it tg c f sd=(it sd).bind λds=>if VZ (jY cap sd) tg=true/\ds.length<sizeLine then(KS tg c f (jY cap sd) ds).bind λys=>.ok (.lst ys) else .no:=rfl
def Dg {α: Type}{k:α -> D}{s:α -> SD}{p:α -> Bool}{g:α -> D}{a:List α}(b:∀x∈a,JO tg (k x) sd=.ok (s x))(e:∀x∈a,c (s x)=.ok (p x))(h:∀x∈a,p x=true->f (s x)=.ok (g x)):
 KS tg c f sd (a.map k)=.ok ((a.filter p).map g):=by
 induction a with
 |nil=>rfl
 |cons x a i =>
  grind[KS,List.map_cons,List.filter_cons,jt]
def JU (h:n<=1000):n<sizeLine:=EM h
@[simp]def lL (ds:YG):xz [.lst ds,.ty "list"]=some (.bl true):=rfl
@[simp]def lP (ds:YG):xz [.tup ds,.ty "tuple"]=some (.bl true):=rfl
def Qm {α: Type}(a:List α)(lo b st:Option Int):List α:= (sliceRange (sliceBounds lo b st a.length).1 (sliceBounds lo b st a.length).2.1 (sliceBounds lo b st a.length).2.2).filterMap (a[·]?)
def GG (its)(lo hi st):slicePick its.toArray lo hi st=(Qm its lo hi st).toArray:=by
 simp_all [slicePick,Qm]
def Rj {a:YE}{its:Yf}(r:jq a its)(lo hi st):jq (Qm a lo hi st) (Qm its lo hi st):=by
 unfold Qm;rw[r.length];generalize sliceRange _ _ _=ix
 induction ix with
 |nil=>exact .nil
 |cons i ix c =>
  rw[UX,UX];cases b:a[i]? with
  |none=>rwa [r.none_of b]
  |some x =>
   obtain⟨u,e,f⟩:=r.get b;rw[e];exact .cons f c
def Rk {K:W.Frag}{H:Hp}{ds:YG}{a:YE}(r:jd K H ds a)(lo hi st):jd K H (Qm ds lo hi st) (Qm a lo hi st):=by
 unfold Qm;rw[r.length];generalize sliceRange _ _ _=ix
 induction ix with
 |nil=>rfl
 |cons i ix b =>
  rw[UX,UX];cases c:ds[i]? with
  |none =>
   have e:a[i]? = none:=Jo.mpr (by rw[r.length];simp_all)
   rwa [e]
  |some x =>
   obtain⟨u,f,g⟩:=r.get c;rw[f];exact .mk g b
def GH {α β: Type}(f:α -> β)(xs)(lo hi st):Qm (xs.map f) lo hi st=(Qm xs lo hi st).map f:=by
 grind[Qm,Zql,List.filterMap_cons,List.getElem?_map]
def Rl {α: Type}(a:List α)(lo hi st):(Qm a lo hi st).length<=a.length:=by
 have h:=slicePick_size_le (a.map λ_=>Value.none).toArray lo hi st
 simp_all [GG,GH]
section
variable {X:Cx}{E:XK}{m:Option Bool}{a b o i e f tg:Expr}{fa fb fo fi fv fe:FE}{fr:FA}{pos pos' apos cpos p p2:Pos}{lo hi st:Option Expr}
abbrev FO:=SD->Res (Option Int)
def pp (K:W.Frag)(E:XK)(f:FO):TO:=λZ H Q=>∃B F sd,RS K B F H sd Z /\ (f sd).need (λo=>∀g c,Ext F H g c->Q o c) (XW K E F H)
def W2:FO:=λ_=>.ok none
def W3 (f:FE):FO:=λsd=>(f sd).bind λd=>match d with
 | .int i=>.ok (some i)
 |_=>.no
abbrev QO (X:Cx)(E:XK)(e:Option Expr)(f:FO):Prop:=PO X e (pp X.K E f)
def PO.weak {e:Option Expr}{t t':TO}(h:PO X e t)(w:∀Z H Q,t' Z H Q->t Z H Q):PO X e t':=λY s Z H Q I q=>h Y s Z H Q I (w _ _ _ q)
def YY:QO X E none W2:=PO.weak N0 λZ H Q ⟨B,F,sd,r,n⟩=>n F H (.refl r.ext.fh)
def Bd (h:QE X E e fe):QO X E (some e) (W3 fe):=PO.weak (N1 h) λZ H Q g=>by
 obtain⟨B,F,sd,r,n⟩:=g;refine⟨B,F,sd,r,(ja n).mono (λd c v j l s t=>?_) λ_ _ q=>q⟩;cases d with
 |int i=>exact⟨i,je.mp t,c j l s⟩
 |_=>exact c.elim
def m6 (K:W.Frag):V->Option Int->Option Int->Option Int->Hp->VK->Prop:=λx lo hi st H Q=>∃a c,x=.ref a/\qE K H a c/\st≠some 0/\∀p,H p=none->Q (.ref p) (upd H p (.lst (Qm c lo hi st)))
def ma (r:V->Option Int->Option Int->Option Int->Hp->VK->Prop)(g:TE)(h j n:TO):TE:=λZ H Q=>g Z H λx q=>h Z q λl s=>j Z s λu t=>n Z t λc v=>r x l u c v Q
def Rm {t:TE}{w y z:TO}(J:PE X e t)(K:PO X lo w)(L:PO X hi y)(hs:PO X st z):PE X (.Subscript e (.Slice lo hi st p2) pos) (ma (m6 X.K) t w y z):=by
 intro Y s Z H Q I h;refine Subscript_ (jG (J Y s Z H _ I h) λv M ⟨x,N,O,P,R⟩=>(wpAny_Slice (jG (K Y M Z N _ O R) λA S ⟨l,T,U,pl,q2⟩=>jG (L Y S Z T _ U q2) λB s3 ⟨u,H3,I3,pu,q3⟩=>jG (hs Y s3 Z H3 _ I3 q3) λC g ⟨c,H4,I4,ps,q4⟩=>?_)));obtain⟨a,F,rfl,hx,h0,q⟩:=q4;obtain rfl:=P;have j:Inv X Y Z H4 { g with heap:=g.heap.push { cls:=.type "slice",data:=.fields #[A,B,C] } }:=I4.kept λb ob q=>Zq _ q;obtain⟨its,r,n,hz⟩:=j.list hx;have G:=r.length
 suffices fin:YI X (getItem (.ref a) (.ref g.heap.objs.size)) (EP X Y Z Q) X.xe { g with heap:=g.heap.push { cls:=.type "slice",data:=.fields #[A,B,C] } } by
  cases st with
  |none=>exact tail_any n.isList.typeIs slot_list_getitem.lookup fin (by rfl)
  |some c=>exact tail_any n.isList.typeIs slot_list_getitem.lookup fin (by rfl)
 refine wpAny_getItem_list_slice n.isList (Heap.IsSliceOf.new ..) pl pu ps h0 ?_ ();rw[GG];exact⟨.ref _,_,j.laid (o:=.lst (Qm F l u c)) (λb ob q=>Zq _ q) (Zf _) ⟨Zh (Rl F l u c) hz,_,0,Rj r l u c,Zr _ rfl⟩,rfl,q _ (j.hok.fresh (Zf _))⟩
def hQ:D->Option Int->Option Int->Option Int->YH
 | .lst ds,lo,hi,st=>if st=some 0 then none else some (.lst (Qm ds lo hi st))
 | .scr ns,lo,hi,st=>if st=some 0 then none else some (.lst ((Qm ns lo hi st).map .int))
 |_,_,_,_=>none
def vB (fe:FE)(g j fs:FO):FE:=λsd=>(fe sd).bind λd=>(g sd).bind λl=>(j sd).bind λh=>(fs sd).bind λc=>.ofO (hQ d l h c)
def Dh {A C fs:FO}(J:QE X E e fe)(K:QO X E lo A)(L:QO X E hi C)(hs:QO X E st fs):QN X E (.Subscript e (.Slice lo hi st p2) pos) (vB fe A C fs):=PE.weak (Rm J K L hs) λZ H Q M=>by
 obtain⟨B,F,sd,r,n⟩:=M;refine⟨B,F,sd,r,(ja n).mono (λd N v O H1 j G=>⟨B,O,sd,r.step j,(ja N).mono (λl P R H2 s=>(⟨B,R,sd,(r.step j).step s,(ja P).mono (λh S T H3 w=>⟨B,T,sd,((r.step j).step s).step w,(ja S).mono (λc U I H4 t=>?_) λ_ _ q=>q.ext ((j.trans s).trans w)⟩) λ_ _ q=>q.ext (j.trans s)⟩)) λ_ _ q=>q.ext j⟩) λ_ _ q=>q⟩;obtain⟨z,hz,q⟩:=jg U;have g:=((s.trans w).trans t);have u:=j.trans g;cases d with
 |lst ds =>
  have hz:(if c=some 0 then none else some (D.lst (Qm ds l h c)))=some z:=hz
  split at hz
  .exact J3 hz
  .rename_i x;obtain rfl:=Zqi hz;obtain⟨a,Y,rfl,y,h2⟩:=G;exact⟨a,Y,rfl,((y.same g.ff).same g.fh).sq,x,λp hp=>q p I _ (u.trans (.keep t.fh hp _)) (Qk u.hh hp) (Qk t.fh hp) ⟨_,JK,Rk (jd.same g.ff _ _ h2) l h c⟩⟩
 |scr ns =>
  have hz:(if c=some 0 then none else some (D.lst ((Qm ns l h c).map .int)))=some z:=hz
  split at hz
  .exact J3 hz
  .rename_i x;obtain rfl:=Zqi hz;obtain⟨a,rfl,y⟩:=G;refine⟨a,_,rfl,jl.seq g.fh (jl.seq g.ff y),x,λp hp=>q p I _ (u.trans (.keep t.fh hp _)) (Qk u.hh hp) (Qk t.fh hp) ⟨_,JK,?_⟩⟩;rw[GH];exact qh _
 |_=>exact J3 hz
@[simp]def sg (fe)(fl fh fs)(sd):vB fe fl fh fs sd=(fe sd).bind λd=>(fl sd).bind λl=>(fh sd).bind λh=>(fs sd).bind λc=>.ofO (hQ d l h c):=rfl
@[simp]def pR (sd):W2 sd=.ok none:=rfl
def Di:D->Res (Option Int)
 | .int i=>.ok (some i)
 |_=>.no
@[simp]def lH (i):Di (.int i)=.ok (some i):=rfl
@[simp]def bq (f)(sd):W3 f sd=(f sd).bind Di:=by
 rfl
@[simp]def kQ (ds)(lo hi):hQ (.lst ds) lo hi none=some (.lst (Qm ds lo hi none)):=rfl
def Rn {ds:Yh}{lo hi:Option Int}{c:Int}(h:c≠0):hQ (.scr ds) lo hi (some c)=some (.lst ((Qm ds lo hi (some c)).map .int)):=Ze λz=>h (Zqi z)
def YZ (i:Nat)(c fv:FE):FS:=λsd=>(fv sd).bind λv=>match sd[i]? with
 |some (some (.own false (.lst ds)))=>(c sd).bind λk=>match k with
  | .int k=>match y0 ds.length k with
   |some j=>.ok (.next (sd.set i (some (.own false (.lst (ds.set j v))))))
   |none=>.no
  |_=>.no
 |_=>.no
def Ro {j:Nat}(A:PE X o (xH j))(hi:QE X E i fi)(C:QE X E e fv)(G:∀v,assign (.Subscript o i pos') X.env v=(do
 let s <- holding [v] (eval o X.env)
 let u <- holding [v,s] (eval i X.env)
 standAt pos'
 holding [v,s,u] (setItem s u v)
 release [v,s,u] []):=by intro _;rfl) (hs:swapsWithSole [.Subscript o i pos'] e pos.line X.env=pure false:=by rfl) (I:swappedStores [.Subscript o i pos'] e X.env=pure none:=by rfl)
 (t:(assignEach [.Subscript o i pos'] X.env).map (·.2)=[assign (.Subscript o i pos') X.env]:=by rfl):QS X E m (.Assign [.Subscript o i pos'] e pos) (YZ j fi fv):=PS.weak (MB C (MA A hi N6 G) hs I t) λT Z H J=>by
 obtain⟨B,F,sd,r,n⟩:=J;refine⟨B,F,sd,r,(ja n).mono (λd x v K Q c L=>?_) λ_ _ q=>q.ext r.ext⟩
 split at x
 .rename_i ds y;obtain⟨l,t,R,S,⟨M,N,z⟩,_⟩:=(r.step c).own y;refine⟨.ref l,t,B,K,sd,r.step c,(ja x).mono (λk g w O U h P=>?_) λ_ _ q=>q.ext (r.step c).ext⟩
  split at g
  .rename_i k
   split at g
   .rename_i q Y;have hl:=z.length;exact⟨l,M,k,q,rfl,je.mp P,(h.hh _ _ N),(),g Z O _ (c.ff.trans h.ff) (((r.step c).step h).chg y t ⟨_,JK,(jd.same h.ff _ _ z).set q (jf.same h.ff _ _ L)⟩)⟩
   .exact g.elim
  .exact g.elim
 .exact x.elim
@[simp]def bw (i)(fk fv)(sd):YZ i fk fv sd=(fv sd).bind λv=>(wp sd[i]?).bind λds=>(fk sd).bind λk=>(Di k).bind λk=>(Res.ofO (y0 ds.length (k.getD 0))).bind λj=>.ok (.next (sd.set i (some (.own false (.lst (ds.set j v)))))):=by
 unfold YZ;cases fv sd with
 |ok v =>
  cases sd[i]? with
  |none=>rfl
  |some o =>
   cases o with
   |none=>rfl
   |some w =>
    cases w with
    |val d=>rfl
    |own p d =>
     cases p with
     |true=>cases d<;>rfl
     |false =>
      cases d with
      |lst ds =>
       cases fk sd with
       |ok k =>
        cases k with
        |int k=>show(match y0 ds.length k with|some j=>_|none=>_)=(Res.ofO (y0 ds.length k)).bind _;cases y0 ds.length k<;>rfl
        |_=>rfl
       |ex c fs=>rfl
       |no=>rfl
      |_=>rfl
 |ex c fs=>rfl
 |no=>rfl
@[simp]def gW (i)(fb)(sd):WT i fb sd=(vn sd[i]?).bind λd=>(fb sd).bind λy=>.ofO (jE d y):=by
 unfold WT;cases sd[i]? with
 |none=>rfl
 |some o =>
  cases o with
  |none=>rfl
  |some v=>cases v<;>rfl
@[simp]def gj (c:Bool):jI c .non=some (.bl (!c)):=rfl
@[simp]def gn (c:Bool)(i:Int):jI c (.int i)=some (.bl c):=rfl
@[simp]def gk (c:Bool)(i:YG):jI c (.lst i)=some (.bl c):=rfl
@[simp]def gi (c:Bool)(i:YG):jI c (.tup i)=some (.bl c):=rfl
def XA:YG->YH
 | [.lst ds]=>(Q3 K6 ds).bind λrs=>if(∀r∈rs,r ≠ [])/\rs.length<1000 then some (.lst ((JS j7 rs).map jv)) else none
 |_=>none
def Rp (u:X.A.units+64<cLine):jO X (.builtin "sorted") (z8 X.K XA):=jO.weak (OQ u) λC H Q w=>by
 obtain⟨F,ds,z,c,id,hz,q⟩:=w;unfold XA at hz
 split at hz
 .obtain⟨rs,y,hz⟩:=Jf.mp hz
  split at hz
  .rename_i r;obtain rfl:=Zqi hz;obtain⟨v,rfl,h⟩:=Qs id;rw[CL y,jk] at h;obtain⟨a,ys,rfl,A,s⟩:=h;refine⟨a,ys,rs,rfl,A.same c,zX.mp (jd.same c _ _ s),r.1,r.2,λl ix g j t=>(q l F _ (.keep c g _) g (Qk c g) ⟨_,JK,?_⟩)⟩;rw[<- t,Zw];clear t
   induction ix with
   |nil=>exact .nil
   |cons i ix G =>
    rw[Zl,Zl];have hi:=j i Zqs;obtain⟨x,B,n⟩:=s.get (d:=jv (rs.getD i [])) (by rw[Zv,Zqg hi,Qj (Zqg hi)];rfl);rw[Qj B];exact .mk n ()
  .exact J3 hz
 simp_all
end
end L2.DL
namespace L2
section
variable {X:Cx}
def Rq (i:X.calm=true):jO X (.builtin "sum") (λf H Q=>∃(a:Addr) (ns:Yh),f=[.ref a]/\qE X.K H a (ns.map V.int)/\Q (.int ns.sum) H):=by
 intro Y s Z H f o Q I r h;obtain⟨a,ns,rfl,j,q⟩:=h;obtain⟨u,rfl,l⟩:=Q6 r;obtain rfl:=l;obtain⟨its,m,p,hz⟩:=I.list j;have g:=Cd m;obtain⟨ys,e⟩:=g.allInts.items;have c:ns=ys.toList.map (·.1):=by
  rw[<- g.numsOf,<- nums_intItems,<- e]
 have b:=p.isList;rw[e] at b;refine sum_intListG (I.ok.hd i) b λh' tk t' n=>(⟨.int ns.sum,H,I.kept n,⟨t',?_⟩,q⟩);rw[preSum_eq,Uv (),<- c]
def GI {bs:List Bool}{its:Yf}(r:jq (bs.map V.bl) its)(i:Nat)(v:Value)(h:its.toArray[i]? = some v):v=.bool (bs.getD i false):=by
 have h':its[i]? = some v:=by simp_all
 have f:=(Je.mp h').1;have b:=r.length;rw[Zql] at b;have c:bs[i]? = some bs[i]:=by simp
 obtain⟨u,a,e⟩:=r.get (i:=i) (x:=.bl bs[i]) ();rw[h'] at a;obtain rfl:=Zqi a;rw[e,Uq,c];rfl
def Rr (bs:List Bool):(List.range bs.length).all (λi=>bs.getD i false)=bs.all id:=by
 apply Vi.mpr;rw[UU,UU];constructor
 .intro h b c;obtain⟨i,a,rfl⟩:=Uz c;have:=h i (Jh.mpr a)
  rwa [Uq,Zqg a] at this
 .intro h i a;have a:=Jh.mp a;rw[Uq,Zqg a];exact h _ (UC a)
def Rs (bs:List Bool):(List.range bs.length).any (λi=>bs.getD i false)=bs.any id:=by
 apply Vi.mpr;rw[Vo,Vo];constructor
 .rintro⟨i,a,h⟩;have a:=Jh.mp a;rw[Uq,Zqg a] at h;exact⟨_,UC a,h⟩
 .rintro⟨b,c,h⟩;obtain⟨i,a,rfl⟩:=Uz c;refine⟨i,Jh.mpr a,?_⟩;rw[Uq,Zqg a];exact h
def Rt (l:X.calm=true):jO X (.builtin "all") (λg H Q=>∃(a:Addr) (bs:List Bool),g=[.ref a]/\qE X.K H a (bs.map V.bl)/\Q (.bl (bs.all id)) H):=by
 intro Y s Z H g B Q I r h;obtain⟨a,bs,rfl,m,q⟩:=h;obtain⟨u,rfl,n⟩:=Q6 r;obtain rfl:=n;obtain⟨its,j,p,hz⟩:=I.list m;have f:a<s.heap.objs.size:=by obtain⟨_,e,_⟩:=p.isList;exact Zk e
 have c:=j.length;rw[Zql] at c;refine call_all_walk (wpAny_pyIter_list p.isList ⟨_,_,_,_,_,_,λi=>bs.getD i false,rfl,Walks.list (A:=X.A.in1) (I.ok.hd l) s.heap.objs.size a (Zi f) its.toArray,⟨⟨_,Zr _ rfl,rfl,rfl⟩,p.isList.push _⟩,?_,λh' tk t=>?_⟩)
 .intro i v s' C E w x;have y:=GI j i v w;subst y;exact wpAny_of_eq rfl x
 .rw[Zm,<- c,Rr];refine⟨.bl _,H,I.kept λb o e=>t b o ?_ (Zq _ e),rfl,q⟩;intro z;rw[(Jc.mp z)] at e;exact Zy _ (Zk e)
def Ru (l:X.calm=true):jO X (.builtin "any") (λg H Q=>∃(a:Addr) (bs:List Bool),g=[.ref a]/\qE X.K H a (bs.map V.bl)/\Q (.bl (bs.any id)) H):=by
 intro Y s Z H g C Q I r h;obtain⟨a,bs,rfl,m,q⟩:=h;obtain⟨u,rfl,n⟩:=Q6 r;obtain rfl:u=Value.ref a:=n;obtain⟨its,j,p,hz⟩:=I.list m;have f:a<s.heap.objs.size:=by obtain⟨_,e,_⟩:=p.isList;exact Zk e
 have c:=j.length;rw[Zql] at c;refine call_any_walk (wpAny_pyIter_list p.isList ⟨_,_,_,_,_,_,λi=>bs.getD i false,rfl,Walks.list (A:=X.A.in1) (I.ok.hd l) s.heap.objs.size a (Zi f) its.toArray,⟨⟨_,Zr _ rfl,rfl,rfl⟩,p.isList.push _⟩,?_,λh' tk t=>?_⟩)
 .intro i v s' E F w x;have y:=GI j i v w;subst y;exact wpAny_of_eq rfl x
 .rw[Zm,<- c,Rs];refine⟨.bl _,H,I.kept (t':=tk) λb o e=>t b o ?_ (Zq _ e),rfl,q⟩;intro z;have B:=Jc.mp z;rw[B] at e;exact Zy _ (Zk e)
end
end L2
namespace L2.DL
def vt:D->Option Bool
 | .bl i=>some i
 |_=>none
def Rv (h:vt d=some i):d=.bl i:=by
 cases d with
 |bl j=>cases h;rfl
 |_=>exact J3 h
theorem xo {K:W.Frag}{H:Hp}:∀{bs:List Bool} {a:YE},jd K H (bs.map D.bl) a->a=bs.map V.bl
 | [],_,h=>jd.nil_iff.mp h
 |b::bs,_,h=>by
  obtain⟨x,r,rfl,c,e⟩:=h;rw[jp.mp c,xo e];rfl
def XB:D->Option (List Bool)
 | .lst ds=>Q3 vt ds
 |_=>none
def GJ {K:W.Frag}{H:Hp}{d:D}{ns:List Bool}{v:V}(h:XB d=some ns)(i:jf K H d v):∃a,v=.ref a/\xb K H a (ns.map V.bl):=by
 cases d with
 |lst ds =>
  obtain⟨a,e,rfl,c,b⟩:=i;rw[YV (λ_ _=>Rv) (h)] at b;rw[xo b] at c
  simp_all
 |_=>exact J3 h
def GK (ns:List Bool):XB (.lst (ns.map D.bl))=some ns:=by
 have h:=YU (f:=vt) (g:=D.bl) (λ_=>rfl) ns
 rwa [List.map_id'] at h
def zB:YG->YH
 | [d]=>(X2 d).bind λns=>some (.int ns.sum)
 |_=>none
def w5:YG->YH
 | [d]=>(XB d).bind λns=>some (.bl (ns.all id))
 |_=>none
def zD:YG->YH
 | [d]=>(XB d).bind λns=>some (.bl (ns.any id))
 |_=>none
section
variable {X:Cx}{E:XK}{m:Option Bool}{a b o i e f tg:Expr}{fa fb fo fi fv fe:FE}{fr:FA}{pos pos' apos cpos p p2:Pos}{lo hi st:Option Expr}
def fD (g:X.calm=true):jO X (.builtin "sum") (yX X.K zB):=jO.weak (Rq g) λr H Q j=>by
 obtain⟨F,ds,z,c,id,hz,q⟩:=j;unfold zB at hz
 split at hz
 .obtain⟨ns,l,hz⟩:=Jf.mp hz;obtain rfl:=Zqi hz;obtain⟨v,rfl,h⟩:=Qs id;obtain⟨a,rfl,n⟩:=CV l h;exact⟨a,ns,rfl,(n.same c).sq,q _ F H (.refl c) (yr _ F)⟩
 simp_all
def fF (g:X.calm=true):jO X (.builtin "all") (yX X.K w5):=jO.weak (Rt g) λr H Q j=>by
 obtain⟨F,ds,z,c,id,hz,q⟩:=j;unfold w5 at hz
 split at hz
 .obtain⟨ns,l,hz⟩:=Jf.mp hz;obtain rfl:=Zqi hz;obtain⟨v,rfl,h⟩:=Qs id;obtain⟨a,rfl,n⟩:=GJ l h;exact⟨a,ns,rfl,(n.same c).sq,q _ F H (.refl c) (zm _ F)⟩
 simp_all
def fE (g:X.calm=true):jO X (.builtin "any") (yX X.K zD):=jO.weak (Ru g) λr H Q j=>by
 obtain⟨F,ds,z,c,id,hz,q⟩:=j;unfold zD at hz
 split at hz
 .obtain⟨ns,l,hz⟩:=Jf.mp hz;obtain rfl:=Zqi hz;obtain⟨v,rfl,h⟩:=Qs id;obtain⟨a,rfl,n⟩:=GJ l h;exact⟨a,ns,rfl,(n.same c).sq,q _ F H (.refl c) (zm _ F)⟩
 .exact J3 hz
end
@[simp]def l8 (ns:Yh):zB [.lst (ns.map .int)]=some (.int ns.sum):=by
 show(X2 _).bind _=_;rw[CW];rfl
def Rx (ns:List Bool):w5 [.lst (ns.map .bl)]=some (.bl (ns.all id)):=by
 show(XB _).bind _=_;rw[GK];rfl
def Ry (ns:List Bool):zD [.lst (ns.map .bl)]=some (.bl (ns.any id)):=by
 show(XB _).bind _=_;rw[GK];rfl
end L2.DL
namespace L2
def Rz:bootBuiltins "all" = some (.builtin "all"):=boot_all
def R4:bootBuiltins "any" = some (.builtin "any"):=boot_any
end L2
namespace L2.DL
end L2.DL
namespace L2
section
variable {X:Cx}{Y:Yb}{Z: St}{H:Hp}{s:Shared}{h':Heap}
def Inv.turnedL {t':Nat}{ch:Yl}(I:Inv X Y Z H s)(k:∀b o,b∉ch->s.heap.get? b=some o->h'.get? b=some o)(f:∀b∈ch,xc X Y H b):Inv X Y Z H { s with heap:=h',toks:=t' }:=by
 have g:∀b u,H b=some u->b∉ch:=λb u e z=>by rw[(f b z).1] at e;exact J3 e
 refine I.step (λb h=>?_) (λb o _ _ a e _=>k b o a e) (λb o _ _ a e _=>⟨o.slots,k b o a e⟩) (λ_ _ _ _ n=>n)
  (λb o a e=>⟨o,k b o a e⟩) (λ_ _ e=>e) (λ_ _ _ e=>e) (λb ps e=>⟨#[],by rw[e];simp⟩) (λm i=>?_) (λb u e=>?_) I.bare
 .obtain⟨_,j,_,l,p,t⟩:=f b h;exact⟨l,j,p,t⟩
 .obtain⟨o,es,ep,w,r⟩:=i;exact⟨o,es,ep,k _ o (λz=>(f _ z).2.1 rfl) w,r⟩
 .refine(I.hok b u e).stay (λc v a q=>k c v ?_ q) (λ_ q=>q) λ_ _ q=>q
  grind
theorem xc.upd (h:xc X Y H b)(n:b≠T):xc X Y (upd H T o) b:=⟨(JG n).trans h.1,h.2⟩
def Inv.paired {t':Nat}{ch:Yl}{x y:V}{u v:Value}(I:Inv X Y Z H s)(c:jy x u)(f:jy y v)(g:∀b∈ch,xc X Y H b)(h:∀b∈ch,b≠s.heap.objs.size)
 (j:h'.get? s.heap.objs.size=some { cls:=.type "tuple",data:=.seq #[u,v] }) (k:∀b o,b∉ch->s.heap.get? b=some o->h'.get? b=some o):
 Inv X Y Z (upd H s.heap.objs.size (.tup [x,y])) { s with heap:=h',toks:=t' }:=by
 have i:Inv X Y Z (upd H s.heap.objs.size (.tup [x,y])) { s with heap:=s.heap.push { cls:=.type "tuple",data:=.seq #[u,v] },toks:=s.toks } :=
  I.laid (λb o e=>Zq _ e) (Zf _) ⟨⟨by simp only[sizeLine_eq,Zu,ZC];lia,_,Zr _ rfl,rfl⟩,[u,v],.cons c (.cons f .nil),_,Zr _ rfl,rfl,_,rfl⟩
 refine Inv.turnedL (s:={ s with heap:=s.heap.push { cls:=.type "tuple",data:=.seq #[u,v] },toks:=s.toks }) i (λb o a e=>?_) λb a=>(g b a).upd (h b a)
 grind[Heap.get?_push_cases]
end
def R5 {h:Heap}{a c:Addr}{its:Yn}{o:Obj}(p:h.IsList a its)(e:h.get? c=some o)(n:o.cls ≠ .type "list"):a≠c:=λq=>by
 subst q;obtain⟨g,b,f,_⟩:=p;rw[e] at b;obtain rfl:=Zqi b;exact n f
def rj (K:W.Frag)(a:Addr):It:=
 ⟨λi H=>∃b x,qE K H a b/\b[i]? = some x,
  λi H v c=>∃T x,v=.ref T/\H T=none/\c=upd H T (.tup [.int i,x])/\∀b,qE K H a b->b[i]? = some x,
  λi H=>∃b,qE K H a b/\b.length<=i⟩
def R6 (e it a:Addr)(i:Nat)(h:Heap):Prop:=(∃b,IsEnum h e it i b)/\h.IsListIter it a i
def R7 {P:Program}{w:World}{K:W.Frag}{l:Ym}{kx}{A:Pos}(a e it:Addr)(m:e≠it):Turn P w K (.Tuple l kx A) (rj K a) [e,it] e (R6 e it a) where
 mem:=by simp
 obj:=λi h st c b=>by
  obtain⟨⟨f,j⟩,⟨O,N,c1,d1⟩⟩:=st
  grind
 keep:=λi h h' st t=>⟨(let ⟨f,j⟩:=st.1;⟨f,t e () _ j⟩),st.2.at λo q=>t it () o q⟩
 item:=by
  intro X B C F b i Y s Z H E I v st G;subst B C F;obtain⟨Q,x,y,J⟩:=G;obtain⟨its,L,p,hz⟩:=I.list y;obtain⟨u,R,S⟩:=L.get J;obtain⟨⟨f,j⟩,g⟩:=id st;obtain⟨O,N,_⟩:=id g;refine wpAny_pyNext_enum_item j g p.isList (x:=u) (by simpa using R) m λh' T U a3 a4 t=>?_;refine⟨_,rfl,wpAny_letOwnedTupleGo_enum (s:={ s with heap:=h',toks:=s.toks+1 }) T λh2 b1 n=>?_⟩;have n:Heap.SameBut e h' h2:=n;have lt:∀{c o},s.heap.get? c=some o->c≠s.heap.objs.size:=λq=>Zi (Zk q);have r:∀c ∈ [e,it],c≠s.heap.objs.size:=λc b=>by
   simp only[UI,UT,or_false] at b;rcases b with rfl|rfl
   .exact lt j
   .exact lt N
  have M:s.heap.objs.size≠e:=λq=>lt j q.symm;have I2:=I.paired (t':=s.toks+1) (x:=.int i) ⟨_,rfl⟩ S v r (n.extBut _ _ M a3) (λc o b q=>by
   simp only[UI,UT,or_false,not_or] at b;exact n.extBut c o b.1 (t c o b.1 b.2 q))
  refine⟨.ref s.heap.objs.size,_,I2,rfl,⟨_,x,rfl,I.hok.fresh (Zf _),rfl,λzs hq=>by rw[I.list_inj hq y];exact J⟩,⟨⟨u,?_⟩,U.extBut n.extBut (Ne.symm m)⟩,λc b=>(JG (r c b)).trans (v c b).1⟩
  grind
 done:=by
  intro X B C F b i Y s Z H E I v st G;subst B C F;obtain⟨Q,y,J⟩:=G;obtain⟨its,L,p,hz⟩:=I.list y;have l1:=L.length;obtain⟨⟨f,j⟩,g⟩:=id st;refine wpAny_pyNext_enum_end (I.ok.hd b) j g p.isList (by simp;lia) λh' eb=>⟨rfl,I.turnedL (ch:=[it]) (λc o b q=>?_) λc b=>v c ?_⟩
  .exact eb c o (λz=>b (by simp[z])) q
  simp_all
 self:=λ_ _ _ _ _ st h=>wpAny_pyIter_enum st.1.choose_spec h
section
variable {X:Cx}
def kG (K:W.Frag)(c:TA):TI:=λZ H R=>c Z H λe b=>∃a,e=[.ref a]/\(∃f,qE K b a f)/\R (rj K a) b
def R8 {a:Expr}{l:TA}{p f:Pos}{g:Ym}{kx}{o:Pos}(t:Gl X "enumerate")(u:X.mg "enumerate" = none)(v:PA X [a] l)(hs:starEach [a] X.env=[(false,eval a X.env)]:=by rfl):
 PI X (.Tuple g kx o) (.Call (.Name "enumerate" p) [a] [] f) (kG X.K l):=by
 intro Y s Z H R I h;refine Call_ (WE I t u (show bootBuiltins "enumerate" = some (.type "enumerate") by kernel_rfl) (PyProof.Rows.callWith_type1 (jG (v f Y s Z H _ I h) λE b ⟨F,w,j,x,y⟩=>?_) hs rfl));obtain⟨a,e,⟨G,z⟩,q⟩:=y;subst e;cases x with
 |cons r A =>
  cases A;cases r;obtain⟨its,J,p,hz⟩:=j.list z;refine call_enumerate_list p.isList λh' m B K C=>wpAny_pyIter_enum m (⟨b.heap.objs.size+1,[b.heap.objs.size+1,b.heap.objs.size],_,_,w,rfl,j.kept C,R7 a (b.heap.objs.size+1) b.heap.objs.size (Nat.succ_ne_self _),⟨⟨_,m⟩,B⟩,λc n=>?_,q⟩);have i:b.heap.objs.size<=c:=by
   simp at n;rcases n with rfl|rfl<;>first|exact Zf _|exact Ui _ _
  exact j.fpOk i (j.hok.fresh i)
end
end L2
namespace L2.DL
def R9 {K:W.Frag}{F:Hp}{d:D}{ds:YG}{v:V}(h:CZ d=some ds)(i:jf K F d v):∃a b,v=.ref a/\qE K F a b/\jd K F ds b:=by
 cases d with
 |lst es =>
  obtain rfl:=Zqi h;obtain⟨a,b,rfl,c,e⟩:=i;exact⟨a,b,rfl,c.sq,e⟩
 |scr ns =>
  obtain rfl:=Zqi h;obtain⟨a,rfl,c⟩:=i;exact⟨a,_,rfl,c,qh ns⟩
 |_=>exact J3 h
def W4 (a:YG):YG:=List.zipWith (λ(k:Nat) x=>D.tup [.int k,x]) (List.range a.length) a
def Be:YG->Res YG
 | [d]=>(Res.ofO (CZ d)).bind λa=>.ok (W4 a)
 |_=>.no
def mV (a:FA):FA:=λsd=>(a sd).bind Be
@[simp]def nS (a:FA)(sd:SD):mV a sd=(a sd).bind Be:=rfl
@[simp]def lm (a:YG):Be [.lst a]=.ok (W4 a):=rfl
def GL (ds:YG)(i:Nat):(W4 ds)[i]? = ds[i]?.map λx=>D.tup [.int i,x]:=by
 grind[W4,List.getElem?_zipWith]
def GM (ds:YG):(W4 ds).length=ds.length:=by grind[W4,List.length_zipWith,List.length_range,Nat.min_self]
def RA {K:W.Frag}{c:Hp}{a:Addr}{ds:YG}{b:YE}(o:qE K c a b)(f:jd K c ds b):zJ K c (rj K a) (W4 ds):=λi s t g h=>by
 have e:=jl.seq h (jl.seq g o);have u:=f.length;rw[GM];refine⟨λj=>?_,λj=>⟨b,e,()⟩⟩;obtain⟨x,l,ix⟩:=f.get (Zqg j);refine⟨⟨b,x,e,l⟩,λv w p=>?_⟩;obtain⟨T,y,rfl,q,rfl,r⟩:=p;have m:=r b e;rw[l] at m;obtain rfl:=Zqi m;have n:=qF h q (.tup [.int i,x]);refine⟨.tup [.int i,ds[i]],_,?_,n,j1.mpr ⟨T,_,rfl,.of JK,.mk (je.mpr rfl) (.mk (jf.same (g.trans n.ff) _ _ ix) .nil)⟩⟩
 simp_all [GL]
section
variable {X:Cx}{E:XK}{fr:FA}{p pos tp:Pos}{elts:Ym}
def RB {a:Expr}{kx}(f:Gl X "enumerate")(g:X.mg "enumerate" = none)(i:QA X E [a] fr)(hs:starEach [a] X.env=[(false,eval a X.env)]:=by rfl):QI X E (.Tuple elts kx tp) (.Call (.Name "enumerate" p) [a] [] pos) (mV fr):=PI.weak (R8 f g i hs) λZ H R j=>by
 obtain⟨B,F,sd,r,n⟩:=j;refine⟨B,F,sd,r,(ja n).mono (λds b x l m c o=>?_) λ_ _ q=>q⟩;unfold Be at b
 split at b
 .obtain⟨y,s,t⟩:=jg (ja b);obtain⟨v,rfl,h⟩:=Qs o;obtain⟨u,z,rfl,e,w⟩:=R9 s h;exact⟨u,rfl,⟨_,jl.seq c.fh e⟩,t _ l m c (RA e w)⟩
 .exact b.elim
def uz (K:W.Frag):R2:=λx y H Q=>∃l k a,x=.ref l/\y=.int k/\xb K H l a /\ -(2 ^ 63)<=k/\k<2 ^ 63/\a.length*k.toNat<=sizeLine/\∀p,H p=none->Q (.ref p) (upd H p (.lst (List.replicate k.toNat a).flatten))
def RC:xa X (binaryOp .Mult) (uz X.K):=by
 intro Y s Z H x y v u Q I w A h;obtain⟨l,k,L,rfl,rfl,B,C,G,hz,q⟩:=h;cases w;obtain⟨t,rfl⟩:=A;obtain⟨z,its,n,r,e⟩:=B.ok I.hok;have J:=r.length;have c:its.toArray.size*k.toNat<=sizeLine:=by rw[Zm,<- J];exact hz
 have f:¬its.toArray.size*k.toNat > (2 ^ 63-1) / 8:=by
  have:(sizeLine:Nat)<=(2 ^ 63-1) / 8:=by decide
  lia
 have g:¬(!Builtin.List.listFitsIndex k)=true:=by
  rw[fitsIndex_both C G];exact Zj
 have b:¬Builtin.List.listTooLong (its.toArray.size*k.toNat)=true:=by
  rw[EC c];exact Zj
 have i:List.foldl (λj o=>j++o) #[] (List.replicate (if its.toArray.isEmpty=true then 0 else k.toNat) its.toArray)=(List.replicate k.toNat its).flatten.toArray:=by
  have K:∀m:Nat,List.foldl (λj o=>j++o) #[] (List.replicate m its.toArray)=(List.replicate m its).flatten.toArray:=λm=>by
   have:=EB its m [];rw[List.nil_append] at this;exact this
  rw[K];cases its with
  |nil=>simp
  |cons a M=>rw[Ze ()]
 refine wpAny_binaryOp_repeat_ref (T:= "list") (U:= "int") (by decide) ⟨_,e,rfl⟩ (λs'=>typeIs_int s' k t) noFill_list_mul F.fills_int_mul F.slot_int_rmul repeat_list F.slot_int_index.lookup
  (call_meets F.slot_int_rmul (typeIs_int s k t) F.entry_int_rmul (F.args_int_rmul_2 _ _) (int___rmul___int_list k t l its.toArray n)
   ⟨e,rfl,⟨_,e,rfl⟩,call_meets F.slot_list_mul ⟨_,e,rfl⟩ F.entry_list_mul (F.args_list_mul_2 _ _) (AutoListH.list___mul___list_int_3 l its.toArray n k t g f b) ⟨e,?_⟩⟩)
 rw[i];exact⟨.ref _,_,I.lnew (t':=s.toks) (r.rep k.toNat) (by rw[ND,Nat.mul_comm];exact hz),rfl,q _ I.fresh⟩
def ww:D->D->YH
 | .lst ds,.int k=>if Uy ds.length 1000&&(Uy k.toNat 1000&&Uy (-k).toNat 1000) then some (.lst (List.replicate k.toNat ds).flatten) else none
 |_,_=>none
def RD (a:ds.length<=1000)(b: -1000<=k)(c:k<=1000):ww (.lst ds) (.int k)=some (.lst (List.replicate k.toNat ds).flatten):=by
 show(if _ then _ else _)=_;rw[Zd (by rw[Ud,Ud,UO,UO,UO];lia)]
theorem jd.rep {K:W.Frag}{F:Hp}{ds:YG}{a:YE}(h:jd K F ds a):∀k:Nat,jd K F (List.replicate k ds).flatten (List.replicate k a).flatten
 | 0=>.nil
 |k+1=>by
  rw[U6,U6,Vj,Vj];exact h.append (jd.rep h k)
def kj:vy X (binaryOp .Mult) ww:=xa.weak RC λx y H Q f=>by
 obtain⟨F,d,e,z,a,id,g,hz,q⟩:=f;cases d with
 |lst ds =>
  cases e with
  |int k =>
   have hz:(if Uy ds.length 1000&&(Uy k.toNat 1000&&Uy (-k).toNat 1000) then some (D.lst (List.replicate k.toNat ds).flatten) else none)=some z:=hz
   split at hz
   .rename_i h;rw[Ud,Ud,UO,UO,UO] at h;obtain rfl:=Zqi hz;rw[jk] at id;obtain⟨l,b,rfl,i,c⟩:=id;have j:=c.length;refine⟨l,k,b,rfl,je.mp g,i.same a,(),(),?_,λp hp=>q p F _ (.keep a hp _) hp (Qk a hp) ⟨_,JK,c.rep k.toNat⟩⟩;have:b.length*k.toNat<=1000*1000:=VD () ();rw[sizeLine_eq];lia
   .exact J3 hz
  |_=>exact J3 hz
 |_=>exact J3 hz
end
end L2.DL
namespace L2.ST
open PySem
def yq:Nat->Nat->Nat
 | 0,z=>z
 |n+1,z=>yq n (5*z+1)
def GN (a b z):yq (a+b) z=yq b (yq a z):=by
 induction a generalizing z with
 |zero=>rw[Nat.zero_add];rfl
 |succ a c=>rw[Nat.succ_add];exact c _
def GO (n z d):yq n (z+d)=yq n z+5 ^ n*d:=by
 induction n generalizing z d with
 |zero=>simp[yq]
 |succ n a =>
  show yq n (5*(z+d)+1)=yq n (5*z+1)+5 ^ (n+1)*d
  grind
def m8 (n):5 ^ n % 4=1:=by
 induction n with
 |zero=>rfl
 |succ n a=>lia
def RE (k z):∃u,yq (2 ^ k) z=z+2 ^ k*(2*u+1):=by
 induction k generalizing z with
 |zero=>exact⟨2*z,by show 5*z+1=z+1*(2*(2*z)+1);lia⟩
 |succ k b =>
  obtain⟨u,a⟩:=b z;have e:2 ^ (k+1)=2 ^ k+2 ^ k:=()
  rw[e,GN,a,GO,a];have c:=m8 (2 ^ k);have ⟨v,hv⟩:∃v,5 ^ (2 ^ k)=4*v+1:=⟨5 ^ (2 ^ k) / 4,()⟩;refine⟨2*u*(2*v+1) / 2+v,?_⟩;have:2*u*(2*v+1) / 2=u*(2*v+1):=by grind
  grind
def RF (m n z):yq n z % m=yq n (z % m) % m:=by
 have h:=GO n (z % m) (m*(z / m));rw[Nat.mod_add_div] at h;rw[h,<- Nat.mul_assoc,Nat.mul_comm _ m,Nat.mul_assoc,Nat.add_mul_mod_self_left]
theorem Dj:∀k x y,y<2 ^ k->∃q,q<2 ^ k/\yq q x % 2 ^ k=y
 | 0,x,y,h=>by grind
 |k+1,x,y,h=>by
  have e:2 ^ (k+1)=2*2 ^ k:=()
  have hp:0<2 ^ k:=Nat.two_pow_pos k;obtain⟨q,o,g⟩:=Dj k x (y % 2 ^ k) (UD _ hp);rw[e] at h ⊢;by_cases c:yq q x % (2*2 ^ k)=y
  .grind
  .refine⟨q+2 ^ k,(),?_⟩;rw[GN];obtain⟨u,i⟩:=RE k (yq q x);rw[i];generalize yq q x=w at *;generalize 2 ^ k=m at *;have j:w+m*(2*u+1)=(w+m)+(2*m)*u:=by grind
   rw[j,Nat.add_mul_mod_self_left];have l:=Nat.div_add_mod w m;have f:=UD w (show 0<2*m from ());rw[g] at l;have a:w % (2*m) % m=y % m:=by rwa [Nat.mod_mul_left_mod]
   have a1:w % (2*m)<m\/m<=w % (2*m):=()
   have a2:y<m\/m<=y:=()
   have b:∀t,t<2*m->m<=t->t % m=t-m:=λt p n=>by
    rw[Nat.mod_eq_sub_mod n,UV ()]
   rw[Nat.add_mod,UV (show m<2*m from ())];generalize w % (2*m)=t at *;rcases a1 with a1|a1<;>rcases a2 with a2|a2
   .rw[UV a1,UV a2] at a;exact Zn a c
   .rw[UV a1,b y h a2] at a;rw[UV ()];lia
   .rw[UV a2,b t f a1] at a;rw[Nat.mod_eq_sub_mod (),UV ()];lia
   .rw[b t f a1,b y h a2] at a;exact Zn () c
def JF (t:YD):Nat->SetTable.Probe->SetTable.Probe
 | 0,p=>p
 |n+1,p=>JF t n (t.advance p)
def Z1 (t)(a b)(p):JF t (a+b) p=JF t b (JF t a p):=by
 induction a generalizing p with
 |zero=>rw[Nat.zero_add];rfl
 |succ a c=>rw[Nat.succ_add];exact c _
def RG (t)(n)(p):JF t (n+1) p=t.advance (JF t n p):=Z1 t n 1 p
def Kv (mask i pert:Nat):SetTable.Probe:={ j:=i,more:=SetTable.runEnd mask i-i,i:=i,perturb:=pert,dummy:=none }
def qK (mask:Nat):Nat->Nat×Nat->Nat×Nat
 | 0,s=>s
 |n+1,s=>qK mask n (SetTable.leap mask s.1 s.2)
def Bf (mask i):SetTable.runEnd mask i-i<=9:=by
 grind[SetTable.runEnd]
def GP (t)(m):∀p,p.more=m->p.dummy=none->JF t (m+1) p=Kv t.mask (SetTable.leap t.mask p.i p.perturb).1 (SetTable.leap t.mask p.i p.perturb).2:=by
 induction m with
 |zero =>
  intro p a b;show t.advance p=_
  simp_all [SetTable.advance,Kv]
 |succ m c =>
  intro p a b;show JF t (m+1) (t.advance p)=_
  simp_all [SetTable.advance]
theorem GQ (t):∀r i pert,∃n,n<=10*r/\JF t n (Kv t.mask i pert)=Kv t.mask (qK t.mask r (i,pert)).1 (qK t.mask r (i,pert)).2
 | 0,i,pert=>⟨0,Zf _,rfl⟩
 |r+1,i,pert=>by
  have ⟨n,a,b⟩:=GQ t r (SetTable.leap t.mask i pert).1 (SetTable.leap t.mask i pert).2;have c:=Bf t.mask i;refine⟨(SetTable.runEnd t.mask i-i+1)+n,(),?_⟩
  rwa [Z1,(GP t (SetTable.runEnd t.mask i-i) (Kv t.mask i pert) rfl rfl)]
def GR (mask a b)(s):qK mask (a+b) s=qK mask b (qK mask a s):=by
 induction a generalizing s with
 |zero=>rw[Nat.zero_add];rfl
 |succ a c=>rw[Nat.succ_add];exact c _
theorem Dk (mask):∀r s,(qK mask r s).2=s.2 / 32 ^ r
 | 0,s=>by show s.2=_;rw[Nat.pow_zero,Nat.div_one]
 |r+1,s=>by
  show(qK mask r (SetTable.leap mask s.1 s.2)).2=_;rw[Dk mask r];show s.2 / 32 / 32 ^ r=_;rw[Nat.div_div_eq_div_mul,Nat.pow_succ,Nat.mul_comm 32]
theorem Dl (mask):∀r i,i<mask+1->qK mask r (i,0)=(yq r i % (mask+1),0)
 | 0,i,h=>by
  show(i,0)=(i % (mask+1),0);rw[UV h]
 |r+1,i,h=>by
  show qK mask r ((i*5+1+0 / 32) % (mask+1),0 / 32)=(yq r (5*i+1) % (mask+1),0);rw[Nat.zero_div,Nat.add_zero,Dl mask r _ (UD _ ()),<- RF,Nat.mul_comm i 5]
def GS (mask r)(s)(h:s.1<mask+1):(qK mask r s).1<mask+1:=by
 induction r generalizing s with
 |zero=>exact h
 |succ r a=>exact a _ (UD _ ())
def f7 (c:t.mask+1=2 ^ k)(h)(f:y<=t.mask):∃n,n<10*SetTable.turns t.mask/\(JF t n (t.probeStart h)).j=y:=by
 have hs:t.probeStart h=Kv t.mask (SetTable.bits h % (t.mask+1)) (SetTable.bits h):=rfl;have g:SetTable.bits h<2 ^ 64:=by
  grind[SetTable.bits]
 have i:=GS t.mask 13 (SetTable.bits h % (t.mask+1),SetTable.bits h) (UD _ ());have hp:(qK t.mask 13 (SetTable.bits h % (t.mask+1),SetTable.bits h)).2=0:=by
  grind[Dk]
 have ⟨q,j,e⟩:=Dj k (qK t.mask 13 (SetTable.bits h % (t.mask+1),SetTable.bits h)).1 y ();have a:qK t.mask (13+q) (SetTable.bits h % (t.mask+1),SetTable.bits h)=(y,0):=by
  rw[GR]
  grind[Dl]
 have ⟨n,l,b⟩:=GQ t (13+q) (SetTable.bits h % (t.mask+1)) (SetTable.bits h);refine⟨n,by unfold SetTable.turns;lia,?_⟩;rw[hs,b,a];rfl
def GT {t:YD}{p:SetTable.Probe}(h:p.dummy=none):(t.advance p).dummy=none:=by
 grind[SetTable.advance]
def RH {t:YD}{p:SetTable.Probe}(h:p.dummy=none)(n):(JF t n p).dummy=none:=by
 induction n generalizing p with
 |zero=>exact h
 |succ n a=>exact a (GT h)
theorem GU {t:YD}{hashAt:Nat->Int}{h:Int}:∀k fuel p,k<fuel->p.dummy=none->(∀m,m<k->∃i,t.slot (JF t m p).j=.live i)->t.slot (JF t k p).j=.empty ->
 (∃m i,m<k/\t.slot (JF t m p).j=.live i/\hashAt i=h/\SetTable.probe.go t hashAt h fuel p=some (.candidate (JF t m p).j i (JF t (m+1) p))/\∀a b,a<m->t.slot (JF t a p).j=.live b->hashAt b≠h) \/
 (SetTable.probe.go t hashAt h fuel p=some (.empty (JF t k p).j none)/\∀a b,a<k->t.slot (JF t a p).j=.live b->hashAt b≠h)
 | 0,0,p,hf,_,_,_=>()
 | 0,fuel+1,p,_,hd,_,e=>by
  have e:t.slot p.j=.empty:=e;refine .inr ⟨?_,()⟩;unfold SetTable.probe.go;rw[e,hd];rfl
 |k+1,0,p,hf,_,_,_=>()
 |k+1,fuel+1,p,hf,hd,hl,e=>by
  have ⟨i,f⟩:=hl 0 (Vg _);have f:t.slot p.j=.live i:=f;by_cases c:hashAt i=h
  .refine .inl ⟨0,i,Vg _,f,c,?_,()⟩;unfold SetTable.probe.go;rw[f];show(if(hashAt i == h)=true then _ else _)=_;rw[Zd ()];rfl
  .have j:SetTable.probe.go t hashAt h (fuel+1) p=SetTable.probe.go t hashAt h fuel (t.advance p):=by
    simp_all [SetTable.probe.go]
   rcases GU k fuel (t.advance p) () (GT hd) (λm l=>hl (m+1) ()) e with ⟨m,n,o,g,q,s,r⟩|⟨o,g⟩
   .refine .inl ⟨m+1,n,(),g,q,by rwa [j],λa b l hs=>?_⟩;cases a with
    |zero =>
     simp_all
    |succ a=>exact r a b () hs
   .refine .inr ⟨by rwa [j],λa b l hs=>?_⟩;cases a with
    |zero =>
     simp_all
    |succ a=>exact g a b () hs
open PySem
def zK (a:Yi):Prop:=∀i j,i<j->j<a.size->a.getD i 0<a.getD j 0
def Kw {α: Type}{a:Array α}(h)(d):a.getD i d=a[i]:=()
theorem Dm (u:zK xs):∀fuel lo a,a-lo<=fuel->lo<=a->a<=xs.size->(∀i,i<lo->xs.getD i 0<j)->(∀i,a<=i->i<xs.size->j<=xs.getD i 0) ->
 SetTable.below.go xs j fuel lo a<=xs.size/\(∀i,i<SetTable.below.go xs j fuel lo a->xs.getD i 0<j)/\∀i,SetTable.below.go xs j fuel lo a<=i->i<xs.size->j<=xs.getD i 0
 | 0,lo,a,hf,hl,hs,h1,h2=>by
  have e:lo=a:=()
  subst e;unfold SetTable.below.go;exact⟨hs,h1,h2⟩
 |fuel+1,lo,a,hf,hl,hs,h1,h2=>by
  unfold SetTable.below.go;by_cases c:lo<a
  .rw[Zd c];obtain⟨m,e,l,m2,n,o⟩:=Fd (k:=fuel+1) (x:=0) c hf;have f:m<xs.size:=Zg m2 hs;have h:xs.getD m j=xs.getD m 0:=by rw[Kw f,Kw f]
   show(if xs.getD ((lo+a) / 2) j<j then _ else _)<=xs.size/\(∀i,i<(if xs.getD ((lo+a) / 2) j<j then _ else _)->_)/\∀i,(if xs.getD ((lo+a) / 2) j<j then _ else _)<=i->_;rw[e];by_cases d:xs.getD m j<j
   .rw[Zd d];rw[h] at d;refine Dm u fuel (m+1) a o m2 hs (λi b=>?_) h2;by_cases q:i=m
    .rw[q];exact d
    .exact Uh (u i m (UE (Uo b) q) f) d
   .rw[Ze d];rw[h] at d;refine Dm u fuel lo m n l (Zz f) h1 λi b g=>?_;by_cases q:i=m
    .rw[q];exact Nat.le_of_not_lt d
    .exact Zz (UL (Nat.le_of_not_lt d) (u m i (UE b (Ne.symm q)) g))
  .rw[Ze c];have e:lo=a:=()
   subst e;exact⟨hs,h1,h2⟩
def Bg (u:zK xs)(j):SetTable.below xs j<=xs.size/\(∀i,i<SetTable.below xs j->xs.getD i 0<j)/\∀i,SetTable.below xs j<=i->i<xs.size->j<=xs.getD i 0:=
 Dm u xs.size 0 xs.size () () (Zf _) () ()
def RJ (u:zK xs)(c:i<xs.size):SetTable.below xs (xs.getD i 0)=i:=by
 obtain⟨g,e,f⟩:=Bg u (xs.getD i 0);generalize SetTable.below xs (xs.getD i 0)=p at *;rcases Vh p i with q|q|q
 .have a:=u p i q c;have b:=f p (Zf _) ();lia
 .exact q
 .have:=e i q;lia
def yh (t:YD)(j:Nat):Prop:=∃i,i<t.place.size/\t.place.getD i 0=j
def GV (j):SetTable.has #[] j=false:=rfl
def GW {t:YD}(u:zK t.place){i j:Nat}(a:i<t.place.size)(e:t.place.getD i 0=j):t.slot j=.live i:=by
 unfold SetTable.slot;have b:SetTable.below t.place j=i:=by rw[<- e];exact RJ u a
 simp_all
def RK (b:t.dummies = #[])(h:¬yh t j):t.slot j=.empty:=by
 unfold SetTable.slot;have c:¬(t.place[SetTable.below t.place j]? == some j)=true:=by
  intro z;have z:t.place[SetTable.below t.place j]? = some j:=by simpa using z
  obtain⟨a,e⟩:=Jv.mp z;exact h ⟨_,a,by rwa [Kw a]⟩
 simp_all [GV]
def RL (u:zK t.place)(h:yh t j):∃i,t.slot j=.live i/\i<t.place.size/\t.place.getD i 0=j:=by
 obtain⟨i,a,e⟩:=h;exact⟨i,GW u a e,a,e⟩
def RM {t t':YD}(h:t.mask=t'.mask)(p):t.advance p=t'.advance p:=by
 unfold SetTable.advance;rw[h]
def GX {t t':YD}(h:t.mask=t'.mask)(n)(p):JF t n p=JF t' n p:=by
 induction n generalizing p with
 |zero=>rfl
 |succ n a=>show JF t n (t.advance p)=JF t' n (t'.advance p);rw[RM h,a]
def GY {t t':YD}(h:t.mask=t'.mask)(x):t.probeStart x=t'.probeStart x:=by
 unfold SetTable.probeStart;rw[h]
def vb (t:YD)(o:Nat->Prop)(x:Int)(y:Nat):Prop:=∃n,(JF t n (t.probeStart x)).j=y/\∀m,m<n->o (JF t m (t.probeStart x)).j
def vb.mono {t t':YD}{o c:Nat->Prop}{x:Int}{y:Nat}(h:vb t o x y)(a:t.mask=t'.mask)(e:∀j,o j->c j):vb t' c x y:=by
 obtain⟨n,g,f⟩:=h;refine⟨n,?_,λm b=>?_⟩
 .rwa [<- GX a,<- GY a]
 .rw[<- GX a,<- GY a];exact e _ (f m b)
structure TabOk (t:YD)(hs:Array Int):Prop where
 size:t.place.size=hs.size
 up:zK t.place
 le:∀i,i<t.place.size->t.place.getD i 0<=t.mask
 nod:t.dummies = #[]
 pow:∃k,t.mask+1=2 ^ k
 room:t.place.size<=t.mask
 ways:∀i,i<t.place.size->vb t (yh t) (hs.getD i 0) (t.place.getD i 0)
def RN (u:zK xs)(hs:xs.size<=m):∃y,y<=m/\∀i,i<xs.size->xs.getD i 0≠y:=by
 by_cases h:∀i,i<xs.size->xs.getD i 0=i
 .exact⟨m,Zf _,λi j e=>()⟩
 .obtain⟨i,j,hne,hmin⟩:∃i,i<xs.size/\xs.getD i 0≠i/\∀k,k<i->xs.getD k 0=k:=by
   have g:∀n,n<=xs.size->(∀k,k<n->xs.getD k 0=k)\/∃i,i<xs.size/\xs.getD i 0≠i/\∀k,k<i->xs.getD k 0=k:=by
    intro n
    induction n with
    |zero=>intro _;exact .inl λk f=>Zn f (US _)
    |succ n l =>
     intro o;rcases l () with q|q
     .by_cases c:xs.getD n 0=n
      .refine .inl λk f=>?_;by_cases e:k=n
       .rwa [e]
       .exact q k ()
      .exact .inr ⟨n,(),c,q⟩
     .exact .inr q
   rcases g xs.size (Zf _) with q|q
   .exact Zn q h
   .exact q
  refine⟨i,(),λk f e=>?_⟩;rcases Vh k i with q|q|q
  .grind
  .subst q;exact hne e
  .have a:=u i k q f;have b:i<=xs.getD i 0:=by
    cases i with
    |zero=>exact Ua _
    |succ i =>
     have:=u i (i+1) () j;have:=hmin i ();lia
   lia
def RO (T:TabOk t hs)(x):∃n,n<10*SetTable.turns t.mask/\(∀m,m<n->yh t (JF t m (t.probeStart x)).j)/\¬yh t (JF t n (t.probeStart x)).j:=by
 obtain⟨k,g⟩:=T.pow;obtain⟨y,h,j⟩:=RN T.up T.room;obtain⟨n,b,e⟩:=f7 g x h;have a:¬yh t (JF t n (t.probeStart x)).j:=by
  rw[e];rintro⟨i,l,q⟩;exact j i l q
 have f:∀d n,n<=d->n<10*SetTable.turns t.mask->¬yh t (JF t n (t.probeStart x)).j->∃n,n<10*SetTable.turns t.mask/\(∀m,m<n->yh t (JF t m (t.probeStart x)).j)/\¬yh t (JF t n (t.probeStart x)).j:=by
  intro d
  induction d with
  |zero =>
   grind
  |succ d o =>
   intro n s b a;by_cases c:∀m,m<n->yh t (JF t m (t.probeStart x)).j
   .exact⟨n,b,c,a⟩
   .have ⟨m,p⟩:=Classical.not_forall.mp c;have ⟨u,r⟩:=Classical.not_imp.mp p;exact o m () () r
 exact f n n (Zf _) b a
def Dn {α: Type}(a:Array α)(hp:p<=a.size)(x):(SetTable.insertAt a p x).size=a.size+1:=by
 grind[SetTable.insertAt]
def GZ {α: Type}(a:Array α)(hp:p<=a.size)(x d)(i):(SetTable.insertAt a p x).getD i d=if i<p then a.getD i d else if i=p then x else a.getD (i-1) d:=by
 unfold SetTable.insertAt;simp only[VX]
 grind
def RP (T:TabOk t hs)(w:y<=t.mask)(A:¬yh t y)(B:vb t (yh t) x y)(H:t.place.size+1<=t.mask):TabOk (t.put y).1 (SetTable.insertAt hs (t.put y).2 x)/\(t.put y).2<=hs.size/\(t.put y).1.mask=t.mask:=by
 obtain⟨q,C,E⟩:=Bg T.up y;have hp:(t.put y).2=SetTable.below t.place y:=rfl;have a:(t.put y).1.place=SetTable.insertAt t.place (SetTable.below t.place y) y:=rfl;have b:(t.put y).1.mask=t.mask:=rfl;have m:(t.put y).1.dummies = #[]:=by
  show(if SetTable.has t.dummies y then SetTable.eraseAt t.dummies (SetTable.below t.dummies y) else t.dummies)=_;rw[T.nod,GV];rfl
 rw[hp];have F:∀i,SetTable.below t.place y<=i->i<t.place.size->y<t.place.getD i 0:=λi G r=>by
  have:=E i G r;have:t.place.getD i 0≠y:=λz=>A ⟨i,r,z⟩;lia
 generalize SetTable.below t.place y=p at *;have sz:(SetTable.insertAt t.place p y).size=t.place.size+1:=Dn _ q _;have h:=GZ t.place q y 0;have n:∀j,yh t j->yh (t.put y).1 j:=by
  rintro j ⟨i,l,e⟩;by_cases c:i<p
  .exact⟨i,by rw[a,sz];lia,by rw[a,h,Zd c];exact e⟩
  .exact⟨i+1,by rw[a,sz];lia,by rw[a,h,Ze (),Ze (),Nat.add_sub_cancel];exact e⟩
 have hsz:=T.size;refine⟨⟨?_,?_,?_,m,by rw[b];exact T.pow,(),?_⟩,(),b⟩
 .rw[a,sz,Dn _ ()];lia
 .intro i j o s;rw[a] at s ⊢;rw[sz] at s;rw[h,h];by_cases f:j<p
  .rw[Zd f,Zd ()];exact T.up i j o ()
  .rw[Ze f];by_cases g:j=p
   .rw[Zd g,Zd ()];exact C i ()
   .rw[Ze g];by_cases u:i<p
    .rw[Zd u];exact T.up i (j-1) () ()
    .rw[Ze u];by_cases v:i=p
     .rw[Zd v];exact F (j-1) () ()
     .rw[Ze v];exact T.up (i-1) (j-1) (Nat.sub_lt_sub_right () (by assumption)) ()
 .intro i l;rw[a] at l ⊢;rw[sz] at l;rw[h,b]
  split
  .exact T.le i ()
  .split
   .exact w
   .exact T.le (i-1) ()
 .intro i l;rw[a] at l ⊢;rw[sz] at l;rw[h,GZ hs () x 0];by_cases f:i<p
  .rw[Zd f,Zd f];exact(T.ways i ()).mono b.symm n
  .rw[Ze f,Ze f];by_cases g:i=p
   .rw[Zd g,Zd g];exact B.mono b.symm n
   .rw[Ze g,Ze g];exact(T.ways (i-1) ()).mono b.symm n
open PySem
theorem Bh (t)(i pert):∀k,k<=SetTable.runEnd t.mask i-i->JF t k (Kv t.mask i pert)={ j:=i+k,more:=SetTable.runEnd t.mask i-i-k,i:=i,perturb:=pert,dummy:=none }
 | 0,_=>rfl
 |k+1,h=>by
  rw[RG,Bh t i pert k ()]
  grind[SetTable.advance]
def Dp {mask i:Nat}(h:i<=mask):i<=SetTable.runEnd mask i/\SetTable.runEnd mask i<=mask:=by
 grind[SetTable.runEnd]
def xS (owner:Array (Option Nat))(j:Nat):Prop:=∃i,owner.getD j none=some i
theorem Ha {t:YD}{owner:Array (Option Nat)}(hs:owner.size=t.mask+1):∀fuel i pert y,i<=t.mask->SetTable.layClean.free t.mask owner fuel i pert=some y ->
 y<=t.mask/\owner.getD y none=none/\∃n,(JF t n (Kv t.mask i pert)).j=y/\∀m,m<n->xS owner (JF t m (Kv t.mask i pert)).j
 | 0,i,pert,y,_,h=>by unfold SetTable.layClean.free at h;exact J3 h
 |fuel+1,i,pert,y,hi,h=>by
  have j:=Dp hi;unfold SetTable.layClean.free at h;have l:∀{k},k<SetTable.runEnd t.mask i+1-i->k<=SetTable.runEnd t.mask i-i:=λa=>by
   rw[Nat.succ_sub j.1] at a;exact Uo a
  have o:∀{k},k<SetTable.runEnd t.mask i+1-i->i+k<owner.size:=λa=>by
   rw[hs];exact Nat.lt_succ_of_le (Zh (Nat.add_le_of_le_sub' j.1 (l a)) j.2)
  have e:∀k,k<SetTable.runEnd t.mask i+1-i->owner.getD (i+k) (some 0)=owner.getD (i+k) none:=λk a=>by
   rw[Kw (o a),Kw (o a)]
  have bz:∀k,k<SetTable.runEnd t.mask i+1-i->(!(owner.getD (i+k) (some 0)).isNone)=true->xS owner (i+k):=λk a p=>by
   rw[e k a] at p;unfold xS;cases q:owner.getD (i+k) none with
   |none=>rw[q] at p;exact JD p
   |some v=>exact⟨v,rfl⟩
  split at h
  .rename_i k a;obtain⟨r,b,s⟩:=List.find?_range_eq_some.mp a;have b:=Jh.mp b;obtain rfl:=Zqi h;refine⟨Uo (by have:=o b;rwa [hs] at this),?_,k,?_,λm f=>?_⟩
   .rw[e k b] at r;cases q:owner.getD (i+k) none with
    |none=>rfl
    |some v=>rw[q] at r;exact JD r
   .rw[Bh t i pert k (l b)]
   .rw[Bh t i pert m (l (Uh f b))];exact bz m (Uh f b) (s m f)
  .rename_i a;have s:=Jw.mp a;have w:(SetTable.leap t.mask i pert).1<=t.mask:=Jm.mp (UD _ (Vg _));obtain⟨x,z,n,A,B⟩:=Ha hs fuel _ _ y w h;have g:=GP t (SetTable.runEnd t.mask i-i) (Kv t.mask i pert) rfl rfl;have g:JF t (SetTable.runEnd t.mask i-i+1) (Kv t.mask i pert)=Kv t.mask (SetTable.leap t.mask i pert).1 (SetTable.leap t.mask i pert).2:=g;refine⟨x,z,SetTable.runEnd t.mask i-i+1+n,by rw[Z1,g];exact A,λm f=>?_⟩;by_cases c:m<=SetTable.runEnd t.mask i-i
   .rw[Bh t i pert m c];exact bz m () (s m ())
   .obtain⟨u,rfl⟩:∃u,m=SetTable.runEnd t.mask i-i+1+u:=⟨m-(SetTable.runEnd t.mask i-i+1),()⟩;rw[Z1,g];exact B u ()
theorem Hb {mask:Nat}{owner:Array (Option Nat)}(hs:owner.size=mask+1):∀fuel i pert,i<=mask->SetTable.layClean.free mask owner fuel i pert=none->∀r,r<fuel->xS owner (qK mask r (i,pert)).1
 | 0,i,pert,_,_,r,hr=>Zn hr (US _)
 |fuel+1,i,pert,hi,h,r,hr=>by
  have a:=Dp hi;unfold SetTable.layClean.free at h
  split at h
  .cases h
  .rename_i b;have c:(SetTable.leap mask i pert).1<=mask:=Jm.mp (UD _ (Vg _));cases r with
   |zero =>
    have f:=(Jw.mp b) 0 ();have e:owner.getD (i+0) (some 0)=owner.getD i none:=by grind
    rw[e] at f;show xS owner i;unfold xS;cases q:owner.getD i none with
    |none=>simp_all
    |some v=>simp
   |succ r=>exact Hb hs fuel _ _ c h r ()
def RQ {mask k:Nat}(a:mask+1=2 ^ k)(h){y:Nat}(b:y<=mask):∃r,r<SetTable.turns mask/\(qK mask r (SetTable.bits h % (mask+1),SetTable.bits h)).1=y:=by
 have c:SetTable.bits h<2 ^ 64:=by
  grind[SetTable.bits]
 have f:=GS mask 13 (SetTable.bits h % (mask+1),SetTable.bits h) (UD _ ());have hp:(qK mask 13 (SetTable.bits h % (mask+1),SetTable.bits h)).2=0:=by
  grind[Dk]
 have ⟨q,g,e⟩:=Dj k (qK mask 13 (SetTable.bits h % (mask+1),SetTable.bits h)).1 y ();refine⟨13+q,by unfold SetTable.turns;lia,?_⟩;rw[GR]
 grind[Dl]
structure LayOk (t:YD)(owner:Array (Option Nat))(hs:Yh):Prop where
 size:owner.size=t.mask+1
 lt:∀j i,owner.getD j none=some i->i<hs.length
 one:∀j j' i,owner.getD j none=some i->owner.getD j' none=some i->j=j'
 all:∀i,i<hs.length->∃j,j<=t.mask/\owner.getD j none=some i/\vb t (xS owner) (hs.getD i 0) j
def RR {f:Nat->Nat}{n:Nat}(h:∀a b,a<n->b<n->f a=f b->a=b):((List.range n).map f).Nodup:=by
 grind[List.pairwise_map,List.Pairwise.imp_of_mem,List.nodup_range]
def RU {t:YD}{owner:Array (Option Nat)}{hs:Yh}(L:LayOk t owner hs)(p:hs.length<=t.mask):∃y,y<=t.mask/\owner.getD y none=none:=by
 apply Classical.byContradiction;intro j;have g:∀y,y<t.mask+1->∃i,owner.getD y none=some i:=λy h=>by
  cases q:owner.getD y none with
  |none=>grind
  |some i=>simp
 have l:((List.range (t.mask+1)).map λy=>(owner.getD y none).getD 0).Nodup:=RR λa b m n e=>by
  obtain⟨i,c⟩:=g a m;obtain⟨o,f⟩:=g b n;rw[c,f] at e;have e:i=o:=e;subst e;exact L.one a b i c f
 have sub:((List.range (t.mask+1)).map λy=>(owner.getD y none).getD 0) ⊆ List.range hs.length:=λz hz=>by
  obtain⟨y,h,rfl⟩:=Ja.mp hz;obtain⟨i,c⟩:=g y (Jh.mp h);rw[c];exact Jh.mpr (L.lt y i c)
 have:=VY l sub
 grind
def RV {owner:Array (Option Nat)}{y:Nat}(a:y<owner.size)(v)(j):(owner.setIfInBounds y v).getD j none=if j=y then v else owner.getD j none:=by
 simp
 grind
def RW {t:YD}{owner:Array (Option Nat)}{hs:Yh}(L:LayOk t owner hs)(x:hs.length<=t.mask)(hp:∃k,t.mask+1=2 ^ k)(h):
 ∃y,SetTable.layClean.free t.mask owner (SetTable.turns t.mask) (SetTable.bits h % (t.mask+1)) (SetTable.bits h)=some y/\LayOk t (owner.setIfInBounds y (some hs.length)) (hs++[h]):=by
 have p:SetTable.bits h % (t.mask+1)<=t.mask:=Jm.mp (UD _ (Vg _));cases q:SetTable.layClean.free t.mask owner (SetTable.turns t.mask) (SetTable.bits h % (t.mask+1)) (SetTable.bits h) with
 |none =>
  obtain⟨k,A⟩:=hp;obtain⟨y,B,C⟩:=RU L x;obtain⟨r,E,e⟩:=RQ A h B;obtain⟨i,hz⟩:=Hb L.size _ _ _ p q r E;rw[e,C] at hz;exact J3 hz
 |some y =>
  obtain⟨F,s,n,G,H⟩:=Ha L.size _ _ _ y p q;have l:=RV (owner:=owner) (y:=y) (by rw[L.size];lia) (some hs.length);have u:∀j,xS owner j->xS (owner.setIfInBounds y (some hs.length)) j:=by
   rintro j ⟨i,f⟩;refine⟨i,?_⟩;rw[l,Ze λz=>by rw[z,s] at f;cases f];exact f
  refine⟨y,rfl,⟨by rw[Array.size_setIfInBounds];exact L.size,λj i f=>?_,λj v i f g=>?_,λi o=>?_⟩⟩
  .rw[Ub,Uu];rw[l] at f
   split at f
   .simp_all
   .have:=L.lt j i f;lia
  .rw[l] at f g
   split at f
   .rename_i a;obtain rfl:=Zqi f
    split at g
    .rename_i b;rw[a,b]
    .have:=L.lt v _ g;lia
   .split at g
    .obtain rfl:=Zqi g;have:=L.lt j _ f;lia
    .exact L.one j v i f g
  .rw[Ub,Uu] at o;by_cases c:i<hs.length
   .have ⟨j,I,w,J⟩:=L.all i c;refine⟨j,I,?_,?_⟩
    .rwa [l,Ze λz=>by rw[z,s] at w;cases w]
    .have e:(hs++[h]).getD i 0=hs.getD i 0:=by
      rw[Uq,Uq,UZ c]
     rw[e];exact J.mono rfl u
   .have e:i=hs.length:=()
    subst e;refine⟨y,F,by rw[l,Zd rfl],?_⟩;have e:(hs++[h]).getD hs.length 0=h:=by
     rw[Uq,Vc (Zf _),Nat.sub_self];rfl
    rw[e];exact⟨n,G,λm K=>u _ (H m K)⟩
theorem Hc {t:YD}(hp:∃k,t.mask+1=2 ^ k):∀rest hs owner,LayOk t owner hs->hs.length+rest.length<=t.mask+1 ->
 ∃a,rest.foldl (init:=some (owner,hs.length)) (λb h=>do
  let (owner,k) <- b
  let j <- SetTable.layClean.free t.mask owner (SetTable.turns t.mask) (SetTable.bits h % (t.mask+1)) (SetTable.bits h)
  pure (owner.setIfInBounds j (some k),k+1))=some (a,hs.length+rest.length)/\LayOk t a (hs++rest)
 | [],hs,owner,L,_=>by grind
 |h::rest,hs,owner,L,hl=>by
  rw[Zu] at hl;obtain⟨y,e,c⟩:=RW L () hp h;obtain⟨f,g,i⟩:=Hc hp rest (hs++[h]) _ c ()
  grind
def RX {t:YD}(hp:∃k,t.mask+1=2 ^ k)(hs)(b:hs.size<=t.mask+1):∃owner,SetTable.layClean t.mask hs=some owner/\LayOk t owner hs.toList:=by
 have a:LayOk t (Array.replicate (t.mask+1) none) []:=by
  have z:∀j i,(Array.replicate (t.mask+1) (none:Option Nat)).getD j none≠some i:=λj i h=>by
   simp[Array.getElem?_replicate] at h
   split at h<;>exact J3 h
  exact⟨(),(),(),()⟩
 have ⟨o,e,L⟩:=Hc hp hs.toList [] _ a ()
 simp_all [SetTable.layClean]
open PySem
def RY {owner:Array (Option Nat)}{j i:Nat}(h:owner.getD j none=some i):j<owner.size:=()
def KG (mask:Nat)(owner:Array (Option Nat)):List (Nat×Nat):=(List.range (mask+1)).filterMap λj=>(owner.getD j none).map (j,·)
def RZ:p∈KG mask owner↔p.1<=mask/\owner.getD p.1 none=some p.2:=by
 unfold KG;rw[List.mem_filterMap];constructor
 .rintro⟨j,a,e⟩;obtain⟨i,b,e⟩:=Jj.mp e;subst e;exact⟨Jm.mp (Jh.mp a),b⟩
 grind
def Sa (mask)(owner):(KG mask owner).Pairwise λa b=>a.1<b.1:=by
 unfold KG;rw[List.pairwise_filterMap];refine List.pairwise_lt_range.imp λ{a b} c x e y f=>?_;obtain⟨i,_,rfl⟩:=Jj.mp e;obtain⟨g,_,rfl⟩:=Jj.mp f;exact c
def Dq {α: Type}(l:List α)(i)(d):l.toArray.getD i d=l.getD i d:=()
def Dr {α β: Type}(l:List α)(f:α -> β)(i)(hi)(d):(l.map f).getD i d=f l[i]:=()
def Sb {mask:Nat}(hp:∃k,mask+1=2 ^ k)(hs)(S:hs.size<=mask)(finger moves)(led plain):
 ∃t' c,SetTable.laid mask finger moves led plain hs=some (t',c)/\t'.mask=mask/\t'.moves=moves/\t'.led=led/\t'.plain=plain/\t'.finger=finger/\c.size=hs.size/\(∀k,k<c.size->c.getD k 0<hs.size)/\(∀k l,k<c.size->l<c.size->c.getD k 0=c.getD l 0->k=l)/\(∀i,i<hs.size->∃k,k<c.size/\c.getD k 0=i)/\TabOk t' (c.map λi=>hs.getD i 0):=by
 let C:YD:={ mask:=mask,place:=#[],dummies:=#[],finger:=0,led:=false,moves:=0,plain:=true }
 obtain⟨owner,e,L⟩:=RX (t:=C) hp hs ();have e:SetTable.layClean mask hs=some owner:=e;have hsz:owner.size=mask+1:=L.size;have mem:=λp=>RZ (mask:=mask) (owner:=owner) (p:=p);have B:=Sa mask owner;have x:((KG mask owner).map (·.2)).Nodup:=by
  unfold List.Nodup;rw[U4];refine List.Pairwise.imp_of_mem (λ{a b} E F G n=>?_) B;have m:=((mem a).mp E).2;have u:=((mem b).mp F).2;rw[n] at m;have:=L.one _ _ _ m u;lia
 have v:((KG mask owner).map (·.2)) ⊆ List.range hs.size:=λz hz=>by
  obtain⟨p,hp,rfl⟩:=Ja.mp hz;have:=L.lt _ _ ((mem p).mp hp).2;exact Jh.mpr (by simpa using this)
 have o:List.range hs.size ⊆ ((KG mask owner).map (·.2)):=λi g=>by
  obtain⟨j,m,u,_⟩:=L.all i (by simpa using Jh.mp g);exact Ja.mpr ⟨(j,i),(mem (j,i)).mpr ⟨m,u⟩,rfl⟩
 have len:(KG mask owner).length=hs.size:=by
  have a:=VY x v;have b:=VY List.nodup_range o;rw[Zql,ZB] at a b;lia
 have H:SetTable.laid mask finger moves led plain hs=some ({ mask:=mask,place:=((KG mask owner).map (·.1)).toArray,dummies:=#[],finger:=finger,led:=led,moves:=moves,plain:=plain },((KG mask owner).map (·.2)).toArray):=by
  unfold SetTable.laid;rw[e];rfl
 generalize I:KG mask owner=lv at *;have w:∀i g,((lv.map (·.1)).toArray).getD i 0=lv[i].1:=λi g=>by rw[Dq,Dr _ _ _ g]
 have go:∀i g,((lv.map (·.2)).toArray).getD i 0=lv[i].2:=λi g=>by rw[Dq,Dr _ _ _ g]
 have r:=Jk.mp B;refine⟨_,_,H,rfl,rfl,rfl,rfl,rfl,by simpa using len,λk f=>?_,λk l f h n=>?_,λi g=>?_,?_⟩
 .have f:k<lv.length:=by simpa using f
  rw[go k f];have:=L.lt _ _ ((mem lv[k]).mp (UC f)).2;simpa using this
 .have f:k<lv.length:=by simpa using f
  have h:l<lv.length:=by simpa using h
  rw[go k f,go l h] at n;have m:=((mem lv[k]).mp (UC f)).2;have u:=((mem lv[l]).mp (UC h)).2;rw[n] at m;have T:=L.one _ _ _ m u;rcases Vh k l with q|q|q
  .have:=r k l f h q;lia
  .exact q
  .have:=r l k h f q;lia
 .obtain⟨p,hp,n⟩:=Ja.mp (o (Jh.mpr g));obtain⟨k,f,rfl⟩:=Uz hp;exact⟨k,by simpa using f,by rw[go k f];exact n⟩
 .have J:∀j,xS owner j->yh { mask:=mask,place:=(lv.map (·.1)).toArray,dummies:=#[],finger:=finger,led:=led,moves:=moves,plain:=plain } j:=by
   rintro j ⟨i,s⟩;have K:=RY s;have M:(j,i)∈lv:=(mem (j,i)).mpr ⟨by show j<=mask;lia,s⟩;obtain⟨k,f,n⟩:=Uz M;exact⟨k,by simpa using f,by show((lv.map (·.1)).toArray).getD k 0=j;rw[w k f,n]⟩
  refine⟨(),λi j y s=>?_,λi g=>?_,rfl,hp,by show((lv.map (·.1)).toArray).size<=mask;simp;lia,λk f=>?_⟩
  .have s:j<lv.length:=by simpa using s
   show((lv.map (·.1)).toArray).getD i 0<((lv.map (·.1)).toArray).getD j 0;rw[w i (),w j s];exact r i j () s y
  .have g:i<lv.length:=by simpa using g
   show((lv.map (·.1)).toArray).getD i 0<=mask;rw[w i g];exact((mem lv[i]).mp (UC g)).1
  .have f:k<lv.length:=by simpa using f
   have m:=((mem lv[k]).mp (UC f)).2;have A:=L.lt _ _ m;obtain⟨j,U,N,O⟩:=L.all lv[k].2 A;have P:=L.one _ _ _ N m;subst P;have Q:(((lv.map (·.2)).toArray).map λi=>hs.getD i 0).getD k 0=hs.toList.getD lv[k].2 0:=by
    have R:((lv.map (·.2)).toArray).map (λi=>hs.getD i 0)=((lv.map (·.2)).map λi=>hs.getD i 0).toArray:=by simp
    rw[R,Dq,Zw,Dr _ _ _ f];show hs.getD lv[k].2 0=_;rw[VX,Uq,Vb]
   rw[Q];show vb _ _ _ (((lv.map (·.1)).toArray).getD k 0);rw[w k f];exact O.mono rfl J
theorem Hd:∀fuel a n,(∃k,a=2 ^ k)->n<a*2 ^ fuel->(∃k,SetTable.sizeAbove.go n fuel a=2 ^ k)/\n<SetTable.sizeAbove.go n fuel a
 | 0,a,n,hp,h=>by
  simp_all [SetTable.sizeAbove.go]
 |fuel+1,a,n,⟨k,hk⟩,h=>by
  unfold SetTable.sizeAbove.go
  split
  .exact Hd fuel (a*2) n ⟨k+1,()⟩ ()
  grind
def He (h:n<1000000000):(∃k,SetTable.sizeAbove n=2 ^ k)/\n<SetTable.sizeAbove n:=
 Hd 64 8 n ⟨3,rfl⟩ (Zg h (by decide))
theorem Hf:∀fuel a n,a<=2*n+8->SetTable.sizeAbove.go n fuel a<=2*n+8
 | 0,a,n,h=>h
 |fuel+1,a,n,h=>by
  unfold SetTable.sizeAbove.go
  split
  .exact Hf fuel (a*2) n ()
  lia
def Sc (n):SetTable.sizeAbove n<=2*n+8:=Hf 64 8 n ()
def Se {t:YD}{hs:Array Int}{wanted:Nat}(r:hs.size<=wanted)(f:wanted<1000000000):
 ∃t' a,t.relaid hs wanted=some (t',a)/\t'.led=t.led/\t'.plain=t.plain/\t'.mask+1=SetTable.sizeAbove wanted/\a.size=hs.size/\(∀k,k<a.size->a.getD k 0<hs.size)/\(∀k b,k<a.size->b<a.size->a.getD k 0=a.getD b 0->k=b)/\(∀i,i<hs.size->∃k,k<a.size/\a.getD k 0=i)/\TabOk t' (a.map λi=>hs.getD i 0):=by
 obtain⟨⟨k,s⟩,g⟩:=He f;have h:SetTable.sizeAbove wanted-1+1=SetTable.sizeAbove wanted:=()
 obtain⟨t',a,e,j,_,l,m,_,n,o,p,q,c⟩:=Sb ⟨k,by rwa [h]⟩ hs () t.finger (t.movedTo (SetTable.sizeAbove wanted-1)) t.led t.plain;exact⟨t',a,e,l,m,by rwa [j],n,o,p,q,c⟩
open PySem
variable {prog:Program}{w:World}{A:Around}{E:Ya}{s:Shared}
theorem TabOk.fits {t:YD}{es:Array (Int×Value)}(T:TabOk t (es.map (·.1))):t.fits es.size=true:=by
 have a:=T.size;rw[Uj] at a;unfold SetTable.fits SetTable.fill;rw[T.nod];simp[a,show es.size<=t.mask by have:=T.room;lia]
def Hg {es:Array (Int×Value)}{i:Nat}(hi):(es.map (·.1)).getD i 0=es[i].1:=()
def Ds {es:Array (Int×Value)}{i:Nat}(hi):(es[i]?.map (·.1)).getD 0=es[i].1:=()
def We (t:YD)(p:SetTable.Probe):Prop:=p.j+p.more<=t.mask
def Hh (t)(h:i<=t.mask):We t (Kv t.mask i pert):=by
 have:=Dp h;show i+(SetTable.runEnd t.mask i-i)<=t.mask;lia
def Sf (h:We t p):We t (t.advance p):=by
 unfold We at h;unfold SetTable.advance
 split
 .show p.j+1+(p.more-1)<=t.mask;lia
 .have a:(SetTable.leap t.mask p.i p.perturb).1<=t.mask:=Jm.mp (UD _ (Vg _));exact Hh t (pert:=(SetTable.leap t.mask p.i p.perturb).2) a
def Sh (h:We t p)(n):We t (JF t n p):=by
 induction n generalizing p with
 |zero=>exact h
 |succ n a=>exact a (Sf h)
def Si (t)(h):We t (t.probeStart h):=Hh t (Jm.mp (UD _ (Vg _)))
def Sj (h:We t p)(n):(JF t n p).j<=t.mask:=by
 have:=Sh h n
 grind[We]
theorem Hi {a:Addr}{o:Obj}{es:Array (Int×Value)}{ep:Nat}{t:YD}{x:Value}{h:Int}{same:Value->Bool}{Q:SetFound->YC}{e:Nat}
 (O:s.heap.get? a=some o) (P:o.data=.set es ep t) (T:TabOk t (es.map (·.1))) (u:t.mask % 2=1)
 (hq:∀i (l:i<es.size),es[i].1=h->∀Q:Bool->YC,Q (same es[i].2) s->YJ prog w A (eqBool es[i].2 x) Q E s)
 (hr:∀i (l:i<es.size),∃b,es[i].2=.ref b)
 (hsn:t.led=true\/∀Q:Bool->YC,Q false s->YJ prog w A (searchCouldBeSeen x ((es.filter (·.1 == h)).toList.map (·.2))) Q E s)
 (he:e<10*SetTable.turns t.mask) (H:∀m,m<e->yh t (JF t m (t.probeStart h)).j) (r:¬yh t (JF t e (t.probeStart h)).j)
 (I:∀i (l:i<es.size),es[i].1=h->same es[i].2=true->Q (.there none) s)
 (v:(∀i (l:i<es.size),es[i].1=h->same es[i].2=false)->Q (.free (JF t e (t.probeStart h)).j false) s):
 ∀fuel c st,c<=e->e-c<fuel->st.getD (t.probeStart h)=JF t c (t.probeStart h) ->
  (∀m i l,m<c->t.slot (JF t m (t.probeStart h)).j=.live i->es[i].1=h->same es[i].2=false) ->
  YJ prog w A (setSearchFrom a x h true fuel st) Q E s
 | 0,c,st,hc,hf,_,_=>Zn hf (US _)
 |fuel+1,c,st,hc,hf,hst,hno=>by
  have hsz:t.place.size=es.size:=by have:=T.size;rwa [Uj] at this
  show wpAny _ _ (_ >>= _) _ _ _;refine Za (wpAny_setState_of O P T.fits ?_);dsimp only;have hg:t.gaveWay=false:=by unfold SetTable.gaveWay;rw[u];rfl
  rw[hg];simp only[UB,if_false];have live:∀m,m<e->∃i,t.slot (JF t m (t.probeStart h)).j=.live i/\i<es.size/\t.place.getD i 0=(JF t m (t.probeStart h)).j:=λm hm=>by
   obtain⟨i,h1,h2,h3⟩:=RL T.up (H m hm);exact⟨i,h1,(),h3⟩
  have step:∀m,JF t m (JF t c (t.probeStart h))=JF t (c+m) (t.probeStart h):=λm=>(Z1 t c m _).symm;have F:∀g:Nat->Int,(∀i,g i=(es[i]?.map (·.1)).getD 0)->(∃m i,c<=m/\m<e/\t.slot (JF t m (t.probeStart h)).j=.live i/\g i=h/\t.probe g h (st.getD (t.probeStart h))=some (.candidate (JF t m (t.probeStart h)).j i (JF t (m+1) (t.probeStart h)))/\∀f j,c<=f->f<m->t.slot (JF t f (t.probeStart h)).j=.live j->g j≠h) \/
   (t.probe g h (st.getD (t.probeStart h))=some (.empty (JF t e (t.probeStart h)).j none)/\∀f j,c<=f->f<e->t.slot (JF t f (t.probeStart h)).j=.live j->g j≠h):=λg _=>by
   rw[hst];have sd:(JF t c (t.probeStart h)).dummy=none:=RH rfl c;have ek:c+(e-c)=e:=()
   rcases GU (t:=t) (hashAt:=g) (h:=h) (e-c) (10*SetTable.turns t.mask) (JF t c (t.probeStart h)) () sd () (by rw[step,ek];exact RK T.nod r) with ⟨m,i,g1,g2,g3,g4,g5⟩|⟨g1,g2⟩
   .rw[step] at g2 g4;rw[step] at g4;refine .inl ⟨c+m,i,(),(),g2,g3,g4,λf j a1 a2 R=>g5 (f-c) j () (by rw[step,show c+(f-c)=f by lia];exact R)⟩
   .rw[step,ek] at g1;exact .inr ⟨g1,λf j a1 a2 R=>g2 (f-c) j () (by rw[step,show c+(f-c)=f by lia];exact R)⟩
  generalize B:t.probe _ h (st.getD (t.probeStart h))=met;have J:∀i l,es[i].1=h->∃m,m<e/\t.slot (JF t m (t.probeStart h)).j=.live i:=λi l C=>by
   obtain⟨n,S,n2⟩:=T.ways i ();rw[Hg l,C] at S n2;refine⟨n,?_,by rw[S];exact GW T.up () rfl⟩;rcases Vh n e with q|q|q
   .exact q
   .subst q;exact Zn ⟨i,(),S.symm⟩ r
   .exact Zn (n2 e q) r
  rcases F _ (λi=>rfl) with ⟨m,i,c1,U,X,c4,c5,c6⟩|⟨c1,U⟩
  .have Y:=B.symm.trans c5;subst Y;obtain⟨i2,k1,k2,k3⟩:=live m U;rw[X] at k1;cases k1;have C:es[i].1=h:=by rw[<- Ds k2];exact c4
   dsimp only;have rest:YJ prog w A (do
    let some (_,y):=es[i]? | unsupported "internal:set-entry"
    let p <- holding [y] (eqBool y x)
    let (es',_,t') <- setState a
    if true&&p then return SetFound.there none
    let some same:=t'.sameMemory t.moves t.mask|unsupported "set.changed-during-lookup:is-the-new-block-at-the-old-address"
    let G <- match (if same then t'.slot (JF t m (t.probeStart h)).j else .empty) with
     | .live j=>match es'[j]? with
      |some (_,y')=>do pure (if <- isSame y' y then some j else none)
      |none=>pure none
     |_=>pure none
    match G with
    |none=>rule "set.search.anew";setSearchFrom a x h true fuel none
    |some j=>if p then return .there (some j) else setSearchFrom a x h true fuel (some (JF t (m+1) (t.probeStart h)))) Q E s:=by
    rw[Us k2];dsimp only;refine Za (wpAny_holding (hq i k2 C _ ?_));refine Za (wpAny_setState_of O P T.fits ?_);dsimp only;cases hs:same es[i].2 with
    |true =>
     simp only[Bool.and_self,if_true];exact Zb (I i k2 C hs)
    |false =>
     simp only[Bool.and_false,UB,if_false];have Z:t.sameMemory t.moves t.mask=some true:=by unfold SetTable.sameMemory;rw[Zd (beq_self_eq_true _)]
     rw[Z];dsimp only;simp only[if_true];rw[X];dsimp only;rw[Us k2];dsimp only;obtain⟨b,hb⟩:=hr i k2;have his:∀{Q':Bool->YC},Q' true s->YJ prog w A (isSame es[i].2 es[i].2) Q' E s:=λ{Q'} hq'=>by
      rw[hb];unfold isSame;dsimp only;rw[Zd (beq_self_eq_true _)];exact Zb hq'
     refine Za (his ?_);simp only[if_true];refine Za (Zb ?_);dsimp only;refine Hi O P T u hq hr hsn he H r I v fuel (m+1) _ () () rfl λf j K hm' N L=>?_;by_cases d1:f<c
     .exact hno f j K d1 N L
     .by_cases d2:f=m
      .subst d2;rw[X] at N;cases N;exact hs
      .exact Zn (by rw[Ds K];exact L) (c6 f j () () N)
   cases M:t.led with
   |true =>
    rw[Ze ()];exact rest
   |false =>
    rw[Zd ()];rcases hsn with z|hsn
    .rw[z] at M;cases M
    .refine Za (hsn _ ?_);rw[Ze ()];exact rest
  .have Y:=B.symm.trans c1;subst Y;dsimp only;refine Zb (v λi l C=>?_);obtain⟨m,m1,m2⟩:=J i l C;by_cases d1:m<c
   .exact hno m i l d1 m2 C
   .exact Zn (by rw[Ds l];exact C) (U m i () m1 m2)
def Sk {a:Addr}{o:Obj}{es:Array (Int×Value)}{ep:Nat}{t:YD}{x:Value}{h:Int}{same:Value->Bool}{Q:SetFound->YC}
 (p:s.heap.get? a=some o) (q:o.data=.set es ep t) (T:TabOk t (es.map (·.1))) (c:t.mask % 2=1) (B:t.mask<=9000)
 (r:∀i (l:i<es.size),es[i].1=h->∀Q:Bool->YC,Q (same es[i].2) s->YJ prog w A (eqBool es[i].2 x) Q E s)
 (u:∀i (l:i<es.size),∃b,es[i].2=.ref b)
 (m:t.led=true\/∀Q:Bool->YC,Q false s->YJ prog w A (searchCouldBeSeen x ((es.filter (·.1 == h)).toList.map (·.2))) Q E s)
 (n:∀i (l:i<es.size),es[i].1=h->same es[i].2=true->Q (.there none) s)
 (f:(∀i (l:i<es.size),es[i].1=h->same es[i].2=false)->∀y,y<=t.mask->¬yh t y->vb t (yh t) h y->Q (.free y false) s):
 YJ prog w A (setSearch a x h true) Q E s:=have ⟨e,v,g,j⟩:=RO T h;Hi p q T c r u m v g j n (λz=>f z _ (Sj (Si t h) e) j ⟨e,rfl,g⟩) 100000 0 none (Ua _) (by grind[SetTable.turns]) rfl ()
open PySem
theorem Hj:∀fuel a n,a<=SetTable.sizeAbove.go n fuel a
 | 0,a,n=>by simp_all [SetTable.sizeAbove.go]
 |fuel+1,a,n=>by
  unfold SetTable.sizeAbove.go
  split
  .exact Zh () (Hj fuel (a*2) n)
  .exact Zf _
def Sl (n):8<=SetTable.sizeAbove n:=Hj 64 8 n
def Sm {m k:Nat}(h:m+1=2 ^ k)(a:7<=m):m % 2=1:=by
 cases k with
 |zero=>lia
 |succ k=>lia
def Sn {b:Yi}{n:Nat}(o:∀k,k<b.size->b.getD k 0<n)(p:∀k m,k<b.size->m<b.size->b.getD k 0=b.getD m 0->k=m)(q:∀i,i<n->∃k,k<b.size/\b.getD k 0=i):b.toList.Perm (List.range n):=by
 have r:b.toList.Nodup:=by
  unfold List.Nodup;rw[List.pairwise_iff_getElem];intro i j t u v e;have c:i<b.size:=by simpa using t
  have f:j<b.size:=by simpa using u
  have:=p i j c f (by rw[Kw c,Kw f];simpa using e);lia
 refine List.perm_iff_count.mpr λa=>?_;rw[r.count,List.nodup_range.count];have:a∈b.toList↔a∈List.range n:=by
  rw[List.mem_range];constructor
  .intro h;obtain⟨k,l,e⟩:=Uz h;have g:k<b.size:=by simpa using l
   have:=o k g;rw[Kw g] at this;have e:b[k]=a:=by simpa using e
   lia
  .intro h;have ⟨k,l,e⟩:=q a h;rw[Kw l] at e;rw[<- e,VO];exact VP l
 simp only[this]
def So {α: Type}{es:Array α}{a:Yi}(d)(c:∀k,k<a.size->a.getD k 0<es.size):(a.filterMap (es[·]?))=a.map λi=>es.getD i d:=by
 apply Array.toList_inj.mp;rw[Array.toList_filterMap,Array.toList_map];have:∀l:Yj,(∀i∈l,i<es.size)->l.filterMap (es[·]?)=l.map λi=>es.getD i d:=by
  intro l
  induction l with
  |nil=>intro _;rfl
  |cons i l g =>
   simp_all
 refine this _ λi f=>?_;obtain⟨k,h,e⟩:=Uz f;have b:k<a.size:=()
 have:=c k b
 simp_all
structure SetIs (hp:Heap)(a:Addr)(es:Array (Int×Value))(t:YD):Prop where
 at_:∃ep,hp.get? a=some { cls:=.type "set",dict:=none,data:=.set es ep t,slots:=#[] }
 tab:TabOk t (es.map (·.1))
 seven:7<=t.mask
 most:t.mask<=8*es.size+7
 room:es.size*5<t.mask*3
 refs:∀i (hi:i<es.size),∃b,es[i].2=.ref b
def SetIs.odd {hp:Heap}{a:Addr}{es:Array (Int×Value)}{t:YD}(S:SetIs hp a es t):t.mask % 2=1:=have ⟨k,b⟩:=S.tab.pow;Sm b S.seven
variable {prog:Program}{w:World}{A:Around}{E:Ya}{s:Shared}
def Hk {hp:Heap}{a:Addr}{es es':Array (Int×Value)}{ep:Nat}{t t':YD}(b:hp.get? a=some { cls:=.type "set",dict:=none,data:=.set es ep t,slots:=#[] }):
 (hp.update a (Obj.putSet es' t')).get? a=some { cls:=.type "set",dict:=none,data:=.set es' (ep+1) t',slots:=#[] }:=by
 have:=Heap.get?_update_self (Obj.putSet es' t') b (by rfl)
 rwa [(putSet_of es' t' rfl)] at this
def Sq {α β: Type}(f:α -> β)(xs)(p)(x):(SetTable.insertAt xs p x).map f=SetTable.insertAt (xs.map f) p (f x):=by
 unfold SetTable.insertAt;simp
def Sr {a:Addr}{es:Array (Int×Value)}{ep:Nat}{t:YD}{Q:Unit->YC}
 (m:s.heap.get? a=some { cls:=.type "set",dict:=none,data:=.set es ep t,slots:=#[] }) (T:TabOk t (es.map (·.1))) (U:1<=es.size) (X:es.size<=1000) (C:∀i (f:i<es.size),∃b,es[i].2=.ref b)
 (h:∀es' t',es'.toList.Perm es.toList->t'.led=t.led->t'.plain=t.plain->SetIs (s.heap.update a (Obj.putSet es' t')) a es' t'->Q Yt { s with heap:=s.heap.update a (Obj.putSet es' t') }):
 YJ prog w A (setRelay a (SetTable.grown es.size)) Q E s:=by
 have F:SetTable.grown es.size=es.size*4:=by unfold SetTable.grown;rw[Ze ()]
 have G:=Sc (es.size*4);obtain⟨_,H⟩:=He (n:=es.size*4) ();have I:=Sl (es.size*4);obtain⟨t',c,e,J,K,Y,r,l,L,u,M⟩:=Se (t:=t) (hs:=es.map (·.1)) (wanted:=es.size*4) (by rw[Uj];lia) ();rw[Uj] at r l u;rw[F];unfold setRelay;refine Za (wpAny_setState_of m rfl T.fits ?_);dsimp only;rw[Ze (by rw[sizeLine_eq];lia)];rw[e];have v:=So (es:=es) (0,Value.none) l;have g:(c.filterMap (es[·]?)).size=es.size:=by rw[v,Uj];exact r
 have o:(c.filterMap (es[·]?)).toList.Perm es.toList:=by
  rw[Array.toList_filterMap];exact((Sn l L u).filterMap _).trans (by rw[filterMap_getElem?_range])
 have x:(c.filterMap (es[·]?)).map (·.1)=c.map λi=>(es.map (·.1)).getD i 0:=by
  rw[v,Array.map_map];apply Array.map_congr_left;intro i f;obtain⟨k,y,N⟩:=Array.getElem_of_mem f;have:=l k y;rw[Kw y,N] at this;show(es.getD i (0,Value.none)).1=_;rw[Kw this,Hg this]
 have z:TabOk t' ((c.filterMap (es[·]?)).map (·.1)):=by rw[x];exact M
 have B:∀i (f:i<(c.filterMap (es[·]?)).size),∃b,(c.filterMap (es[·]?))[i].2=.ref b:=λi f=>by
  have O:(c.filterMap (es[·]?))[i]∈es.toList:=o.mem_iff.mp (by rw[VO];exact VP f);obtain⟨j,P,R⟩:=Uz O;have p:j<es.size:=by simpa using P
  obtain⟨b,S⟩:=C j p;refine⟨b,?_⟩;rw[<- R];simpa using S
 have q:¬((c.filterMap (es[·]?)).size != es.size)=true:=by rw[g];simp
 refine Za (wpAny_of_eq (a:=(c.filterMap (es[·]?),t')) ?_ ?_)
 .show(if((c.filterMap (es[·]?)).size != es.size)=true then _ else _)=_;rw[Ze q]
 .dsimp only;generalize c.filterMap (es[·]?)=es' at g o z B x;exact wpAny_storeSet_of m rfl (h es' t' o J K ⟨⟨ep+1,Hk m⟩,z,(),(),(),B⟩) (by rw[sizeLine_eq];lia)
def Ss {es es':Array (Int×Value)}(e:∀i (a:i<es.size),∃b,es[i].2=.ref b){x:Value}{h:Int}{b:Addr}(f:x=.ref b)(g:es'.toList.Perm (es.toList++[(h,x)])):∀i (a:i<es'.size),∃b,es'[i].2=.ref b:=λi a=>by
 rcases Jb.mp (g.mem_iff.mp (by rw[VO];exact VP a)) with z|z
 .obtain⟨j,l,m⟩:=Uz z;have c:j<es.size:=by simpa using l
  obtain⟨b,n⟩:=e j c;refine⟨b,?_⟩;rw[<- m];simpa using n
 .rw[Jc.mp z];exact⟨b,f⟩
def Su {a:Addr}{es:Array (Int×Value)}{t:YD}{x:Value}{b:Addr}{h:Int}{same:Value->Bool}{Q:Bool->YC}
 (S:SetIs s.heap a es t) (O:x=.ref b) (hl:es.size+1<=1000)
 (T:∀i (C:i<es.size),es[i].1=h->∀Q:Bool->YC,Q (same es[i].2) s->YJ prog w A (eqBool es[i].2 x) Q E s)
 (H:t.led=true\/∀Q:Bool->YC,Q false s->YJ prog w A (searchCouldBeSeen x ((es.filter (·.1 == h)).toList.map (·.2))) Q E s)
 (U:∀Q:Bool->YC,Q true s->YJ prog w A (hashByValue 8 x) Q E s)
 (I:∀i (C:i<es.size),es[i].1=h->same es[i].2=true->Q false s)
 (l:(∀i (C:i<es.size),es[i].1=h->same es[i].2=false)->∀h' es' t',Heap.SameBut a s.heap h'->SetIs h' a es' t'->es'.toList.Perm (es.toList++[(h,x)])->t'.led=t.led->t'.plain=t.plain->Q true { s with heap:=h' }):
 YJ prog w A (setAddHashed a x h) Q E s:=by
 obtain⟨ep,o⟩:=S.at_;have J:t.mask<=9000:=by have:=S.most;lia
 unfold setAddHashed setAddHashedIn;refine wpAny_holding (Za (wpAny_setState_of o rfl S.tab.fits ?_));dsimp only;have X:byScan x es=false:=by subst O;rfl
 rw[X];simp only[UB,if_false];refine Za (Sk o rfl S.tab S.odd J T S.refs H (λi C Y Z=>Zb (I i C Y Z)) λq y hy hf hw=>?_);dsimp only;refine Za (wpAny_setState_of o rfl S.tab.fits ?_);dsimp only;have hsz:t.place.size=es.size:=by have:=S.tab.size;rwa [Uj] at this
 have K:=S.room;have F:=S.seven;obtain⟨m,f,r⟩:=RP S.tab hy hf hw ();rw[Uj] at f;have g:(t.put y).1.led=t.led:=rfl;have j:(t.put y).1.plain=t.plain:=rfl;generalize P:t.put y=tp at m f r g j;obtain⟨e,p⟩:=tp;dsimp only at m f r g j ⊢;have em:(SetTable.insertAt es p (h,x)).map (·.1)=SetTable.insertAt (es.map (·.1)) p h:=Sq _ _ _ _;rw[<- em] at m;have G:(SetTable.insertAt es p (h,x)).toList.Perm (es.toList++[(h,x)]):=by
  have:=SetTable.insertAt_perm es p (h,x)
  rwa [Array.toList_push] at this
 have u:(SetTable.insertAt es p (h,x)).size=es.size+1:=Dn es f _;have n:=Ss S.refs O G;generalize SetTable.insertAt es p (h,x)=es1 at m G u n;have R:YJ prog w A (do
  storeSet a es1 e
  if !false&&e.tooFull then setRelay a (SetTable.grown (es.size+1))
  return true) Q E s:=by
  refine Za (wpAny_storeSet_of o rfl ?_ (by rw[sizeLine_eq];lia));have v:=Hk (es':=es1) (t':=e) o;have B:=Heap.SameBut.update s.heap a (Obj.putSet es1 e);by_cases c:e.tooFull=true
  .rw[Zd (by rw[c];rfl)];rw[<- u];refine Za (Sr v m () () n λL t2 M l2 p2 S2=>(Zb (l q _ L t2 (B.trans (Heap.SameBut.update _ a _)) S2 (M.trans G) (l2.trans g) (p2.trans j))))
  .rw[Ze (by simpa using c)];have N:¬(e.fill*5 ≥ e.mask*3):=by
    intro z;exact c (Zp z)
   have hfl:e.fill=es1.size:=by
    unfold SetTable.fill;have:=m.size;rw[Uj] at this;rw[this,m.nod];rfl
   have S1:SetIs (s.heap.update a (Obj.putSet es1 e)) a es1 e:=⟨⟨ep+1,v⟩,m,(),by have:=S.most;lia,(),n⟩;exact Zb (l q _ es1 e B S1 G g j)
 grind[wpAny_bind,wpAny_pure]
open PySem
variable {prog:Program}{w:World}{A:Around}{E:Ya}{s:Shared}
inductive HashAll (prog:Program)(w:World)(A:Around)(E:Ya)(s:Shared):Yf->List Int->Prop
 |nil:HashAll prog w A E s [] []
 |cons {v:Value} {vs:Yf} {h:Int} {hs:Yh}:(∀(tk:Nat) (Q:Int->YC),(∀tk',tk<=tk'->Q h { s with toks:=tk' })->YJ prog w A (pyHash v) Q E { s with toks:=tk })->HashAll prog w A E s vs hs->HashAll prog w A E s (v::vs) (h::hs)
def Dt (hs:Yh):Int:=reduceHash (Builtin.Tuple.tupleHashOf hs)
def Hl (g:s.heap.get? a=some o)(i:o.cls=.type "tuple")(j:o.data=.seq items n)(l:A.units<cLine)
 (H:HashAll prog w A.in1 E s items.toList hs) (h:∀tk,tk0<=tk->Q (Dt hs) { s with toks:=tk }):YJ prog w A (pyHash (.ref a)) Q E { s with toks:=tk0 }:=by
 have m:Shared.TypeIs { s with toks:=tk0 } (.ref a) "tuple" := ⟨o,g,i⟩;refine W.pyHash_slot m F.slot_tuple_hash F.entry_tuple_hash (F.args_tuple_hash_1 _) (beq_builtin_none _) (.inr l) ?_;show wpAny _ _ (Builtin.Tuple.tupleItemsOf (.ref a) >>= _) _ _ _;refine Za (wpAny_tupleItemsOf g j (Za ?_));rw[<- Vp];refine wpAny_forIn_list _ (λrest (b:Array Int) s'=>∃left tk,HashAll prog w A.in1 E s rest left/\b.toList++left=hs/\s'={ s with toks:=tk }/\tk0<=tk) _ ?_ ?_ _ _ ⟨hs,tk0,H,rfl,rfl,Zf _⟩
 .rintro x rest b s' ⟨left,tk,e,f,rfl,c⟩;cases e with
  |cons q p =>
   grind[wpAny_bind,wpAny_pure,Nat.le_trans]
 .rintro b s' ⟨left,tk,e,f,rfl,c⟩;cases e;rw[ZA] at f;show wpAny _ _ (retInt (Builtin.Tuple.tupleHashOf b.toList)) _ _ _;rw[f];exact Za (wpAny_mkInt (Zb ⟨_,_,rfl,h _ (Vn c)⟩))
theorem Hm:∀{a:Yf} {ns:Yh},PyProof.Rows.IntsAre a ns->HashAll prog w A E s a (ns.map hashInt)
 |_,_,.nil=>.nil
 |_,_,.cons n t r=>.cons (λtk Q h=>wpAny_pyHash_int (h _ (Nat.le_succ tk))) (Hm r)
inductive PlainV (hp:Heap):Nat->Value->Prop
 |int (n:Nat) (i:Int) (t:Tok):PlainV hp n (.int i t)
 |tup {n:Nat} {a:Addr} {o:Obj} {items:Yn} {k:Nat}:hp.get? a=some o->o.cls=.type "tuple" -> o.data=.seq items k->(∀v∈items.toList,PlainV hp n v)->PlainV hp (n+1) (.ref a)
def Sv (p:PlainV s.heap n v):∀d Q,n<=d->Q true s->YJ prog w A (hashByValue d v) Q E s:=by
 induction p with
 |int n i t =>
  intro d Q _ h;cases d<;>exact Zb h
 |tup a b c _ g =>
  intro d Q j h;cases d with
  |zero=>lia
  |succ d =>
   have e:Shared.TypeIs s (.ref _) "tuple" := ⟨_,a,b⟩;refine Za (wpAny_specialOf e F.slot_tuple_hash.lookup (Za (wpAny_seqItems a c (Za ?_))));rw[Option.getD_some,<- Vp];refine wpAny_forIn_list _ (λrest r s'=>r.1=none/\s'=s/\∀v∈rest,v∈_) _ ?_ ?_ _ _ ⟨rfl,rfl,λv f=>f⟩
   .grind[wpAny_bind,wpAny_pure]
   grind[wpAny_pure]
def Hn (p:PlainV s.heap n v):∀d Q,n<=d->Q true s->YJ prog w A (eqIsQuiet d v) Q E s:=by
 induction p with
 |int n i t =>
  intro d Q _ h;exact wpAny_of_eq (eqIsQuiet_byValue d rfl) h
 |tup a c e _ g =>
  intro d Q j h;cases d with
  |zero=>lia
  |succ d =>
   have b:Shared.TypeIs s (.ref _) "tuple" := ⟨_,a,c⟩;unfold eqIsQuiet;refine Za (wpAny_specialOf b F.slot_tuple_eq.lookup (Za (wpAny_isInstance b isSubtype_tuple_tuple (Za (wpAny_seqItems a e (Za ?_))))));rw[Option.getD_some,<- Vp];refine wpAny_forIn_list _ (λrest r s'=>r.1=none/\s'=s/\∀v∈rest,v∈_) _ ?_ ?_ _ _ ⟨rfl,rfl,λv f=>f⟩
   .grind[wpAny_bind,wpAny_pure]
   grind[wpAny_pure]
def Ho (p:PlainV s.heap n v):∀d Q,n<=d->Q false s->YJ prog w A (ofAClassStatement d v) Q E s:=by
 induction p with
 |int n i t =>
  intro d Q _ h;cases d<;>exact Zb h
 |tup a b c _ g =>
  intro d Q j h;cases d with
  |zero=>lia
  |succ d =>
   have e:Shared.TypeIs s (.ref _) "tuple" := ⟨_,a,b⟩;unfold ofAClassStatement;refine Za (wpAny_typeOf e ?_);simp;refine Za (wpAny_seqItems a c (Za ?_));rw[<- Vp];refine wpAny_forIn_list _ (λrest r s'=>r.1=none/\s'=s/\∀v∈rest,v∈_) _ ?_ ?_ _ _ ⟨rfl,rfl,λv f=>f⟩
   .grind[wpAny_bind,wpAny_pure]
   grind[wpAny_pure]
def Sw (a:n<=8)(b:PlainV s.heap n x)(e:∀y∈ys,PlainV s.heap n y)(h:Q false s):YJ prog w A (searchCouldBeSeen x ys) Q E s:=by
 refine Za (wpAny_forIn_list _ (λrest r s'=>r.1=none/\s'=s/\∀v∈rest,v∈ys) _ ?_ ?_ _ _ ())
 .rintro y rest r s' ⟨g,rfl,f⟩;have c:=e y (f y Zqs);have nx:∀v∈rest,v∈ys:=by grind
  dsimp only
  split
  all_goals
   split
   .exact Zb ⟨rfl,rfl,nx⟩
   .exact Za (Hn b 8 _ a (Za (Hn c 8 _ a (Za (Ho b 8 _ a (Za (Ho c 8 _ a (Zb ⟨rfl,rfl,nx⟩))))))))
 grind[wpAny_pure]
structure KeyFam (prog:Program)(w:World)(hp:Heap)(PV:Value->Prop)(hsh:Value->Int)(same:Value->Value->Bool):Prop where
 ref:∀v,PV v->∃b,v=.ref b
 plain:∀v,PV v->PlainV hp 8 v
 hash:∀v,PV v->∀(A:Around) (E:Ya) (s:Shared) (Q:Int->YC),(∀b o,hp.get? b=some o->s.heap.get? b=some o)->A.units+8<cLine->(∀tk,s.toks<=tk->Q (hsh v) { s with toks:=tk })->YJ prog w A (pyHash v) Q E s
 eq:∀v u,PV v->PV u->∀(A:Around) (E:Ya) (s:Shared) (Q:Bool->YC),(∀b o,hp.get? b=some o->s.heap.get? b=some o)->A.units+8<cLine->Q (same v u) s->YJ prog w A (eqBool v u) Q E s
 coh:∀v u,PV v->PV u->same v u=true->hsh v=hsh u
def PlainV.keep (k:∀b o,hp.get? b=some o->hp'.get? b=some o)(p:PlainV hp n v):PlainV hp' n v:=by
 induction p with
 |int n i t=>exact .int n i t
 |tup a c e _ f=>exact .tup (k _ _ a) c e f
def W5 (same:Value->Value->Bool)(D:Yf)(v:Value):Yf:=if D.any (same · v) then D else D++[v]
def xX (same:Value->Value->Bool)(val:Nat->Value)(i:Nat):Yf:=((List.range i).map val).foldl (W5 same) []
theorem Bi (same)(val)(i):xX same val (i+1)=W5 same (xX same val i) (val i):=by
 grind[xX,List.range_succ,List.map_append,List.foldl_append]
theorem Hq (same)(val):∀i,(xX same val i).length<=i
 | 0=>Zf _
 |i+1=>by
  have:=Hq same val i
  grind[W5,Bi,List.length_append,List.length_singleton]
theorem Du (same)(val):∀i v,v∈xX same val i->∃j,j<i/\v=val j
 | 0,v,h=>by cases h
 |i+1,v,h=>by
  rw[Bi] at h;unfold W5 at h
  split at h
  .have ⟨j,a,e⟩:=Du same val i v h;exact⟨j,(),e⟩
  .rcases Jb.mp h with z|z
   .have ⟨j,a,e⟩:=Du same val i v z;exact⟨j,(),e⟩
   grind
def Holds (a:Value->Int)(hp:Heap)(S:Addr)(ld:Bool)(D:Yf):Prop:=∃es t,SetIs hp S es t/\es.toList.Perm (D.map λv=>(a v,v))/\t.led=ld/\t.plain=true
section
variable {prog:Program}{w:World}{A:Around}{E:Ya}{s:Shared}
def Sx {hp:Heap}{u:Value->Prop}{a:Value->Int}{same:Value->Value->Bool}(K:KeyFam prog w hp u a same){S:Addr}{ld:Bool}{D:Yf}{x:Value}{Q:Bool->YC}
 (B:∀b o,hp.get? b=some o->s.heap.get? b=some o) (P:A.units+8<cLine) (H:Holds a s.heap S ld D) (C:∀v∈D,u v) (q:u x) (hl:D.length<=999)
 (h:∀h' b,Heap.SameBut S s.heap h'->Holds a h' S ld (W5 same D x)->Q b { s with heap:=h' }):YJ prog w A (setAddHashed S x (a x)) Q E s:=by
 obtain⟨es,t,J,j,l,m⟩:=H;obtain⟨b,R⟩:=K.ref x q;have L:es.size=D.length:=by
  have:=j.length_eq
  simp_all
 have f:∀i (c:i<es.size),es[i].2∈D/\es[i].1=a es[i].2:=λi c=>by
  have F:=j.mem_iff.mp (by rw[VO];exact VP c);obtain⟨v,g,e⟩:=Ja.mp F;rw[<- e];exact⟨g,rfl⟩
 have n:∀v∈D,∃i,∃c:i<es.size,es[i]=(a v,v):=λv g=>by
  have F:=j.mem_iff.mpr (Ja.mpr ⟨v,g,rfl⟩);obtain⟨i,c,e⟩:=Uz F;exact⟨i,by simpa using c,by simpa using e⟩
 have M:=(K.plain x q).keep B;refine Su (same:=λy=>same y x) J R () (λi c _ r p=>K.eq _ _ (C _ (f i c).1) q A E s r B P p) (.inr λr p=>?_) (λr p=>Sv M 8 r (Zf _) p) (λi c h1 T=>?_) λG h' es' t' U X I Y Z=>?_
 .refine Sw (Zf 8) M (λy hy=>?_) p;obtain⟨e,N,rfl⟩:=Ja.mp hy;have N:e∈es:=by
   simp_all
  obtain⟨i,c,rfl⟩:=Array.getElem_of_mem N;exact(K.plain _ (C _ (f i c).1)).keep B
 .have e:W5 same D x=D:=Zd (Vo.mpr ⟨_,(f i c).1,T⟩);have:=h s.heap false (Heap.SameBut.refl S s.heap) ⟨es,t,J,by rw[e];exact j,l,m⟩;exact this
 .have e:W5 same D x=D++[x]:=Ze λz=>by
   obtain⟨v,g,hs⟩:=Vo.mp z;obtain⟨i,c,O⟩:=n v g;have:=G i c (by rw[O];exact K.coh v x (C v g) q hs);rw[O] at this;rw[hs] at this;cases this
  refine h h' true U ⟨es',t',X,?_,Y.trans l,Z.trans m⟩;rw[e,Uc];exact I.trans (j.append_right _)
end
section
variable {prog:Program}{w:World}{A:Around}{R:Result->YC}{I:Addr}{fp wr:Yl}{G:Array GenState->Array GenState->Prop}{n:Nat}{P:Nat->Value->Prop}{St:Nat->YC}
def Holds.keep {b:Value->Int}{hp hp':Heap}{S:Addr}{ld:Bool}{D:Yf}(H:Holds b hp S ld D)(k:∀o,hp.get? S=some o->hp'.get? S=some o):Holds b hp' S ld D:=by
 obtain⟨es,t,a,r⟩:=H;obtain⟨ep,c⟩:=a.at_;exact⟨es,t,⟨⟨ep,k _ c⟩,a.tab,a.seven,a.most,a.room,a.refs⟩,r⟩
def Sy (W:WalksS prog w A.in1 I fp wr G n P St)(S)(B:S∉fp)(p:∀b o,hp.get? b=some o->b∉wr/\b≠S)
 {C:Value->Prop} {f:Value->Int} {same:Value->Value->Bool} (K:KeyFam prog w hp C f same) (val) (q:∀i v,P i v->v=val i) (J:∀i,i<n->C (val i)) (hn:n<=999) (Q:A.in1.units+8<cLine) (ld):
 ∀k i s,n-i=k->i<=n->St i s->(∀b o,hp.get? b=some o->s.heap.get? b=some o)->Holds f s.heap S ld (xX same val i) ->
  (∀s',Moved (S::wr) G s s'->Holds f s'.heap S ld (xX same val n)->R (.ok (.ret .none)) s') ->
  codeAny (model prog w) A (.builtin "set.update.loop" ⟨[.ref S,.ref I],[]⟩) R s:=by
 have r:S∉wr:=λh=>B (W.sub _ h);have c:∀b∈wr,b∈S::wr:=by grind
 intro k
 induction k with
 |zero =>
  intro i s T Z g t H L;have M:i=n:=()
  subst M;refine codeAny_builtin F.entry_set_update_loop ?_;rw[Around.under_plainId F.plain_set_update_loop _];show wpAny _ A.in1 (pyNext (.ref I) >>= _) _ _ s;refine Za (W.done s _ _ g λs' m=>?_);show wpAny _ A.in1 (ret Value.none) _ _ s';exact Zb (L s' (m.mono c) (H.keep λo e=>m.heap S _ r e))
 |succ k ih =>
  intro i s T Z g t H L;have j:i<n:=()
  refine codeAny_builtin F.entry_set_update_loop ?_;rw[Around.under_plainId F.plain_set_update_loop _];show wpAny _ A.in1 (pyNext (.ref I) >>= _) _ _ s;refine Za (W.item i s _ _ j g λv s' hP x m=>?_);have U:=q i v hP;have H':=H.keep (hp':=s'.heap) λo e=>m.heap S _ r e;have a:∀b o,hp.get? b=some o->s'.heap.get? b=some o:=λb o e=>m.heap b o (p b o e).1 (t b o e);have X:C v:=by rw[U];exact J i j
  show wpAny _ A.in1 (holding [v] (setAdd S v) >>= _) _ _ s';refine Za (wpAny_holding ?_);unfold setAdd;refine wpAny_holding ?_;refine Za (K.hash v X _ _ _ _ a Q λtk y=>?_);have hl:=Hq same val i;refine Sx K a Q H' (λu hu'=>?_) X () λh' b l Y=>?_
  .grind[Du]
  .rw[U,<- Bi] at Y;refine Zb ⟨plainId_quiet F.plain_set_update_loop _,ih (i+1) _ (by rw[Nat.sub_succ,T];rfl) j (W.frame _ s' _ _ x ?_ λb hb o e=>?_) (λb o e=>?_) Y λN z O=>?_⟩
   .exact y
   .rw[l.2 b ()];exact e
   .rw[l.2 b (p b o e).2];exact a b o e
   .refine L N (Moved.trans W.gtrans ((m.mono c).then_heap ?_ λb o hb e=>?_) z) O
    .exact y
    .rw[l.2 b ()];exact e
end
def Sz (led:Bool):TabOk (SetTable.fresh 0 0 led) ((#[]:Array (Int×Value)).map (·.1)):=by
 refine⟨by rw[Uj];rfl,λi j _ h=>Zn h (US _),λi h=>Zn h (US _),rfl,⟨3,rfl⟩,Ua _,λi h=>Zn h (US _)⟩
def S0 (a:hp.get? S=some { cls:=.type "set",dict:=none,data:=.set #[] 0 (.fresh 0 0 led) }):Holds hsh hp S led []:=
 ⟨#[],.fresh 0 0 led,⟨⟨0,a⟩,Sz led,Zf _,Zf _,(show 0*5<7*3 by decide),λi h=>Zn h (US _)⟩,Vy _,rfl,rfl⟩
section
variable {prog:Program}{w:World}{A:Around}{E:Ya}{s:Shared}
def yL (w:World):Bool:=!w.params.followText "set-order"
def S3 (a:Value)
 (h:Q₁ (.ref s.heap.objs.size) { s with heap:=s.heap.push { cls:=.type "set",dict:=none,data:=.set #[] 0 (.fresh 0 0 (yL w)) } }):
 codeAny (model prog w) A (.call (.builtin "set.__new__") ⟨[.type "set",a],[]⟩) (wants Q₁ E) s:=by
 refine codeAny_of_tree ?_;show wpAny _ A.in1 (do checkBuiltinCall "set.__new__" ⟨[.type "set",a],[]⟩;again (.builtin "set.__new__" ⟨[.type "set",a],[]⟩)) _ _ s;refine Za (wpAny_of_eq (F.newCall_set_1 a) (Zb ⟨plainId_quiet F.plain_set_new _,codeAny_builtin F.entry_set_new ?_⟩));rw[Around.under_plainId F.plain_set_new _];unfold Builtin.«set.__new__» Builtin.Frozenset.newClass;have b:=sub_set_self;obtain⟨hp,g,d,tk,os⟩:=s;dsimp only
 wp_walk
 refine wpAny_askSetting (Zb ?_);dsimp only;simp only[newObj];refine Za (wpAny_alloc (Zb ?_));exact Zb h
set_option maxRecDepth 100000 in
set_option maxHeartbeats 3200000 in
def S4 {l:Addr}{a:Yn}{Y:Value->Prop}{m:Value->Int}{same:Value->Value->Bool}{Q:Ya}(hh:A.handled=none)(hl:s.heap.IsList l a)(K:KeyFam prog w s.heap Y m same)
 (I:∀(i:Nat) (v:Value),a[i]? = some v->Y v) (hn:a.size<=999) (hu:A.in1.in1.in1.units+8<cLine)
 (h:∀(h':Heap) (tk:Nat),Holds m h' s.heap.objs.size (yL w) (xX same (λi=>a.getD i .none) a.size)->(∀b o,b<s.heap.objs.size->s.heap.get? b=some o->h'.get? b=some o)->Q (.ref s.heap.objs.size) { s with heap:=h',toks:=tk }):
 YJ prog w A (call (.type "set") [.ref l]) Q E s:=by
 have Z:=λA:Around=>S3 (prog:=prog) (w:=w) (A:=A) (E:=E) (s:=s) (.ref l) (Q₁:=λq s₁=>q=.ref s.heap.objs.size/\s₁={ s with heap:=s.heap.push { cls:=.type "set",dict:=none,data:=.set #[] 0 (.fresh 0 0 (yL w)) } }) ⟨rfl,rfl⟩;generalize yL w=led at h Z;obtain⟨c,tl,hmro⟩:=F.called_set.mro;have J:=F.called_set.made;have hsub:=F.called_set.sub;refine wpAny_call (codeAny_of_tree ?_);show wpAny _ _ (callAny (.type "set") _) _ _ _;refine Zb ⟨Code.quiet_builtin _ (by decide +kernel),codeAny_builtin F.entry_type_call ?_⟩;rw[Around.under_plain (weight_type_call_type "set" [.ref l] []) rfl];have h1:=F.called_set.notType;have h2:=F.called_set.canCreate;have hct:=F.typeCall_set_1 (.ref l)
 repeat (any_goals (first|assumption|wp_step))
 refine codeAny_mono (Z _) λr s₁ n=>?_;cases r with
 |error e=>exact n
 |ok L =>
  cases L with
  |ret q =>
   obtain⟨rfl,rfl⟩:=n;generalize f:({ cls:=.type "set",dict:=none,data:=.set #[] 0 (.fresh 0 0 led) }:Obj)=no at *;have hS:(s.heap.push no).get? s.heap.objs.size=some no:=Zr _ (by rw[<- f];rfl);have hT:Shared.TypeIs { s with heap:=s.heap.push no } (.ref s.heap.objs.size) "set" := ⟨_,hS,by rw[<- f]⟩;have hli:=F.called_set.init.lookup;have hbi:=F.called_set.init.bind (.ref s.heap.objs.size)
   repeat (any_goals (first|assumption|wp_step))
   refine codeAny_mono (codeAny_call_builtin (R:=wants (λr s₂=>r=.none/\∃h' tk,s₂={ s with heap:=h',toks:=tk }/\Holds m h' s.heap.objs.size led (xX same (λi=>a.getD i .none) a.size) /\
    (∀b o,b<s.heap.objs.size->s.heap.get? b=some o->h'.get? b=some o)) E) F.called_set.init.plain F.entry_set_init (check_set_init_1 hT ?_)) λr₂ s₂ hr₂=>?_
   .obtain⟨ol,t,u,nl,x⟩:=hl;obtain⟨ocls,p,M,g⟩:=ol;simp only at u x;subst u;subst x;have y:(s.heap.push no).get? l=some { cls:=.type "list",dict:=p,data:=.seq a nl,slots:=g }:=Zq _ t;have hsls:=F.sub_list_set;have hslf:=F.sub_list_frozenset;have hne:(Value.type "list" == Value.type "dict")=false:=by decide
    have z:(s.heap.push no).IsList l a:=⟨_,y,rfl,nl,rfl⟩;subst f;unfold Builtin.«set.__init__» noKeywords Builtin.Frozenset.updateFrom;generalize N:pyIter=PI
    wp_walk
    subst N;refine wpAny_pyIter_list z ?_;refine Za (wpAny_runValue ?_);have B:l<s.heap.objs.size:=Zk t;have O:A.in1.in1.in1.handled=none:=by simp[hh]
    generalize f:({ cls:=.type "set",dict:=none,data:=.set #[] 0 (.fresh 0 0 led) }:Obj)=no at *;have j:(s.heap.push no).objs.size=s.heap.objs.size+1:=Heap.size_push ..;have C:l≠(s.heap.push no).objs.size:=by rw[j];exact Zi (UF B)
    have P:s.heap.objs.size ∉ [(s.heap.push no).objs.size,l]:=by
     simp only[UI,UT,or_false,not_or];exact⟨by rw[j];exact Zi (UK _),UJ B⟩
    have hw:∀(i:Nat) (v:Value),a[i]? = some v->v=(λi=>a.getD i .none) i:=λi v hv=>by
     show v=a.getD i .none;rw[VX,hv];rfl
    refine Sy ((Walks.list O _ l C a).toS) s.heap.objs.size P (hp:=s.heap) (λb o e=>?_) K (λi=>a.getD i .none) hw (λi hi=>?_) hn (by exact hu) led (a.size-0) 0 _ () (Ua _)
     ⟨⟨_,Zr _ rfl,rfl,rfl⟩,(z.push _)⟩ (λb o e=>Zq _ (Zq _ e)) (S0 (by rw[f];exact Zq _ hS)) λs' H H'=>?_
    .have G:=Zk e;refine⟨?_,Zi G⟩;simp only[UI,UT,or_false];rw[j];exact Zi (UF G)
    .exact I i _ (by show a[i]? = some (a.getD i .none);rw[Kw hi,Us hi])
    .obtain⟨h',g',d',S,T⟩:=s';have eg:g'=s.gens:=H.gens;have ed:d'=s.drawn:=H.drawn;have eo:T=s.os:=H.os;subst eg;subst ed;subst eo;show wpAny _ _ _ _ _ _;refine Zb ?_;show wpAny _ _ (ret Value.none) _ _ _;refine Zb ⟨rfl,h',S,rfl,H',λb o G e=>?_⟩;exact H.heap b o (by simp only[UI,UT,or_false,not_or];exact⟨Zi G,by rw[j];exact Zi (UF G)⟩) (Zq _ (Zq _ e))
   .cases r₂ with
    |error e=>exact hr₂
    |ok fl₂ =>
     cases fl₂ with
     |ret r =>
      obtain⟨rfl,h',tk,rfl,U,X⟩:=hr₂
      repeat (any_goals (first|assumption|wp_step))
      exact h _ _ U X
     |_=>exact hr₂.elim
  |_=>exact n.elim
end
def KH (p:Int×Int):PyData:=.tuple [.int p.1,.int p.2]
def yJ (r:Jy):PyData:=.tuple (r.map KH)
def Hr (p:Int×Int):Int:=Dt ([p.1,p.2].map hashInt)
def Hs (r:Jy):Int:=Dt (r.map Hr)
def wb (hp:Heap)(v:Value)(p:Int×Int):Prop:=∃a o b n t u,v=.ref a/\hp.get? a=some o/\o.cls=.type "tuple" /\ o.data=.seq b n/\b.toList=[.int p.1 t,.int p.2 u]
inductive IsPairs (hp:Heap):Yf->Jy->Prop
 |nil:IsPairs hp [] []
 |cons {v vs p r}:wb hp v p->IsPairs hp vs r->IsPairs hp (v::vs) (p::r)
def yG (hp:Heap)(v:Value)(r:Jy):Prop:=∃a o b n,v=.ref a/\hp.get? a=some o/\o.cls=.type "tuple" /\ o.data=.seq b n/\IsPairs hp b.toList r
def S5 (h:wb hp v p):Reads hp v (KH p) []:=by
 obtain⟨a,o,g,n,t,u,rfl,b,c,e,f⟩:=h;refine .tuple b c e ?_;rw[f];exact .cons (.int _ _) (.cons (.int _ _) .nil)
def S6:∀{a:Yf} {r:Jy},IsPairs hp a r->ReadsAll hp a (r.map KH) []:=λh=>by
 induction h with
 |nil=>exact .nil
 |cons b _ c=>exact .cons (S5 b) c
def Ht (h:yG hp v r):Reads hp v (yJ r) []:=by
 obtain⟨a,o,g,n,rfl,b,c,e,f⟩:=h;exact .tuple b c e (S6 f)
def wb.keep (k:∀b o,hp.get? b=some o->hp'.get? b=some o)(h:wb hp v p):wb hp' v p:=by
 obtain⟨a,o,c,n,t,u,e,f,r⟩:=h;exact⟨a,o,c,n,t,u,e,k _ _ f,r⟩
theorem IsPairs.keep (k:∀b o,hp.get? b=some o->hp'.get? b=some o)(h:IsPairs hp vs r):IsPairs hp' vs r:=by
 induction h with
 |nil=>exact .nil
 |cons a _ c=>exact .cons (a.keep k) c
theorem yG.keep (k:∀b o,hp.get? b=some o->hp'.get? b=some o)(h:yG hp v r):yG hp' v r:=by
 obtain⟨a,o,c,n,e,f,g,i,j⟩:=h;exact⟨a,o,c,n,e,k _ _ f,g,i,j.keep k⟩
theorem S7 (h:wb hp v p)(n):PlainV hp (n+1) v:=by
 obtain⟨a,o,j,k,t,u,rfl,c,f,g,i⟩:=h;refine .tup c f g λx b=>?_;rw[i] at b;rcases UI.mp b with e|e
 .rw[e];exact .int _ _ _
 .rw[Jc.mp e];exact .int _ _ _
def S8 (h:yG hp v r)(n):PlainV hp (n+2) v:=by
 obtain⟨a,o,c,k,rfl,e,f,g,b⟩:=h;refine .tup e f g ?_;generalize c.toList=l at b
 induction b with
 |nil=>simp
 |cons i _ j =>
  grind[S7]
section
variable {prog:Program}{w:World}{A:Around}{E:Ya}{s:Shared}
def S9 (c:A.units<cLine):∀{b:Yf} {r:Jy},IsPairs s.heap b r->HashAll prog w A E s b (r.map Hr):=λh=>by
 induction h with
 |nil=>exact .nil
 |cons e _ f =>
  refine .cons (λtk Q h=>?_) f;obtain⟨a,o,b,n,t,u,rfl,g,i,j,l⟩:=e;refine Hl g i j c ?_ h;rw[l];exact Hm (.cons _ _ (.cons _ _ .nil))
def SA (c:yG s.heap v r)(e:A.units<cLine)(b:A.in1.units<cLine)(h:∀tk,s.toks<=tk->Q (Hs r) { s with toks:=tk }):YJ prog w A (pyHash v) Q E s:=by
 obtain⟨a,o,l,n,rfl,f,g,i,j⟩:=c;exact Hl f g i e (S9 b j) h
end
def SC (p q):PyData.eqv (KH p) (KH q)=decide (p=q):=by
 grind[KH,PyData.eqv,PyData.eqvAll]
theorem Hu:∀r q:Jy,PyData.eqvAll (r.map KH) (q.map KH)=decide (r=q)
 | [],[]=>by rfl
 | [],_::_=>by rfl
 |_::_,[]=>by rfl
 |p::r,q::s=>by
  rw[Zl,Zl];unfold PyData.eqvAll;rw[SC,Hu r s,Vi];simp
def SE (r q):PyData.eqv (yJ r) (yJ q)=decide (r=q):=Hu r q
theorem Hv:∀r:Jy,PyData.canLayAll0 (r.map KH)=true
 | []=>rfl
 |p::r=>by
  rw[Zl];unfold PyData.canLayAll0;rw[Hv r];rfl
def Hw (r):(yJ r).canLay0=true:=Hv r
theorem Hx:∀r:Jy,PyData.depthAll (r.map KH)<=1
 | []=>Ua _
 |p::r=>by
  rw[Zl];unfold PyData.depthAll;have a:(KH p).depth=1:=rfl;have b:=Hx r;rw[a];lia
def SF (r):(yJ r).depth<=2:=Vx (Hx r)
def wb.inj (h:wb hp v p)(h':wb hp v q):p=q:=by
 obtain⟨a,o,c,n,t,u,rfl,f,g,i,j⟩:=h;obtain⟨l,m,b,r,t',x,e,k1,k2,k3,y⟩:=h'
 grind
theorem IsPairs.inj:∀{a:Yf} {r q:Jy},IsPairs hp a r->IsPairs hp a q->r=q:=λ{a r q} g h=>by
 induction g generalizing q with
 |nil=>cases h;rfl
 |cons b _ c =>
  cases h with
  |cons k1 k2=>rw[b.inj k1,c k2]
theorem yG.inj (h:yG hp v r)(h':yG hp v q):r=q:=by
 obtain⟨a,o,j,n,rfl,b,l,c,f⟩:=h;obtain⟨m,p,g,t,e,k1,k2,k3,i⟩:=h';cases e;rw[b] at k1;obtain rfl:=Zqi k1;rw[c] at k3;cases k3;exact f.inj i
open Classical in
def yI (hp:Heap)(v:Value):Jy:=if h:∃r,yG hp v r then h.choose else[]
theorem Bj (h:yG hp v r):yI hp v=r:=by
 unfold yI;have e:∃r,yG hp v r:=⟨r,h⟩;rw[dif_pos e];exact e.choose_spec.inj h
def SG (prog)(w)(hp):KeyFam prog w hp (λv=>∃r,yG hp v r) (λv=>Hs (yI hp v)) (λv u=>decide (yI hp v=yI hp u)) where
 ref:=by
  rintro v ⟨r,a,o,b,n,e,_⟩;exact⟨a,e⟩
 plain:=by
  rintro v ⟨r,h⟩;exact S8 h 6
 hash:=by
  rintro v ⟨r,h⟩ A E s Q hk hu hq;rw[Bj h] at hq;exact SA (h.keep hk) () (show A.units+1<cLine from ()) hq
 eq:=by
  rintro v u ⟨r,h⟩ ⟨q,h'⟩ A E s Q hk hu hq;rw[Bj h,Bj h',<- SE] at hq;have c:=SF r;exact SeqAt.eqBoolOverData prog w A E s v u (yJ r) (yJ q) [] [] Q (Ht (h.keep hk)) (Ht (h'.keep hk)) (Hw r) (Hw q) () hq
 coh:=()
def v8:Slot "set_iterator" "__next__" "set_iterator.__next__" :=
 .of (owner:= "set_iterator") (n:= "__next__") (by kernel_rfl) (by rfl) (by rfl) (by rfl)
  (by first|exact .inl (by decide +kernel)|exact .inr (by decide +kernel)) (by kernel_rfl)
def Hy:entryFor table "set_iterator.__next__" = some Builtin.«set_iterator.__next__»:=entryFor_of_tree (by rfl)
def Hz:Manifest.owners.lookup (String.ofList ['r','o','t','a','r','e','t','i','_','t','e','s'].reverse)=some Manifest.sig_set_iterator:=by kernel_rfl
def HA (a):argsOk "set_iterator.__next__" ⟨[a],[]⟩:=by
 unfold argsOk;rw[signature?_of (n:=['_','_','t','x','e','n','_','_']) (by kernel_rfl) Hz];rfl
def SH:entryFor table "set.__iter__" = some Builtin.«frozenset.__iter__»:=entryFor_alias (id':= "frozenset.__iter__") (by kernel_rfl) rfl (by decide +kernel) (by kernel_rfl)
def HB:Slot "set_iterator" "__iter__" "set_iterator.__iter__" :=
 .of (owner:= "set_iterator") (n:= "__iter__") (by rw[typeLookup_type,builtinLookup_eq_fast];kernel_rfl) (by decide +kernel) (by rfl) (by rfl)
  (by first|exact .inl (by decide +kernel)|exact .inr (by decide +kernel)) (by rw[isSubtype_type];kernel_rfl)
def SI:entryFor table "set_iterator.__iter__" = some Builtin.«dict_keyiterator.__iter__» :=
 entryFor_alias (id':= "dict_keyiterator.__iter__") (by kernel_rfl) (by rfl) (by decide +kernel) (by kernel_rfl)
def SJ (a):argsOk "set_iterator.__iter__" ⟨[a],[]⟩:=by
 unfold argsOk;rw[signature?_of (n:=['_','_','r','e','t','i','_','_']) (by kernel_rfl) Hz];rfl
abbrev HC (h:Heap)(it S:Addr)(slot i n ep:Nat):Prop:=h.get? it=some { cls:=.type "set_iterator",dict:=none,data:=.fields #[.int slot 0,.int i 0,.ref S,.int n 0,.int ep 0],slots:=#[] }
abbrev WU (es:Array (Int×Value))(ep:Nat)(t:YD):Obj:={ cls:=.type "set",dict:=none,data:=.set es ep t,slots:=#[] }
def Kl (w:World)(S ep:Nat)(es:Array (Int×Value)):Array (Int×Value):=if w.params.followText "set-order" then pickOrder (w.params.setOrder S ep) es else es
theorem HD {α: Type}(next):∀fuel k (left:List α) a,left.length<=fuel->(pickOrder.go next fuel k left a).toList.Perm (a.toList++left)
 | 0,k,left,a,h=>by
  simp_all [pickOrder.go]
 |fuel+1,k,left,a,h=>by
  unfold pickOrder.go;cases q:left[next k % left.length]? with
  |none =>
   have b:left.length=0:=by
    grind[Nat.eq_zero_or_pos,Nat.mod_lt,Zqg]
   simp_all
  |some x =>
   have b:=List.length_eraseIdx_of_lt ((Je.mp q).1);refine(HD next fuel (k+1) _ _ ()).trans ?_;rw[Array.toList_push,Ug];refine List.Perm.append_left _ ?_;have c:left=left.take (next k % left.length)++x::left.drop (next k % left.length+1):=by
    grind[List.take_append_drop,List.drop_eq_getElem_cons]
   rw[List.eraseIdx_eq_take_drop_succ];exact Vw ((List.perm_middle (l₁:=left.take (next k % left.length))).symm) (List.Perm.of_eq c.symm)
theorem SK {α: Type}(next)(es:Array α):(pickOrder next es).toList.Perm es.toList:=by
 grind[pickOrder,HD]
def HE (w)(S ep)(es):(Kl w S ep es).toList.Perm es.toList:=by
 grind[Kl,SK,List.Perm.refl]
def Dv (w)(S ep)(es):(Kl w S ep es).size=es.size:=by
 have:=(HE w S ep es).length_eq;omega
def SL (u:zK xs)(hi):SetTable.below xs (xs[i]+1)=i+1:=by
 obtain⟨f,c,g⟩:=Bg u (xs[i]+1);have e:=Kw hi 0;rcases Vh (SetTable.below xs (xs[i]+1)) (i+1) with q|q|q
 .grind
 .exact q
 .have a:=c (i+1) q;have b:=u i (i+1) () ();lia
def SN (xs)(u:zK xs):SetTable.below xs 0=0:=by
 obtain⟨b,a,c⟩:=Bg u 0;rcases VC (SetTable.below xs 0) with q|q
 .exact q
 .have:=a 0 q;lia
section
variable {prog:Program}{w:World}{A:Around}{E:Ya}{s:Shared}
def SO (a:s.heap.get? S=some (WU es ep t))(c:t.fits es.size=true)(hp:t.plain=true)
 (g:Q (.ref s.heap.objs.size) { s with heap:=s.heap.push { cls:=.type "set_iterator",data:=.fields #[.int 0 0,.int 0 0,.ref S,.int es.size 0,.int ep 0] } }):YJ prog w A (pyIter (.ref S)) Q E s:=by
 have f:s.TypeIs (.ref S) "set" := ⟨_,a,rfl⟩;refine wpAny_pyIter_slot f F.slot_set_iter (wpAny_call_entry F.slot_set_iter f SH ?_ (F.args_set_iter_1 _));unfold Builtin.«frozenset.__iter__» Builtin.Frozenset.slot0 slotArgs;simp only[bind_assoc];refine Za (Zb (Za (Zb (Za (Za (wpAny_setEntries_of a rfl c (Zb ?_)))))));have h:wpAny (model prog w) A.in1 (setDrawn S) (λb s'=>b=false/\s'=s) E s:=by
  refine Za (wpAny_setState_of a rfl c (Za (Za (wpAny_askSetting (Zb (Zb ⟨?_,rfl⟩))))));obtain⟨mask,place,dummies,finger,led,moves,plain⟩:=t;cases hp;exact Bool.and_false _
 refine Za (Zc h (λb s' z=>?_) λ_ _ e=>e);obtain⟨rfl,rfl⟩:=z;refine Za (Zb (Za (Za (wpAny_setState_of a rfl c (Zb (Za (wpAny_newObj_type (Zb ⟨_,rfl, "set_iterator",_,⟨_,Zr _ rfl,rfl⟩,v8.lookup,g⟩) (by simp_all [sizeOk,sizeLine_eq]))))))))
def HF (f:s.heap.get? S=some (WU es ep t))(g:t.fits es.size=true)(hp:t.plain=true)(b:t.led=yL w)(l:zK t.place)(hz:t.place.size=es.size)
 (m:w.params.followText "set-order" = false->SetTable.below t.place slot=i)
 (c:∀a,(w.params.followText "set-order" = false->i<es.size->SetTable.below t.place a=i+1)->Q (((Kl w S ep es)[i]?).map λe=>(e.2,a)) s):YJ prog w A (setNext S slot i ep) Q E s:=by
 refine Za (wpAny_setState_of f rfl g ?_);refine Za (Za (wpAny_askSetting (Zb ?_)));cases q:w.params.followText "set-order" with
 |true =>
  have e:({ program:=(model prog w).prog,params:=(model prog w).w.params }:Setting).params.followText "set-order" = true:=q;rw[Zd e];rw[Ze ()];refine Za (Za (wpAny_setState_of f rfl g ?_));refine Za (Za (wpAny_askSetting (Zb ?_)));rw[Zd e];refine Za (wpAny_askSetting (Zb (Zb ?_)));have:=c slot λz=>by rw[q] at z;cases z
  unfold Kl at this
  rwa [Zd q] at this
 |false =>
  have e:¬({ program:=(model prog w).prog,params:=(model prog w).w.params }:Setting).params.followText "set-order" = true:=by
   show ¬w.params.followText "set-order" = true;rw[q];simp
  rw[Ze e];have n:Kl w S ep es=es:=by unfold Kl;rw[q];rfl
  rw[n] at c;rw[(m q)];have b:t.led=true:=by rw[b];unfold yL;rw[q];rfl
  obtain⟨mask,place,dummies,finger,led,moves,plain⟩:=t;cases hp;cases b
  split
  .rename_i z;exact Zn z Zj
  .refine Za (Zb (Zb ?_));by_cases h:i<es.size
   .have j:i<place.size:=by rwa [hz]
    have:=c (place[i]+1) λ_ _=>SL l j;rw[Us h] at this
    rwa [Us h,Us j]
   grind[Array.getElem?_eq_none]
abbrev Z3 (w:World)(it S:Addr)(es:Array (Int×Value))(ep:Nat)(t:YD)(i:Nat)(h:Heap):Prop:=(∃slot,HC h it S slot i es.size ep/\(w.params.followText "set-order" = false->i<=es.size->SetTable.below t.place slot=i))/\h.get? S=some (WU es ep t)
structure SetGood (w:World)(es:Array (Int×Value))(t:YD):Prop where
 fits:t.fits es.size=true
 plain:t.plain=true
 led:t.led=yL w
 up:zK t.place
 size:t.place.size=es.size
def SQ (G:SetGood w es t)(st:Z3 w it S es ep t i s.heap)(n:i<es.size)
 (o:∀h' x,(∃k,(Kl w S ep es)[i]? = some (k,x))->Z3 w it S es ep t (i+1) h'->Heap.SameBut it s.heap h'->Q (some x) { s with heap:=h' }):YJ prog w A (pyNext (.ref it)) Q E s:=by
 obtain⟨⟨l,a,f⟩,g⟩:=st;have m:s.TypeIs (.ref it) "set_iterator" := ⟨_,a,rfl⟩;have e:S≠it:=by grind
 unfold pyNext;refine Za (wpAny_attempt (wpAny_callSpecial?_slot m v8
  (wpAny_call_entry v8 m Hy ?_ (HA _))))
 unfold Builtin.«set_iterator.__next__» slotArgs;simp only[UB,bind_assoc];refine Za (Zb ?_);refine Za (wpAny_fieldsOf a rfl (Za (wpAny_setEntries_of g rfl G.fits ?_)));simp;refine Za (HF g G.fits G.plain G.led G.up G.size () λc hs=>?_);have p:i<(Kl w S ep es).size:=by rwa [Dv]
 rw[Us p];refine Za (wpAny_setField_rec a () λh₁ he₁ hs₁=>(Za (wpAny_setField_rec he₁ () λh₂ he₂ hs₂=>?_)));refine Zb ⟨_,rfl,Zb (o h₂ _ () ⟨⟨c,?_,λz _=>hs z n⟩,hs₂.extBut _ _ e (hs₁.extBut _ _ e g)⟩ ⟨hs₂.1.trans hs₁.1,λb f=>(hs₂.2 b f).trans (hs₁.2 b f)⟩)⟩;unfold HC;simpa [rawInt] using he₂
def SR (g:A.handled=none)(G:SetGood w es t)(st:Z3 w it S es ep t i s.heap)(j:i=es.size)
 (h:∀h',Heap.ExtBut it s.heap h'->Q none { s with heap:=h' }):YJ prog w A (pyNext (.ref it)) Q E s:=by
 obtain⟨⟨c,a,l⟩,e⟩:=st;have f:s.TypeIs (.ref it) "set_iterator" := ⟨_,a,rfl⟩;unfold pyNext;refine Za (wpAny_attempt (wpAny_callSpecial?_slot (name:=Str.ofString "__next__") f v8
  (wpAny_call_entry v8 f Hy ?_ (HA _))))
 unfold Builtin.«set_iterator.__next__» slotArgs;simp only[List.isEmpty_nil,Bool.not_true,UB,↓reduceIte,ZC];refine Za (Zb ?_);refine Za (wpAny_fieldsOf a rfl ?_);dsimp only;refine Za (wpAny_setEntries_of e rfl G.fits ?_);simp[VE];refine Za (HF e G.fits G.plain G.led G.up G.size () λb hs=>?_);rw[VV (by rw[Dv];lia)];refine Za (wpAny_setField a rfl () (Za ?_));refine Za (wpAny_newObj_type (Za (wpAny_of_eq (by first|rfl|(simp only)) ?_)) (by size_fits));refine wpAny_newObj_type (Za (wpAny_handled ?_)) (by size_fits);rw[g];refine Za (Zb (wpAny_throw ?_));exact Za (wpAny_isInstance ⟨_,Zr _ rfl,rfl⟩ isSubtype_stop (Zb (h _ (((Heap.SameBut.update ..).extBut.push _).push _))))
end
def SS (n:A.handled=none)(G:SetGood w es t):WalksS prog w A it [it,S] [it] (λg g'=>g'=g) es.size (λi v=>∃k,(Kl w S ep es)[i]? = some (k,v)) (λi s=>Z3 w it S es ep t i s.heap):=
 (show Walks prog w A it [it,S] [it] es.size (λi v=>∃k,(Kl w S ep es)[i]? = some (k,v)) (λi h=>Z3 w it S es ep t i h) from {
  sub:=by simp
  frame:=by grind
  item:=λi s Q E p st a=>SQ G st p λh' x q c r=>a x h' s.toks q c λb o l e=>r.extBut b o () e
  done:=λs Q E st a=>SR n G st rfl λh' u=>a h' s.toks λb o l e=>u b o () e
  self:=λi s Q E st a=>have ⟨⟨m,f,l⟩,y⟩:=st;have j:=⟨_,f,rfl⟩;wpAny_pyIter_slot j HB (wpAny_call_entry HB j SI (Zb ⟨_,rfl, "set_iterator",_,j,v8.lookup,a⟩) (SJ _)) }).toS
def SU:typeLookup (.type "set") "__len__" = pure (some (.builtin "set.__len__")):=by rw[typeLookup_type,builtinLookup_eq_fast];kernel_rfl
section
variable {prog:Program}{w:World}{A:Around}{E:Ya}{s:Shared}
def SW (a:s.TypeIs (.ref r) "set")(h:Q false s):YJ prog w A (Builtin.List.listLengthHint (.ref r)) Q E s:=by
 refine Za (wpAny_specialOf a SU ?_);generalize c:("set.__len__" : String)=id0;subst c;exact Za (wpAny_isInstance (b:=true) a (by rw[isSubtype_type];kernel_rfl) (wpAny_ite_split (λe=>Zn e (by decide)) (λ_=>(Za (wpAny_typeOf a (Zb h))))))
def SX (Z:A.handled=none)(i:s.heap.get? S=some (WU es ep t))(G:SetGood w es t)(hn:es.size<=1000)
 (h:∀(h':Heap) (tk:Nat) (U:Yf),(∀b o,s.heap.get? b=some o->h'.get? b=some o)->U.Perm (es.toList.map (·.2))->s.heap.objs.size<h'.objs.size->R U { s with heap:=h',toks:=tk }):YJ prog w A (collect (.ref S)) R E s:=by
 have C:S<s.heap.objs.size:=Zk i;have X:s.TypeIs (.ref S) "set" := ⟨_,i,rfl⟩;unfold collect;refine Za (wpAny_runValue (codeAny_builtin F.entry_proto_collect ?_));rw[Around.under_plainId F.plain_proto_collect _];show wpAny _ A.in1 (newList [] >>= λl=>again (.builtin "list.__iadd__" ⟨[l,.ref S],[]⟩)) _ _ s;refine Za (wpAny_newObj_type ?_);refine Zb ⟨plainId_quiet F.plain_list_iadd _,codeAny_builtin F.entry_list_iadd ?_⟩;rw[Around.under_plainId F.plain_list_iadd _];generalize n:({ cls:=.type "list",data:=.seq ([]:Yf).toArray }:Obj)=no;have hL₁:(s.heap.push no).get? s.heap.objs.size=some no:=Zr _ (by rw[<- n];rfl);have ho₁:(s.heap.push no).get? S=some (WU es ep t):=Zq _ i;have hT₁:Shared.TypeIs { s with heap:=s.heap.push no } (.ref S) "set" := ⟨_,ho₁,rfl⟩;have p:S≠s.heap.objs.size:=Zi C;show wpAny _ A.in1 (Builtin.List.listExtendWith (.ref s.heap.objs.size) (.ref S) (.ref s.heap.objs.size)) _ _ _;unfold Builtin.List.listExtendWith;refine Za (wpAny_typeOf hT₁ ?_);have h1:Builtin.List.listSameRef (.ref s.heap.objs.size) (.ref S)=false:=by simp[Builtin.List.listSameRef,Ne.symm p]
 have h2:(Value.type "set" == Value.type "list")=false:=by decide
 have h3:(Value.type "set" == Value.type "tuple")=false:=by decide
 simp only[h1,h2,h3,Bool.or_false,UB,if_false];refine Za (SO (s:={ s with heap:=s.heap.push no }) ho₁ G.fits G.plain ?_);have J:(s.heap.push no).objs.size=s.heap.objs.size+1:=Heap.size_push ..;generalize K:(s.heap.push no).objs.size=I at *;generalize q:({ cls:=.type "set_iterator",data:=.fields #[.int 0 0,.int 0 0,.ref S,.int es.size 0,.int ep 0] }:Obj)=ni;have hS₂:=Zq ni ho₁;have hL₂:=Zq ni hL₁;have hI₂:((s.heap.push no).push ni).get? I=some ni:=by rw[<- K];exact Zr _ (by rw[<- q];rfl)
 refine Za (wpAny_holding (SW ⟨_,hS₂,rfl⟩ ?_));have L:I≠s.heap.objs.size:=()
 have r:∀M,(∀h' tk c a,(∀b o,s.heap.get? b=some o->h'.get? b=some o)->h'.get? s.heap.objs.size=some { cls:=.type "list",dict:=none,data:=.seq a c,slots:=#[] }->a.toList.Perm (es.toList.map (·.2))->M (.ok (.ret (.ref s.heap.objs.size))) { s with heap:=h',toks:=tk }) ->
  ∀h c₁ tk,(∀b o,b≠s.heap.objs.size->((s.heap.push no).push ni).get? b=some o->h.get? b=some o)->h.get? s.heap.objs.size=some { cls:=.type "list",dict:=none,data:=.seq #[] c₁,slots:=#[] } ->
  codeAny (model prog w) A (.builtin "list.extend.loop" ⟨[.ref s.heap.objs.size,.ref I,.ref s.heap.objs.size],[]⟩) M { s with heap:=h,toks:=tk }:=by
  intro M hR h₀ c₁ tk u f;have N:s.heap.objs.size ∉ [I,S]:=by
   simp only[UI,UT,or_false,not_or];exact()
  have v:h₀.get? I=some ni:=u I _ L hI₂;rw[<- q] at v;refine codeAny_extend_loopS (SS (prog:=prog) (w:=w) (A:=A.in1) (it:=I) (S:=S) (ep:=ep) Z G) (Zh hn (by rw[sizeLine_eq];lia)) s.heap.objs.size N _ es.size 0 { s with heap:=h₀,toks:=tk } #[] c₁ rfl (Ua _)
   ⟨⟨0,v,λ_ _=>SN _ G.up⟩,u S _ p hS₂⟩ f (ItemsOf.nil _) λs' a c H O g=>?_
  obtain⟨h',g',d',P,Q⟩:=s';have eg:g'=s.gens:=H.gens;have ed:d'=s.drawn:=H.drawn;have eo:Q=s.os:=H.os;subst eg;subst ed;subst eo;refine hR h' P c a (λb o e=>?_) O ?_
  .have x:=Zk e;have y:b≠s.heap.objs.size:=Zi x;have T:b≠I:=Zi (Zg x (by rw[J];exact Nat.le_succ _));exact H.heap b o (by simp only[UI,UT,or_false,not_or];exact⟨y,T⟩) (u b o y (Zq _ (Zq _ e)))
  .have el:a.toList=(Kl w S ep es).toList.map (·.2):=by
    apply VF;intro j;rw[Zv];by_cases Y:j<a.size
    .obtain⟨k,u⟩:=g.2 j a[j] (Us Y);have:(Kl w S ep es).toList[j]? = some (k,a[j]):=by simpa using u
     rw[this];simp[Y]
    .have hw:(Kl w S ep es).toList[j]? = none:=Vr (by rw[Ul,Dv,<- g.1];lia);rw[hw];exact Vr (by rw[Ul];lia)
   rw[el];exact(HE w S ep es).map _
 have z:∀h' tk c (a:Yn),(∀b o,s.heap.get? b=some o->h'.get? b=some o)->h'.get? s.heap.objs.size=some { cls:=.type "list",dict:=none,data:=.seq a c,slots:=#[] }->a.toList.Perm (es.toList.map (·.2)) ->
  YJ prog w A (do
   let o <- load s.heap.objs.size
   match o.data with
    | .seq xs _=>pure xs.toList
    |_=>unsupported "internal:collect") R E { s with heap:=h',toks:=tk }:=λh' tk c a B m hp=>by
  refine Za (wpAny_load m ?_);exact Zb (h h' tk a.toList B hp (Zk m))
 have hL₂':((s.heap.push no).push ni).get? s.heap.objs.size=some { cls:=.type "list",dict:=none,data:=.seq #[] 0,slots:=#[] }:=by rw[hL₂,<- n]
 refine wpAny_ite_split (λ_=>?_) (λ_=>Zb ⟨plainId_quiet F.plain_extend_loop _,r _ (λh' tk c a B m hp=>z h' tk c a B m hp) _ 0 _ (λb o _ e=>e) hL₂'⟩);refine Za (wpAny_rule ?_);refine Za ?_;show wpAny _ _ (updateSeq s.heap.objs.size (·.push .none) >>= λ_=>updateSeq s.heap.objs.size (·.pop)) _ _ _;refine Za (wpAny_updateSeq hL₂' rfl ?_);have hL₃:=Heap.get?_update_self (Obj.mapSeq (·.push Value.none)) hL₂' rfl;refine wpAny_updateSeq (hz:=by seq_fits) hL₃ rfl ?_;have hL₄:=Heap.get?_update_self (Obj.mapSeq (·.pop)) hL₃ rfl;refine Zb ⟨plainId_quiet F.plain_extend_loop _,r _ (λh' tk c a B m hp=>z h' tk c a B m hp) _ _ _ (λb o x e=>?_) hL₄⟩;exact(Heap.get?_update_other _ _ (Ne.symm x)).trans ((Heap.get?_update_other _ _ (Ne.symm x)).trans e)
end
theorem HG:∀{a:Yf} {r:Jy},WL h a r->IsPairs h a r
 | [],[],_=>.nil
 | [],_::_,p=>by have:=p.1;simp at this
 |_::_,[],p=>by have:=p.1;simp at this
 |u::a,q::r,p=>by
  obtain⟨b,c,nb,t,v,e,f,g,j⟩:=p.2 0 q rfl;obtain rfl:=Zqi e;refine .cons ⟨b,c,_,nb,t,v,rfl,f,g,j,rfl⟩ (HG ⟨by have:=p.1;simpa using this,λi x l=>p.2 (i+1) x l⟩)
def SY (R:RowAt h v r a o us n):yG h v r:=
 ⟨a,o,us.toArray,n,R.isv,R.get,R.cls,R.dat,HG R.prs⟩
def jV (rs:Jz):Nat->List Nat
 | 0=>[]
 |n+1=>if(jV rs n).any (λi=>decide (rs.getD i []=rs.getD n [])) then jV rs n else jV rs n++[n]
def SZ (rs)(n):jV rs (n+1)=if(jV rs n).any (λi=>decide (rs.getD i []=rs.getD n [])) then jV rs n else jV rs n++[n]:=rfl
def qT (rs:Jz):Jz:=(jV rs rs.length).map λi=>rs.getD i []
theorem XC (rs):∀n i,i∈jV rs n->i<n
 | 0,i,h=>by cases h
 |n+1,i,h=>by
  unfold jV at h
  split at h
  .have:=XC rs n i h;lia
  .rcases Jb.mp h with q|q
   .have:=XC rs n i q;lia
   simp_all
theorem Dw (rs):∀n,(jV rs n).length<=n
 | 0=>Zf _
 |n+1=>by
  have:=Dw rs n
  grind[jV,List.length_append,List.length_singleton]
theorem HH (rs):∀n,((jV rs n).map λi=>rs.getD i []).Nodup
 | 0=>VB
 |n+1=>by
  have a:=HH rs n;unfold jV
  grind
theorem HJ (rs):∀n r,r∈((jV rs n).map λi=>rs.getD i [])↔∃i,i<n/\rs.getD i []=r
 | 0,r=>by
  constructor
  .intro h;cases h
  lia
 |n+1,r=>by
  have a:=HJ rs n;unfold jV
  grind
def HK (rs):(qT rs).Nodup:=HH rs _
def HM (rs):(qT rs).length<=rs.length:=by unfold qT;rw[Zql];exact Dw rs _
theorem bS:r∈qT rs↔r∈rs:=by
 unfold qT;rw[HJ];constructor
 .grind
 .intro h;obtain⟨i,a,z⟩:=Uz h;exact⟨i,a,()⟩
theorem HN {same:Value->Value->Bool}{val:Nat->Value}{rs:Jz}{n:Nat}(h:∀i j,i<n->j<n->same (val i) (val j)=decide (rs.getD i []=rs.getD j [])):∀k,k<=n->xX same val k=(jV rs k).map val
 | 0,_=>rfl
 |k+1,hk=>by
  rw[Bi,HN h k (),SZ];unfold W5;have e:((jV rs k).map val).any (same · (val k))=(jV rs k).any (λi=>decide (rs.getD i []=rs.getD k [])):=by
   rw[List.any_map,Vi,Vo,Vo];constructor
   .rintro⟨i,a,z⟩;exact⟨i,a,by rwa [<- h i k (by have:=XC rs k i a;lia) ()]⟩
   .rintro⟨i,a,z⟩;exact⟨i,a,by show same (val i) (val k)=true;rwa [h i k (by have:=XC rs k i a;lia) ()]⟩
  grind
theorem Bk {G:Hp}{rs:Jz}{ys:YE}(h:qm G (rs.map rD) ys):∀ix:Yj,(∀i∈ix,i<rs.length)->qm G ((ix.map λi=>rs.getD i []).map rD) (ix.map λi=>ys.getD i .non)
 | [],_=>by rfl
 |i::ix,hi=>by
  have ⟨x,a,b⟩:=h.get (i:=i) (d:=rD (rs.getD i [])) ();rw[Zl,Zl,Zl];refine⟨x,_,?_,b,Bk h ix ()⟩;rw[Qj a]
def zf (w:World)(S:Addr)(ys:YE):HO:=.ext λh=>∃es ep t a,h.get? S=some (WU es ep t)/\SetGood w es t/\es.size<=1000/\(es.toList.map (·.2)).Perm a/\jq ys a
def HQ (w:World):YE->Hp->VK->Prop:=λb H Q=>∃a ys rs,b=[.ref a]/\Rd H a (.lst ys)/\qm H (rs.map rD) ys/\rs.length<=999/\∀S,H S=none->Q (.ref S) (upd H S (zf w S ((jV rs rs.length).map λi=>ys.getD i .non)))
def HR (w:World):YE->Hp->VK->Prop:=λb H Q=>∃S ys rs,b=[.ref S]/\H S=some (zf w S ys)/\qm H (rs.map rD) ys/\(∀r∈rs,r ≠ [])/\rs.length<1000 /\
 ∀l a,H l=none->(∀G,qm G (rs.map rD) ys->qm G ((JS j7 rs).map rD) a)->Q (.ref l) (upd H l (.lst a))
def Ta (p:us.Perm vs):∀{f:YE} {rs:Jz},jq f us->f.length=rs.length->∃(a:YE) (b:Jz),jq a vs/\b.Perm rs/\a.length=b.length/\∀G,qm G (rs.map rD) f->qm G (b.map rD) a:=by
 induction p with
 |nil=>exact λ{f rs} h c=>⟨f,rs,h,.refl _,c,λ_ h=>h⟩
 |cons x _ C =>
  intro f rs h c;cases h with
  |cons r h =>
   cases rs with
   |nil=>simp at c
   |cons q rs =>
    obtain⟨a,b,j,m,n,o⟩:=C h (by simpa using c);refine⟨_::a,q::b,.cons r j,m.cons q,by simp[n],λG g=>?_⟩;obtain⟨y,w,e,i,t⟩:=g;cases e;exact⟨_,_,rfl,i,o G t⟩
 |swap x y l =>
  intro f rs h c;cases h with
  |cons r h =>
   cases h with
   |cons F h =>
    cases rs with
    |nil=>simp at c
    |cons q rs =>
     cases rs with
     |nil=>simp at c
     |cons H rs =>
      refine⟨_,H::q::rs,.cons F (.cons r h),.swap _ _ _,by simpa using c,λG g=>?_⟩;obtain⟨y,w,e,i,t⟩:=g;cases e;obtain⟨y,w,e,I,J⟩:=t;cases e;exact⟨_,_,rfl,I,⟨_,_,rfl,i,J⟩⟩
 |trans _ _ u v =>
  intro f rs h c;obtain⟨a,b,j,m,n,o⟩:=u h c;obtain⟨z,B,i,K,L,M⟩:=v j n;exact⟨z,B,i,K.trans m,L,λG g=>M G (o G g)⟩
section
variable {X:Cx}
def call_setRows (L:X.calm=true)(hu:X.A.units+64<cLine):jO X (.type "set") (HQ X.w):=by
 intro Y s Z H xs G Q I M h;obtain⟨a,ys,rs,rfl,N,J,hl,q⟩:=h;obtain⟨u,rfl,O⟩:=Q6 M;obtain rfl:u=Value.ref a:=O;obtain⟨its,p,pl,hz⟩:=I.list (.inl N);have P:=J.length;have l2:=p.length;rw[Zql] at P;have sz:its.toArray.size=its.length:=Zm;have S:∀i,its.toArray.getD i .none=its.getD i .none:=λi=>by
  simp
 have T:∀i,i<its.length->yG s.heap (its.getD i .none) (rs.getD i []):=λi f=>by
  have hr:i<rs.length:=()
  obtain⟨x,g,U⟩:=J.get (i:=i) (d:=rD (rs.getD i [])) ();obtain⟨v,l,y⟩:=p.get g;obtain⟨b,o,ws,n,R⟩:=CC I.hok U y;rw[Qj l];exact SY R
 refine S4 (I.ok.hd L) pl.isList (SG X.prog X.w s.heap) (λi v l=>?_) () () λh' tk H' kk=>?_
 .grind
 .have same:∀i j,i<its.toArray.size->j<its.toArray.size->(λv u=>decide (yI s.heap v=yI s.heap u)) ((λi=>its.toArray.getD i .none) i) ((λi=>its.toArray.getD i .none) j)=decide (rs.getD i []=rs.getD j []):=λi j f hj=>by
   grind[Bj]
  obtain⟨es,t,m,B,led,plain⟩:=H';rw[HN same _ (Zf _)] at B;obtain⟨ep,K⟩:=m.at_;have en:its.toArray.size=rs.length:=()
  rw[en] at B;have c:(es.toList.map (·.2)).Perm ((jV rs rs.length).map λi=>its.getD i .none):=by
   have:=B.map (·.2);rw[Zw,Zw] at this;refine this.trans (List.Perm.of_eq (U0 λi _=>?_));exact S i
  have vl:jq ((jV rs rs.length).map λi=>ys.getD i .non) ((jV rs rs.length).map λi=>its.getD i .none):=Xs λi f=>by
   have f:=XC rs _ i f;obtain⟨x,g⟩:∃x,ys[i]? = some x:=⟨ys[i]'(),()⟩;obtain⟨v,l,y⟩:=p.get g;rw[Qj g,Qj l];exact y
  have C:es.size<=1000:=by
   have:=c.length_eq;rw[Zql,Zql,Ul] at this;have:=Dw rs rs.length;lia
  have F:t.place.size=es.size:=by
   have:=m.tab.size;rw[Uj] at this;exact this
  refine⟨.ref s.heap.objs.size,upd H s.heap.objs.size (zf X.w s.heap.objs.size ((jV rs rs.length).map λi=>ys.getD i .non)),I.laid (λb o e=>kk b o (Zk e) e) (Zf _) ?_,rfl,q _ (I.hok.fresh (Zf _))⟩;refine⟨⟨es,ep,t,_,K,⟨m.tab.fits,plain,led,m.tab.up,F⟩,C,c,vl⟩,⟨_,K⟩,λh1 h2 z kp=>?_⟩;have ⟨es,ep,t,G,e,r⟩:=z;exact⟨es,ep,t,G,kp _ e,r⟩
def Tb (I:Inv X Y Z H s)(h:H S=some (zf X.w S ys)):∃es ep t a,s.heap.get? S=some (WU es ep t)/\SetGood X.w es t/\es.size<=1000/\(es.toList.map (·.2)).Perm a/\jq ys a:=(I.hok S _ h).1
def Tc
 (i:wpAny (model prog w) A.in1 (collect x) (λa c=>∃lt,Wk lt/\a.length<1000/\(∀h',(∀b o,c.heap.get? b=some o->h'.get? b=some o)->2<=a.length->zO prog w A.in1.in1 { c with heap:=h' } a lt) /\
  ∀f h' l,Pl a.length f a.length->Up lt f a.length->(∀b o,c.heap.get? b=some o->h'.get? b=some o)->c.heap.objs.size<=l->(∃e,h'.get? l=some (seqObj "list" (f.map (j8 a)) e))->Q (.ref l) { c with heap:=h' }) E s):
 YJ prog w A (call (.builtin "sorted") [x]) Q E s:=by
 refine Calls.call_function_entry kind_sorted plain_sorted entry_sorted (args_sorted1 _) (Za (Zb (Za (Zc i (λa c z=>?_) λ_ _ e=>e))));obtain⟨lt,W,g,j,m⟩:=z;have h:(c.heap.push (seqObj "list" a.toArray 0)).get? c.heap.objs.size=some (seqObj "list" a.toArray 0):=Zr _ rfl;have n:∀b o,c.heap.get? b=some o->b≠c.heap.objs.size:=λb o e=>Zi (Zk e);refine Za (wpAny_newList (Za (wpAny_holding (wpAny_call_entry slot_list_sort ⟨_,h,rfl⟩ entry_list_sort (F8 W h g (λh' q=>j h' λb o e=>q b o (n b o e) (Zq _ e)) λf p u=>⟨_,rfl,Zb ⟨_,rfl,m f _ _ p u (λb o e=>?_) (Zf _) (sortedHeap_at h)⟩⟩) (args_list_sort _)))))
 grind[size_push',sortedHeap_old,Nat.lt_succ_of_lt,Heap.lt_size,Heap.get?_push_of_some]
def call_sortedSet (hc:X.calm=true)(hu:X.A.units+64<cLine):jO X (.builtin "sorted") (HR X.w):=by
 intro Y s Z H xs us Q I rv h;obtain⟨S,ys,rs,rfl,hS,U,J,h64,q⟩:=h;obtain⟨u,rfl,ru⟩:=Q6 rv;obtain rfl:u=Value.ref S:=ru;obtain⟨es,ep,t,ws,ho,G,hsz,pm,vl⟩:=Tb I hS;have l1:=U.length;rw[Zql] at l1;have K:∀m:Yf,m.Perm (es.toList.map (·.2))->m.length=rs.length:=λm n=>by
  have a:=n.length_eq;have b:=pm.length_eq;have c:=vl.length;lia
 refine Tc (SX (A:=X.A.in1) (E:=X.xe) (I.ok.hd hc) ho G hsz λh1 tk m kk n hsz1=>?_);obtain⟨g,f,y,L,l2,g2⟩:=Ta (pm.symm.trans n.symm) vl ();have lv:=K m n;have lr:=L.length_eq;have A2:=g2 H U;have M:∀r∈f,r ≠ []:=λr hr=>J r (L.mem_iff.mp hr);refine⟨λi j=>j7 (f.getD i []) (f.getD j []),xM.wk λi=>f.getD i [],(),λh' N h2=>FJ (by show X.A.units+1+1+4<cLine;lia) (I.hok.kept λb o e=>N b o (kk b o e)) A2 y M h2,λz h' l p u N hl O=>?_⟩;have ⟨e,O⟩:=O;have P:m.length=f.length:=()
 rw[P] at p u;have B:s.heap.objs.size<=l:=by
  have hl:h1.objs.size<=l:=hl;lia
 have R:∀i∈z.toList,∃x v,g[i]? = some x/\m[i]? = some v/\jy x v:=λi C=>by
  have hn:=p.mem C;have ⟨x,F⟩:∃x,g[i]? = some x:=⟨g[i]'(),()⟩;have ⟨v,n,rr⟩:=y.get F;exact⟨x,v,F,n,rr⟩
 have sp:=CB xM p u;have se:=A5 xM (((Q1 f).trans L).trans (Q1 rs).symm) (WK xM f) (WK xM rs);have T:=q l (z.toList.map λi=>g.getD i .non) (I.hok.fresh B) λG hG=>by
  have:=Bk (g2 G hG) z.toList λi C=>p.mem C
  rwa [sp,se] at this
 refine⟨.ref l,upd H l (.lst (z.toList.map λi=>g.getD i .non)),I.laid (λb o e=>N b o (kk b o e)) B ⟨?_,z.toList.map (j8 m),e,?_,?_⟩,rfl,T⟩
 .rw[Zql,p.len];exact Ke ()
 .refine Xs λi C=>?_;have ⟨x,v,F,n,rr⟩:=R i C;unfold j8
  rwa [Qj F,Qj n]
 .rw[O]
  congr 3
  apply Vm;simp
end
end L2.ST
namespace L2.DL
open PySem PySem.Spec PyProof.Rows L2.ST
def Z5:YG->YH
 | [.lst ds]=>(Q3 K6 ds).bind λrs=>if(∀r∈rs,r ≠ [])/\(qT rs).length<1000/\rs.length<=999 then some (.lst ((JS j7 (qT rs)).map jv)) else none
 |_=>none
section
variable {X:Cx}{E:XK}{fr:FA}{es:Ym}{e:Expr}
def Td (h:∀{s:TA},PA X es s->PE X e (wl (HR X.w) (Ai (wl (HQ X.w) s) wf)))(y:QA X E es fr):QN X E e (jn Z5 fr):=PE.weak (h y) λZ H Q A=>by
 obtain⟨B,F,sd,r,n⟩:=A;refine⟨B,F,sd,r,(ja n).mono (λds C O c g b I=>?_) λ_ _ q=>q⟩;obtain⟨z,hz,q⟩:=jg C;unfold Z5 at hz
 split at hz
 .obtain⟨rs,J,hz⟩:=Jf.mp hz
  split at hz
  .rename_i j;obtain rfl:=Zqi hz;obtain⟨v,rfl,h⟩:=Qs I;rw[CL J,jk] at h;obtain⟨a,ys,rfl,K,m⟩:=h;refine⟨a,ys,rs,rfl,K.same b.fh,zX.mp (jd.same b.fh _ _ m),j.2.2,λS t=>?_⟩;have u:∀G,qm G (rs.map rD) ys->qm G ((qT rs).map rD) ((jV rs rs.length).map λi=>ys.getD i .non):=λG o=>Bk o _ λi L=>XC rs _ i L;refine⟨S,_,qT rs,rfl,JK,u _ (qm.same (K4 t (zf X.w S ((jV rs rs.length).map λi=>ys.getD i .non))) _ _ (zX.mp (jd.same b.fh _ _ m))),λr M=>j.1 r (bS.mp M),j.2.1,λl N w o=>?_⟩;have p:l≠S:=λz=>by simp_all [JK]
   have f:g l=none:=by rwa [JG p] at w
   have x:Ext c g c (upd g S (zf X.w S ((jV rs rs.length).map λi=>ys.getD i .non))):=.keep b.fh t _;exact(q.ext b) l c _ (x.trans (.keep x.fh w _)) f (Qk b.fh f) ⟨N,JK,zX.mpr (o c (u c (zX.mp m)))⟩
  .exact J3 hz
 simp_all
end
def bt_set:bootBuiltins "set" = some (.type "set"):=by kernel_rfl
def Te (h:∀r∈rs,r ≠ [])(a:(qT rs).length<1000)(b:rs.length<=999):Z5 [.lst (rs.map jv)]=some (.lst ((JS j7 (qT rs)).map jv)):=by
 show(Q3 K6 (rs.map jv)).bind _=_
 simp_all [AK]
end L2.DL
namespace L2.ST
def yZ (a b:Jy):Bool:=decide (a.length<b.length)||(decide (a.length=b.length)&&j7 a b)
theorem XD:yZ a b=true↔a.length<b.length\/(a.length=b.length/\j7 a b=true):=by
 simp_all [yZ]
def Dx:yZ a b=false↔b.length<a.length\/(a.length=b.length/\j7 a b=false):=by
 grind[XD]
def v6:Tot yZ where
 asy:=λa b h=>by
  rw[XD] at h;rw[Dx];rcases h with h|⟨f,e⟩
  .exact .inl h
  .exact .inr ⟨f.symm,xM.asy _ _ e⟩
 neg:=λa b c h=>by
  rw[XD] at h;rw[XD,XD];rcases h with h|⟨f,e⟩
  .omega
  .rcases Vh a.length b.length with z|z|z
   .exact .inl (.inl z)
   .rcases xM.neg a b c e with y|y
    .exact by grind
    simp_all
   lia
 tot:=λa b f e=>by
  rw[Dx] at f e;rcases f with f|⟨f,h3⟩<;>rcases e with e|⟨e,h4⟩
  .omega
  .omega
  .omega
  .exact xM.tot _ _ h3 h4
def Th (hs:l.Pairwise λa b=>j7 a b=true)(p:Pl l.length jx l.length)(u:Up (λi j=>decide (((l.getD i []).length:Int)<((l.getD j []).length:Int))) jx l.length):jx.toList.map (λi=>l.getD i [])=JS yZ l:=by
 refine A5 v6 ?_ ?_ (WK v6 l)
 .refine Vw ?_ (Q1 l).symm;have q:jx.toList.Perm (List.range l.length):=by
   have:=Jp.mp p.perm;simpa using this
  refine(q.map _).trans (List.Perm.of_eq ?_);apply List.ext_getElem
  .simp
  .intro i r g;simp[g]
 .refine Jk.mpr λa b h m ab=>?_;rw[VN,VN];have sz:jx.toList.length=l.length:=by rw[Ul,p.size]
  rw[Zql] at h m;have n:jx.toList[a]=gx jx a:=by
   simp_all [gx]
  have o:jx.toList[b]=gx jx b:=by
   simp_all [gx]
  rw[n,o];have e:=p.lt (Zf _) (show a<l.length from ());have f:=p.lt (Zf _) (show b<l.length from ());have c:=u a b ab ();generalize gx jx a=i at c e;generalize gx jx b=j at c f;rw[Dx];rcases c with c|⟨c,ij⟩
  .simp_all
  .have:=of_decide_eq_false c;rcases Vs (l.getD i []).length (l.getD j []).length with z|z
   .exact .inl z
   .refine .inr ⟨(),xM.asy _ _ ?_⟩;have:=Jk.mp hs i j e f ij
    simp_all
section
variable {prog:Program}{w:World}{A:Around}{E:Ya}{s:Shared}
def Ti (f:IntsAre a kz)(g:kz.length=vs.length):yc prog w A s oneType' (λi=>(j8 a i,j8 vs i)) (λi j=>decide (kz.getD i 0<kz.getD j 0)) vs.length:=by
 have b:∀{a:Yf} {kz:Yh},IntsAre a kz->∀i,i<kz.length->∃t,j8 a i=.int (kz.getD i 0) t:=by
  intro a kz h
  induction h with
  |nil=>simp
  |cons n t _ c =>
   intro i e;cases i with
   |zero=>exact⟨t,rfl⟩
   |succ i=>exact c i ()
 intro i j e l E Q m
 grind[W.kat_lt_int]
def Tj (kz:Yh):Wk λi j=>decide (kz.getD i 0<kz.getD j 0):=
 ⟨λi j h=>(),()⟩
def Tk (p:IntsAre keys.toList kz)(B:kz.length=vs.length)(q:vs.length<1000)(r:kS≠a)
 (v:s.heap.get? kS=some (seqObj "list" keys e)) (C:s.heap.get? a=some (seqObj "list" #[] e1))
 (h:∀f h',Pl vs.length f vs.length->Up (λi j=>decide (kz.getD i 0<kz.getD j 0)) f vs.length->(∀b o,b≠kS->b≠a->s.heap.get? b=some o->h'.get? b=some o)->(∃c,h'.get? a=some (seqObj "list" (f.map (j8 vs)) c))->P (.done (.ret .none)) { s with heap:=h' }):
 YJ prog w A (ksk_end a false vs.toArray e1 (.ref kS) keys) P E s:=by
 have hsz:keys.size=vs.length:=by
  have L:=p.length
  simp_all
 have M:keys=keys.toList.toArray:=Array.toArray_toList.symm;have x:keys.zip vs.toArray=(Array.range vs.length).map λi=>(j8 keys.toList i,j8 vs i):=by
  apply Array.ext_getElem?;intro k;rw[UR];by_cases t:k<vs.length
  .rw[Array.getElem?_range,Zd t]
   grind[j8,List.getD_eq_getElem?_getD,Array.length_toList,Array.getElem?_zip_eq_some,Zqg]
  grind
 have m:∀st (f:Yi),arrOf st=f.map (λi=>(j8 keys.toList i,j8 vs i))->failedOf st=none->Pl vs.length f vs.length->Up (λi j=>decide (kz.getD i 0<kz.getD j 0)) f vs.length->YJ prog w A (ksk_tail a false e1 (.ref kS) st) P E s:=by
  intro st f F G y H;have I:(arrOf st).map (·.2)=f.map (j8 vs):=by rw[F,Array.map_map];rfl
  unfold ksk_tail;dsimp only;rw[I,G];obtain⟨z,g1⟩:∃z,(s.heap.update kS (Obj.mapSeq λ_ => #[])).get? kS=some (seqObj "list" #[] z):=⟨_,get?_update_seq v (λ_ => #[])⟩;have g:(s.heap.update kS (Obj.mapSeq λ_ => #[])).get? a=some (seqObj "list" #[] e1):=by rw[Heap.get?_update_ne _ _ _ _ (Ne.symm r)];exact C
  refine Za (listUpdate_at v rfl ?_ (by rw[hsz,sizeLine_eq];lia) (Ua _));refine Za (wpAny_letGo ?_);refine Za (seqEpoch_at (s:={ s with heap:=s.heap.update kS (Obj.mapSeq λ_ => #[]) }) g rfl (Za (listUpdate_at (s:={ s with heap:=s.heap.update kS (Obj.mapSeq λ_ => #[]) }) g rfl ?_ (Ua _) (by rw[Ze Zj,Uj,y.size,sizeLine_eq];lia))));simp only[bne_self_eq_false,UB,if_false];refine Zb (h f _ y H (λb o J u K=>?_) ?_)
  .show((s.heap.update kS (Obj.mapSeq λ_ => #[])).update a (Obj.mapSeq λ_=>f.map (j8 vs))).get? b=some o;rw[Heap.get?_update_ne _ _ _ _ u,Heap.get?_update_ne _ _ _ _ J];exact K
  .exact⟨_,get?_update_seq g (λ_=>f.map (j8 vs))⟩
 unfold ksk_end;dsimp only;simp only[UB,if_false];by_cases l:vs.toArray.size<2
 .rw[Zd l,Zd l];refine Za (Zb (m _ (Array.range vs.length) x rfl (A4 _ _ (Zf _)) λi j N O=>?_));rw[Zm] at l;lia
 .rw[Ze l,Ze l];rw[Zm] at l;rw[ksk_kind p (by rw[hsz];lia)];refine Za (Zb ?_);refine Za (Zc (F6 (Tj kz) (Ti p B) (Q:=λ_ n=>∃f,arrOf n=f.map (λi=>(j8 keys.toList i,j8 vs i))/\failedOf n=none/\Pl vs.length f vs.length/\Up (λi j=>decide (kz.getD i 0<kz.getD j 0)) f vs.length)
   ⟨x,rfl,rfl,rfl⟩ (A4 _ _ ()) () q ()) ?_ λ_ _ e=>e)
  exact()
def Tl {a n:Addr}{f:Value}{l:Yf}{kz:Yh}{K:Nat}{P:PySem.Fin->YC}(N:kz.length=l.length)(C:l.length<1000)(F:n≠a)
 (O:s.heap.get? n=some (seqObj "list" #[] 0)) (Z:s.heap.get? a=some (seqObj "list" #[] K))
 (y:∀(i:Nat) v k,l[i]? = some v->kz[i]? = some k->∀h tk,(∀b o,b≠n->b≠a->s.heap.get? b=some o->h.get? b=some o) ->
  YJ prog w A (call f [v]) (λr s'=>∃t G,r=.int k t/\s'={ s with heap:=h,toks:=G }) (λ_ _=>False) { s with heap:=h,toks:=tk })
 (h:∀B h' tk,Pl l.length B l.length->Up (λi j=>decide (kz.getD i 0<kz.getD j 0)) B l.length->(∀b o,b≠n->b≠a->s.heap.get? b=some o->h'.get? b=some o)->(∃c,h'.get? a=some (seqObj "list" (B.map (j8 l)) c))->P (.done (.ret .none)) { s with heap:=h',toks:=tk }):
 YJ prog w A (ksk_rest a f false l.toArray K (.ref n)) P E s:=by
 unfold ksk_rest;refine Za (wpAny_rule ?_)
 first
  |rw[List.forIn_toArray]
  | (rw[<- Vp];simp only[List.toList_toArray])
  |rw[<- Vp]
 refine Za (ksk_fold (λi s'=>∃h' tk q e,s'={ s with heap:=h',toks:=tk }/\(∀b o,b≠n->s.heap.get? b=some o->h'.get? b=some o)/\h'.get? n=some (seqObj "list" q e)/\IntsAre q.toList (kz.take i)) l 0 s
  ⟨s.heap,s.toks,#[],0,rfl,λ_ _ _ e=>e,O,by simpa using IntsAre.nil⟩ ?step ?done)
 case step =>
  rintro j x s' Q ⟨h',tk,q,e,rfl,L,m,H⟩;simp only[Nat.zero_add] at H ⊢;have hj:j<l.length:=();obtain⟨k,hkj⟩:∃k,kz[j]? = some k:=⟨_,Zqg ()⟩;have hz:q.size<=l.length:=by
   have R:=H.length;rw[Ul,Uw] at R;lia
  refine Za (wpAny_attempt (Zc (y j x k Q hkj h' tk λb o S _ T=>L b o S T) (λv U X=>?_) λ_ _ Y=>Y.elim));obtain⟨z,I,rfl,rfl⟩:=X
  try dsimp only
  obtain⟨M,hc2⟩:∃M,(h'.update n (Obj.mapSeq (·.push (.int k z)))).get? n=some (seqObj "list" (q.push (.int k z)) M):=⟨_,get?_update_seq m (·.push (.int k z))⟩;have ek:kz.take (j+1)=kz.take j++[k]:=by rw[List.take_add_one,hkj];simp
  have ea:(q.push (Value.int k z)).toList=q.toList++[Value.int k z]:=by simp
  refine Za (listUpdate_at (s:={ s with heap:=h',toks:=I }) m rfl ?_ (by rw[sizeLine_eq];lia) (Zh (Yx (Array.size_push ..)) (by rw[sizeLine_eq];lia)))
  grind[wpAny_pure,ksk_snoc,Heap.get?_update_ne]
 case done =>
  rintro s' ⟨h',tk,q,e,rfl,L,m,H⟩;have J:IntsAre q.toList kz:=by
   grind[List.take_of_length_le]
  try dsimp only
  refine Za (listItems_at m rfl ?_);exact Tk J N C F m () λB h2 p u k2 g=>by grind
def Tn {a:Addr}{f:Value}{l:Yf}{kz:Yh}{n:Nat}{P:PySem.Fin->YC}(m:s.heap.get? a=some (seqObj "list" l.toArray n))(F:kz.length=l.length)(x:l.length<1000)
 (B:∀(i:Nat) v k,l[i]? = some v->kz[i]? = some k->∀h tk,(∀b o,b≠a->s.heap.get? b=some o->h.get? b=some o) ->
  YJ prog w A (call f [v]) (λr s'=>∃t y,r=.int k t/\s'={ s with heap:=h,toks:=y }) (λ_ _=>False) { s with heap:=h,toks:=tk })
 (h:∀q h' tk,Pl l.length q l.length->Up (λi j=>decide (kz.getD i 0<kz.getD j 0)) q l.length->(∀b o,b≠a->s.heap.get? b=some o->h'.get? b=some o)->(∃c,h'.get? a=some (seqObj "list" (q.map (j8 l)) c))->P (.done (.ret .none)) { s with heap:=h',toks:=tk }):
 YJ prog w A (ksk_tree a f false) P E s:=by
 have G:a<s.heap.objs.size:=Zk m;obtain⟨C,ho1⟩:∃C,(s.heap.update a (Obj.mapSeq λ_=>(#[]:Yn))).get? a=some (seqObj "list" #[] C):=⟨_,get?_update_seq m λ_ => #[]⟩;have z:((s.heap.update a (Obj.mapSeq λ_=>(#[]:Yn))).push (seqObj "tuple" l.toArray 0)).objs.size=s.heap.objs.size+1:=by simp
 unfold ksk_tree;refine Za (listItems_at m rfl ?_);refine Za (listUpdate_at m rfl ?_ (by rw[Zm,sizeLine_eq];lia) (Ua _));refine Za (seqEpoch_at ho1 rfl (Za (wpAny_newTuple ?_ (by show l.length<=_;rw[sizeLine_eq];lia))));refine Za (wpAny_newList (wpAny_holding ?_) (Ua _));have H:∀{b o},s.heap.get? b=some o->b≠s.heap.objs.size/\b≠s.heap.objs.size+1:=λe=>⟨Zi (Zk e),Zi (UF (Zk e))⟩;have keep:∀b o,b≠a->s.heap.get? b=some o->(((s.heap.update a (Obj.mapSeq λ_=>(#[]:Yn))).push (seqObj "tuple" l.toArray 0)).push (seqObj "list" #[] 0)).get? b=some o:=λb o I e=>by
  grind[Heap.get?_push_of_some,Heap.get?_update_ne]
 refine Tl
  F x (by rw[z];exact UJ (UF G)) (Zr _ rfl) (Zq _ (Zq _ ho1))
  ()
  (λq h' tk p u J g=>())
end
section
variable {X:Cx}
def HS:YE->Hp->VK->Prop:=λe H Q=>∃a ys rs,e=[.ref a]/\Rd H a (.lst ys)/\qm H (rs.map rD) ys/\rs.Pairwise (λa b=>j7 a b=true)/\rs.length<1000/\(∀r∈rs,r.length<=1000) /\
 ∀l c,H l=none->(∀G,qm G (rs.map rD) ys->qm G ((JS yZ rs).map rD) c)->Q (.ref l) (upd H l (.lst c))
def Tp {Y:Yb}{Z: St}{H:Hp}{s:Shared}{a:Addr}{ys:YE}{rs:Jz}{Q:VK}(I:Inv X Y Z H s)(U:Rd H a (.lst ys))(P:qm H (rs.map rD) ys)(hs:rs.Pairwise (λa b=>j7 a b=true))(h64:rs.length<1000)(C:∀r∈rs,r.length<=1000)
 (q:∀l S,H l=none->(∀G,qm G (rs.map rD) ys->qm G ((JS yZ rs).map rD) S)->Q (.ref l) (upd H l (.lst S))):
 YI X (call (.builtin "sorted") [.ref a] [(Str.ofString "key",.builtin "len")]) (EP X Y Z Q) X.xe s:=by
 obtain⟨its,E,pl,hz⟩:=I.list (.inl U);have l1:=P.length;have l2:=E.length;rw[Zql] at l1;have F:its.length=rs.length:=()
 have hl:=pl.isList;have keep:∀b o,s.heap.get? b=some o->(((s.heap.push (seqObj "list" #[] 0)).update s.heap.objs.size (Obj.mapSeq (· ++ its.toArray))).push (seqObj "list" its.toArray 0)).get? b=some o:=λb o q=>by
  have w:b<s.heap.objs.size:=Zk q;refine Zq _ ?_;rw[Heap.get?_update_ne _ _ _ _ (Zi w),Heap.get?_push_ne _ _ _ (Zi w)];exact q
 have hsz:((s.heap.push (seqObj "list" #[] 0)).update s.heap.objs.size (Obj.mapSeq (· ++ its.toArray))).objs.size=s.heap.objs.size+1:=by
  simp
 have h:(((s.heap.push (seqObj "list" #[] 0)).update s.heap.objs.size (Obj.mapSeq (· ++ its.toArray))).push (seqObj "list" its.toArray 0)).get? (s.heap.objs.size+1)=some (seqObj "list" its.toArray 0):=by
  rw[<- hsz];exact Zr _ rfl
 refine call_function_entry_kw kind_sorted plain_sorted entry_sorted (ksk_s1 _ _) ?_;unfold Builtin.«sorted»;refine Za (m:=checkCount "sorted" 1 1 _) (Zb ?_);refine Za (collect_list hl ?_ (by rw[F,sizeLine_eq];lia));refine Za (wpAny_newList ?_ (by rw[F,sizeLine_eq];lia));show wpAny _ _ _ _ _ { s with heap:=((s.heap.push (seqObj "list" #[] 0)).update s.heap.objs.size (Obj.mapSeq (· ++ its.toArray))).push (seqObj "list" its.toArray 0) };rw[hsz];generalize hH:((s.heap.push (seqObj "list" #[] 0)).update s.heap.objs.size (Obj.mapSeq (· ++ its.toArray))).push (seqObj "list" its.toArray 0)=hp at keep h;refine Za (wpAny_holding (wpAny_call_entry_kw slot_list_sort ⟨_,h,rfl⟩ entry_list_sort ?body (ksk_l1 _ _)))
 case body =>
  show wpAny (model X.prog X.w) X.A.in1.in1 (Builtin.«list.sort» ⟨[.ref (s.heap.objs.size+1)],[(Str.ofString "key",.builtin "len")]⟩) _ _ _;rw[ksk_t4];refine Tn (s:={ s with heap:=hp }) (kz:=rs.map λr=>(r.length:Int)) h () () (λi v k y hk h' tk J=>?_) λn h' tk p u J g=>⟨_,rfl,Zb ⟨_,rfl,?_⟩⟩
  .have f:i<rs.length:=by
    have:=(Je.mp hk).1
    rwa [Zql] at this
   obtain⟨x,t,hI⟩:=P.get (i:=i) (d:=rD (rs.getD i [])) (by rw[Zv,Zqg f,Qj (Zqg f)];rfl);obtain⟨v',z,A⟩:=E.get t;rw[y] at z;obtain rfl:=Zqi z;obtain⟨b,o,K,m,R⟩:=CC I.hok hI A;obtain rfl:v=Value.ref b:=R.isv;have hb:b≠s.heap.objs.size+1:=Zi (UF (Zk R.get));have ht:IsTup h' b K.toArray:=⟨o,J b o hb (keep b o R.get),R.cls,m,R.dat⟩;have L:K.length=(rs.getD i []).length:=R.prs.1;have ek:k=((rs.getD i []).length:Int):=by
    simp_all
   have T:(rs.getD i []).length<=1000:=by
    rw[Qj (Zqg f)];exact C _ (UC f)
   have ev:Value.int ((K.toArray.size:Nat):Int) (tk+1)=Value.int k (tk+1):=by simp_all
   exact len_tuple (s:={ s with heap:=h',toks:=tk }) ht (by rw[Zm,L];lia) ⟨tk+1,tk+1+1,ev,rfl⟩
  .obtain⟨c,g⟩:=g;have M:∀b o,s.heap.get? b=some o->h'.get? b=some o:=λb o e=>J b o (Zi (UF (Zk e))) (keep b o e);rw[F] at p u;have ud:(λi j=>decide ((rs.map λr=>(r.length:Int)).getD i 0<(rs.map λr=>(r.length:Int)).getD j 0))=λi j=>decide (((rs.getD i []).length:Int)<((rs.getD j []).length:Int)):=by
    have e:∀i,(rs.map λr=>(r.length:Int)).getD i 0=((rs.getD i []).length:Int):=λi=>by
     rw[Uq,Zv,Uq];cases rs[i]?<;>rfl
    funext i j
    rw[e,e]
   rw[ud] at u;have sp:=Th hs p u;have B:s.heap.objs.size<=s.heap.objs.size+1:=Nat.le_succ _;have N:∀i∈n.toList,∃x v,ys[i]? = some x/\its[i]? = some v/\jy x v:=λi f=>by
    have hn:=p.mem f;obtain⟨x,t⟩:∃x,ys[i]? = some x:=⟨ys[i]'(),()⟩;obtain⟨v,y,A⟩:=E.get t;exact⟨x,v,t,y,A⟩
   have O:=q (s.heap.objs.size+1) (n.toList.map λi=>ys.getD i .non) (I.hok.fresh B) λG hG=>by
    have:=Bk hG n.toList λi f=>p.mem f;rw[sp] at this;exact this
   refine⟨.ref (s.heap.objs.size+1),upd H (s.heap.objs.size+1) (.lst (n.toList.map λi=>ys.getD i .non)),I.laid (a:=s.heap.objs.size+1) (o:=.lst (n.toList.map λi=>ys.getD i .non)) (t':=tk) M B ⟨?_,n.toList.map (j8 its),c,?_,?_⟩,rfl,O⟩
   .rw[Zql,p.len];exact Ke ()
   .refine Xs λi f=>?_;obtain⟨x,v,t,y,A⟩:=N i f;unfold j8;rw[Qj t,Qj y];exact A
   .rw[g]
    congr 3
    apply Vm;simp
def pe_sortLen (i:Gl X "sorted")(j:X.mg "sorted" = none)(b:Gl X "len")(c:X.mg "len" = none)(l:PA X [e] t)
 (m:backTo pos (starEach [e] X.env)=(false,eval e X.env)::backTo pos (starEach [] X.env):=by rfl) (f:(backTo pos (starEach [e] X.env)).any (·.1)=false:=by rfl):PE X (.Call (.Name "sorted" p) [e] [⟨some "key",.Name "len" lp,kp⟩] pos) (wl HS t):=by
 intro Y s Z H Q I h;refine wpAny_Call_Name_kw (WE I i j (show bootBuiltins "sorted" = some (.builtin "sorted") by kernel_rfl) ?_ (by decide) (by decide));refine callWith_kw (jG (l pos Y s Z H _ I h) λA B ⟨C,E,g,n,o⟩=>(kws_cons (WE g b c boot_len (kws_nil ?_) (by decide) (by decide)))) m f;obtain⟨a,ys,rs,rfl,r,v,w,x,y,q⟩:=o;obtain⟨u,rfl,z⟩:=Q6 n;obtain rfl:=z;exact Tp g r v w x y q
end
end L2.ST
namespace L2.DL
open PySem PySem.Spec PyProof.Rows L2.ST
def Z7:YG->YH
 | [.lst ds]=>(Q3 K6 ds).bind λrs=>if rs.Pairwise (λa b=>j7 a b=true)/\rs.length<1000/\∀r∈rs,r.length<=1000 then some (.lst ((JS yZ rs).map jv)) else none
 |_=>none
section
variable {X:Cx}{E:XK}{fr:FA}{es:Ym}{e:Expr}
def Tq (h:∀{g:TA},PA X es g->PE X e (wl HS g))(m:QA X E es fr):QN X E e (jn Z7 fr):=PE.weak (h m) λZ H Q o=>by
 obtain⟨B,F,sd,r,n⟩:=o;refine⟨B,F,sd,r,(ja n).mono (λds p y i A b s=>?_) λ_ _ q=>q⟩;obtain⟨z,hz,q⟩:=jg p;unfold Z7 at hz
 split at hz
 .obtain⟨rs,t,hz⟩:=Jf.mp hz
  split at hz
  .rename_i c;obtain rfl:=Zqi hz;obtain⟨v,rfl,h⟩:=Qs s;rw[CL t,jk] at h;obtain⟨a,ys,rfl,u,j⟩:=h;exact⟨a,ys,rs,rfl,u.same b.fh,zX.mp (jd.same b.fh _ _ j),c.1,c.2.1,c.2.2,λl w f x=>((q.ext b) l i _ (.keep b.fh f _) f (Qk b.fh f) ⟨w,JK,zX.mpr (x i (zX.mp j))⟩)⟩
  .exact J3 hz
 simp_all
end
def Tr (h:rs.Pairwise (λa b=>j7 a b=true))(c:rs.length<1000)(e:∀r∈rs,r.length<=1000):Z7 [.lst (rs.map jv)]=some (.lst ((JS yZ rs).map jv)):=by
 show(Q3 K6 (rs.map jv)).bind _=_
 simp_all [AK]
end L2.DL
namespace L2
def Ts:typeLookup (.type "list_reverseiterator") "__len__" = pure none:=by rw[typeLookup_type,builtinLookup_eq_fast];kernel_rfl
def Tt:typeLookup (.type "list_reverseiterator") "__length_hint__" = pure (some (.builtin "list_reverseiterator.__length_hint__")):=by rw[typeLookup_type,builtinLookup_eq_fast];kernel_rfl
section
variable {prog:Program}{w:World}{A:Around}{E:Ya}{s:Shared}
def Tu (e:s.TypeIs (.ref r) "list_reverseiterator")(h:Q false s):YJ prog w A (Builtin.List.listLengthHint (.ref r)) Q E s:=by
 unfold Builtin.List.listLengthHint;refine Za (wpAny_specialOf e Ts ?_);dsimp only;rw[Ze (by decide +kernel),Ze (by decide +kernel)];show wpAny _ _ (specialOf (Value.ref r) (Str.ofString "__length_hint__") >>= _) _ _ _;refine Za (wpAny_specialOf e Tt ?_);generalize c:("list_reverseiterator.__length_hint__" : String)=id0
 wp_delta
 rw[show splitId id0=some ("list_reverseiterator", "__length_hint__") from by subst c;decide +kernel];subst c;refine Za (wpAny_isInstance (T:= "list_reverseiterator") (b:=true) e (by rw[isSubtype_type];kernel_rfl) ?_);refine wpAny_ite_split (λa=>Zn a (by decide)) (λ_=>?_);refine wpAny_ite_split (λ_=>?_) (λa=>Zn (by decide +kernel) a);refine wpAny_ite_split (λa=>Zn a (by decide +kernel)) (λ_=>?_);exact Zb h
variable {it a:Addr}{items:Yn}
def Tv (H:A.handled=none)(x:a≠it)(l:s.heap.IsRevIter it a ((items.size:Int)-1))(I:s.heap.IsList a items)(S:Addr)(n:S≠it)(q:S≠a)(m:Value)(c₀:Nat)(j:s.heap.get? S=some { cls:=.type "list",data:=.seq #[] c₀ })
 (J:∀h' tk g p,(∀b o,b≠S->b≠it->s.heap.get? b=some o->h'.get? b=some o)->h'.get? S=some { cls:=.type "list",dict:=none,data:=.seq g p,slots:=#[] }->ItemsOf (λi v=>items[items.size-1-i]? = some v) g items.size->R (.ok (.ret m)) { s with heap:=h',toks:=tk }) (K:items.size<=sizeLine):
 wpAny (model prog w) A.in1 (Builtin.List.listExtendWith (.ref S) (.ref it) m)
  (λy s'=>match y with | .done f=>R (.ok f) s' | .again p=>p.quiet=true/\codeAny (model prog w) A p R s') (λe s'=>R (.error e) s') s:=by
 have W:=Walks.listRev (prog:=prog) (w:=w) (A:=A.in1) H it a x items;have z:S ∉ [it,a]:=by simp only[UI,UT,or_false,not_or];exact⟨n,q⟩
 have r:∀(h:Heap) (c₁ tk:Nat),(∀b o,b≠S->s.heap.get? b=some o->h.get? b=some o) ->
  h.get? S=some { cls:=.type "list",data:=.seq #[] c₁ }->codeAny (model prog w) A (.builtin "list.extend.loop" ⟨[.ref S,.ref it,m],[]⟩) R { s with heap:=h,toks:=tk }:=by
  intro h c₁ tk B hS₁;refine codeAny_extend_loopS W.toS K S z m items.size 0 _ #[] c₁ rfl (Ua _) ⟨Ua _,?_,I.at λo e=>B a o q.symm e⟩ hS₁ (ItemsOf.nil _) λs' g p G C t=>?_
  .have e:(items.size:Int)-1-((0:Nat):Int)=(items.size:Int)-1:=()
   rw[e];exact l.at λo e=>B it o n.symm e
  .rw[Moved.eq_with G];refine J s'.heap s'.toks g p (λb o u F e=>G.heap b o (λhmem=>?_) (B b o u e)) C t;rcases UI.mp hmem with e'|hmem
   .exact u e'
   .exact F (Jc.mp hmem)
 unfold Builtin.List.listExtendWith;refine Za (wpAny_typeOf (T:= "list_reverseiterator") l.typeIs ?_);have L:Builtin.List.listSameRef (.ref S) (.ref it)=false:=by simp[Builtin.List.listSameRef,n]
 have M:(Value.type "list_reverseiterator" == Value.type "list")=false:=by decide
 have N:(Value.type "list_reverseiterator" == Value.type "tuple")=false:=by decide
 simp only[L,M,N,Bool.or_false,UB,if_false];refine Za (wpAny_pyIter_revIter l ?_);refine Za (wpAny_holding (Tu l.typeIs ?_));refine wpAny_ite_split (λ_=>?_) (λ_=>Zb ⟨plainId_quiet PySem.F.plain_extend_loop _,r _ c₀ _ (λb o _ e=>e) j⟩);refine Za (wpAny_rule ?_);refine Za ?_;show wpAny _ _ (updateSeq S (·.push .none) >>= λ_=>updateSeq S (·.pop)) _ _ _;refine Za (wpAny_updateSeq j rfl ?_);have hS₂:=Heap.get?_update_self (Obj.mapSeq (·.push Value.none)) j rfl;refine wpAny_updateSeq (hz:=by seq_fits) hS₂ rfl ?_;have hS₃:=Heap.get?_update_self (Obj.mapSeq (·.pop)) hS₂ rfl;refine Zb ⟨plainId_quiet PySem.F.plain_extend_loop _,r _ _ _ (λb o u e=>?_) hS₃⟩;exact(Heap.get?_update_other _ _ (Ne.symm u)).trans ((Heap.get?_update_other _ _ (Ne.symm u)).trans e)
def Tw (C:A.handled=none)(r:a≠it)(t:s.heap.IsRevIter it a ((items.size:Int)-1))(F:s.heap.IsList a items)(S:Addr)(j:S≠it)(l:S≠a)(m:s.heap.get? S=some { cls:=.type "list",data:=.seq #[] })
 (G:∀h' tk g p,(∀b o,b≠S->b≠it->s.heap.get? b=some o->h'.get? b=some o)->h'.get? S=some { cls:=.type "list",dict:=none,data:=.seq g p,slots:=#[] }->ItemsOf (λi v=>items[items.size-1-i]? = some v) g items.size->R (.ok (.ret .none)) { s with heap:=h',toks:=tk }) (H:items.size<=sizeLine):
 wpAny (model prog w) A.in1 (Builtin.«list.__init__» ⟨[.ref S,.ref it],[]⟩)
  (λu s'=>match u with | .done f=>R (.ok f) s' | .again p=>p.quiet=true/\codeAny (model prog w) A p R s') (λe s'=>R (.error e) s') s:=by
 show wpAny _ _ (do let x <- Builtin.List.listItems (.ref S);Builtin.List.listUpdate (.ref S) (λ_ => #[]);letGo x.toList.reverse;Builtin.List.listExtendWith (.ref S) (.ref it) .none) _ _ s;refine Za ?_;unfold Builtin.List.listItems;refine Za (wpAny_seqItems m rfl (Zb ?_));show wpAny _ _ (updateSeq S (λ_ => #[]) >>= λ_=>letGo (#[]:Yn).toList.reverse >>= λ_=>Builtin.List.listExtendWith (.ref S) (.ref it) .none) _ _ s;refine Za (wpAny_updateSeq m rfl ?_);have hS₂:=Heap.get?_update_self (Obj.mapSeq (λ_=>(#[]:Yn))) m rfl;have h:∀b o,b≠S->s.heap.get? b=some o->(s.heap.update S (Obj.mapSeq (λ_=>(#[]:Yn)))).get? b=some o:=
  λb o q e=>(Heap.get?_update_other _ _ (Ne.symm q)).trans e
 refine Za (wpAny_letGo ?_);refine Tv C r (t.at λo e=>h it o j.symm e) (F.at λo e=>h a o l.symm e) S j l .none _ hS₂ (λh' tk y c I z n=>?_) H;exact G h' tk y c (λb o q B e=>I b o q B (h b o q e)) z n
def Tx (r:A.handled=none)(m:a≠it)(g:s.heap.IsRevIter it a ((items.size:Int)-1))(p:s.heap.IsList a items)(t:items.size<=sizeLine)
 (u:∀h' tk f c,(∀b o,b≠it->s.heap.get? b=some o->h'.get? b=some o)->h'.get? s.heap.objs.size=some { cls:=.type "list",dict:=none,data:=.seq f c,slots:=#[] }->ItemsOf (λi v=>items[items.size-1-i]? = some v) f items.size->Q (.ref s.heap.objs.size) { s with heap:=h',toks:=tk }):
 YJ prog w A (call (.type "list") [.ref it]) Q E s:=by
 refine callType_codes (Q₁:=λj s₁=>j=.ref s.heap.objs.size/\s₁={ s with heap:=s.heap.push { cls:=.type "list",data:=.seq #[] } }) PySem.F.called_list (PySem.F.typeCall_list_1 _) PySem.F.entry_list_init
  (code_list_new _ ⟨rfl,rfl⟩) λj s₁ h₁=>?_
 obtain⟨rfl,rfl⟩:=h₁;have q:(s.heap.push { cls:=.type "list",data:=.seq #[] }).get? s.heap.objs.size=some { cls:=.type "list",data:=.seq #[] }:=Zr _ rfl;have x:it<s.heap.objs.size:=let ⟨_,ho,_⟩:=g;Zk ho
 have y:a<s.heap.objs.size:=let ⟨_,ho,_⟩:=p;Zk ho
 refine⟨⟨_,q,rfl⟩,PySem.F.args_list_init_2 _ _,Tw (A:=A.in1) r m (g.at λo e=>Zq _ e) (p.at λo e=>Zq _ e) _ (UJ x) (UJ y) q (λh' tk f c z n l=>?_) t⟩;exact⟨rfl,u h' tk f c (λb o B e=>z b o (Zi (Zk e)) B (Zq _ e)) n l⟩
end
def wo (H:Hp)(a:Addr):Hp:=λb=>if b=a then none else H b
def HU:wo H a a=none:=Zd rfl
def XE (h:b≠a):wo H a b=H b:=Ze h
def Tz (h:H a=none):wo (upd H a o) a=H:=by
 funext b
 unfold wo upd
 split
 .rename_i e;rw[e,h]
 .rfl
section
variable {X:Cx}{Y:Yb}{Z: St}{H:Hp}{s:Shared}{h':Heap}
def Inv.forget (I:Inv X Y Z H s)(h:H it=some (.ext φ)):Inv X Y Z (wo H it) s:=by
 refine I.step (h':=s.heap) (g':=s.gens) (d':=s.drawn) (t':=s.toks) (ch:=[]) (λb a=>nomatch a) (λb o _ _ _ e _=>e) (λb o _ _ _ e _=>⟨o.slots,e⟩) (λb o _ _ n=>?_) (λb o _ e=>⟨o,e⟩) (λb f e=>?_) (λb o u e=>?_) (λb ps e=>⟨#[],?_⟩) (λm g=>g) (λb u e=>?_) I.bare
 .unfold wo;split
  .rfl
  .exact n
 .rw[XE λz=>by rw[z,h] at e;cases e];exact e
 .rw[XE λz=>by rw[z,h] at e;cases e];exact e
 .rw[XE (λz=>by rw[z,h] at e;cases e),e];simp
 .have nb:b≠it:=λz=>by rw[z,HU] at e;exact J3 e
  rw[XE nb] at e;refine(I.hok b u e).stay (λ_ _ _ q=>q) (λc q=>?_) λc f q=>?_
  .rw[XE λz=>by rw[z,h] at q;cases q];exact q
  .rw[XE λz=>by rw[z,h] at q;cases q];exact q
def Inv.fpOf (I:Inv X Y Z H s)(h:H it=some o)(hz:X.s₀.heap.objs.size<=it):xc X Y (wo H it) it:=by
 refine⟨HU,λz=>?_,λz=>?_,.inr hz,λx c e z=>?_,λp hp z=>?_⟩
 .rw[z,I.free] at h;exact J3 h
 .obtain⟨_,a,b,_⟩:=I.ok.funs.mem z;rw[I.base.free it a b (I.ok.frf it z) λy=>I.ok.exfs it y z] at h;exact J3 h
 .rw[<- z,I.freeC x c e] at h;exact J3 h
 .rw[<- z,(I.pin p hp).2.1] at h;exact J3 h
end
section
variable {X:Cx}
def vw (X:Cx)(it a:Addr)(n:Nat):HO:=.ext λh=>h.IsRevIter it a ((n:Int)-1)/\X.s₀.heap.objs.size<=it
def HV (X:Cx):YE->Hp->VK->Prop:=λb H Q=>∃a ys,b=[.ref a]/\qE X.K H a ys/\∀it,H it=none->Q (.ref it) (upd H it (vw X it a ys.length))
def HW (X:Cx):YE->Hp->VK->Prop:=λb H Q=>∃it a ys,b=[.ref it]/\H it=some (vw X it a ys.length)/\qE X.K H a ys/\∀l,H l=none->Q (.ref l) (upd (wo H it) l (.lst ys.reverse))
def call_reversed:jO X (.type "reversed") (HV X):=by
 intro Y s Z H l m Q I r h;obtain⟨a,ys,rfl,f,q⟩:=h;obtain⟨u,rfl,g⟩:=Q6 r;cases g;obtain⟨its,i,pl,hz⟩:=I.list f;have c:=i.length;have sz:its.toArray.size=ys.length:=by simp only[Zm];lia
 refine call_reversed_list pl.isList ?_;rw[sz];have e:(s.heap.push (revObj a ((ys.length:Int)-1))).get? s.heap.objs.size=some (revObj a ((ys.length:Int)-1)):=Zr _ rfl;refine⟨.ref s.heap.objs.size,_,I.laid (t':=s.toks) (λb o e=>Zq _ e) (Zf _) ?_,rfl,q _ (I.hok.fresh (Zf _))⟩;exact⟨⟨⟨_,e,rfl,rfl⟩,I.sz⟩,⟨_,e⟩,λn p z j=>⟨z.1.at j,z.2⟩⟩
def T1 (r:jq ys its):∀{b:Yn},ItemsOf (λi v=>its.toArray[its.toArray.size-1-i]? = some v) b its.toArray.size->jq ys.reverse b.toList:=by
 intro b h;have e:b.toList=its.reverse:=by
  refine VF λi=>?_;have sz:b.size=its.length:=by rw[h.1,Zm]
  by_cases f:i<its.length
  .have c:=h.2 i (b[i]'()) (Us ());rw[Zm,List.getElem?_toArray] at c;rw[Vb,Us (),List.getElem?_reverse f,c]
  .rw[Vr (by rw[Ul];lia),Vr (by rw[List.length_reverse];lia)]
 rw[e];clear e h
 induction r with
 |nil=>exact .nil
 |cons a r g =>
  rw[Vz,Vz];exact jq.append g (.cons a .nil)
def call_listRev (w:X.calm=true):jO X (.type "list") (HW X):=by
 intro Y s Z H K L Q I r h;obtain⟨it,a,ys,rfl,f,x,q⟩:=h;obtain⟨u,rfl,y⟩:=Q6 r;cases y;obtain⟨its,p,pl,hz⟩:=I.list x;have t:=p.length;obtain⟨⟨v,A⟩,⟨o,l⟩,_⟩:=(show xL X.prog X.w H s.heap it (vw X it a ys.length) from I.hok it _ f);have sz:its.toArray.size=ys.length:=by simp only[Zm];lia
 have m:a≠it:=R5 pl.isList l (by
  obtain⟨M,i,c,_⟩:=v;rw[l] at i;obtain rfl:=Zqi i;rw[c];decide)
 refine Tx (I.ok.hd w) m (by rw[sz];exact v) pl.isList (by rw[sz];exact hz) λh' tk g c B C j=>?_;have lt:it<s.heap.objs.size:=Zk l;have E:=(I.forget f);have F:=I.fpOf f A;have G:=T1 p j;have sn:s.heap.objs.size≠it:=UJ lt;have J:Inv X Y Z (upd (wo H it) s.heap.objs.size (.lst ys.reverse)) { s with heap:=s.heap.push { cls:=.type "list",dict:=none,data:=.seq g c,slots:=#[] },toks:=s.toks } :=
  E.laid (t':=s.toks) (λb o e=>Zq _ e) (Zf _) ⟨by rw[List.length_reverse];exact hz,g.toList,c,G,Zr _ rfl⟩
 refine⟨.ref s.heap.objs.size,_,Inv.turnedL (s:={ s with heap:=s.heap.push { cls:=.type "list",dict:=none,data:=.seq g c,slots:=#[] },toks:=s.toks }) (h':=h') (t':=tk) (ch:=[it]) J (λb o n e=>?_) λb n=>?_,rfl,q _ (I.hok.fresh (Zf _))⟩
 .rcases Heap.get?_push_cases e with ⟨rfl,rfl⟩|e
  .exact C
  .exact B b o (λz=>n (by simp[z])) e
 .rw[Jc.mp n];exact F.upd (Ne.symm sn)
end
end L2
namespace L2.DL
def Z8:YG->YH
 | [.lst ds]=>some (.lst ds.reverse)
 |_=>none
theorem jd.rev {K:W.Frag}{H:Hp}:∀{ds:YG} {a:YE},jd K H ds a->jd K H ds.reverse a.reverse
 | [],a,h=>by rw[jd.nil_iff] at h;subst h;exact .nil
 |d::ds,a,h=>by
  rw[js] at h;obtain⟨x,r,rfl,b,c⟩:=h;rw[Vz,Vz];exact(jd.rev c).snoc b
section
variable {X:Cx}{E:XK}{fr:FA}{es:Ym}{e:Expr}
def T2 (h:∀{i:TA},PA X es i->PE X e (wl (HW X) (Ai (wl (HV X) i) wf)))(o:QA X E es fr):QN X E e (jn Z8 fr):=PE.weak (h o) λZ H Q p=>by
 obtain⟨B,F,sd,r,n⟩:=p;refine⟨B,F,sd,r,(ja n).mono (λds s y t u c w=>?_) λ_ _ q=>q⟩;obtain⟨z,hz,q⟩:=jg s;unfold Z8 at hz
 split at hz
 .obtain rfl:=Zqi hz;obtain⟨v,rfl,h⟩:=Qs w;rw[jk] at h;obtain⟨a,ys,rfl,j,x⟩:=h;refine⟨a,ys,rfl,(j.same c.fh).sq,λit m=>⟨it,a,ys,rfl,JK,?_,λl f=>?_⟩⟩
  .exact xb.sq ((j.same c.fh).same (K4 m _))
  .rw[Tz m];have g:l≠it:=λz=>by rw[z,JK] at f;cases f
   have b:u l=none:=by rw[JG g] at f;exact f
   exact(q.ext c) l t _ (.keep c.fh b _) b (Qk c.fh b) ⟨ys.reverse,JK,jd.rev x⟩
 .exact J3 hz
end
def T3:bootBuiltins "reversed" = some (.type "reversed"):=by kernel_rfl
end L2.DL
namespace L2
def xL.has {P:Program}{w:World}{H:Hp}{h:Heap}{a:Addr}{o:HO}(x:xL P w H h a o):∃u,h.get? a=some u:=by
 cases o with
 |lst c=>obtain⟨_,_,_,_,e⟩:=x;exact⟨_,e⟩
 |tup c=>obtain⟨_,_,_,o,e,_⟩:=x;exact⟨_,e⟩
 |dK b=>obtain⟨_,_,_,_,o,_,_,e,_⟩:=x;exact⟨_,e⟩
 |dT b=>obtain⟨_,_,_,_,o,_,_,e,_⟩:=x;exact⟨_,e⟩
 |set S n=>obtain⟨o,_,_,_,e,_⟩:=x;exact⟨_,e⟩
 |ins C g fs=>exact⟨_,x.2.2.2.1⟩
 |own y=>exact x
 |xd fs=>obtain⟨_,⟨_,_,_,e,_⟩,_⟩:=x;exact⟨_,e⟩
 |rng lo i=>obtain⟨_,_,_,e⟩:=x;exact⟨_,e⟩
 |frz j u=>exact⟨_,x.1⟩
 |tbl ps=>exact⟨_,x⟩
 |met f y=>exact⟨_,x⟩
 |ext φ => exact x.2.1
structure FlyAt (l:List Env)(h₀:Heap)(H:Hp)(x C:Addr)(B h:Heap):Prop where
 fly:∃t,Heap.FlyingW B l x (.ref C) (.ref t) h
 trk:∀b o,h.get? b=some o->(H b≠none\/((∃u,h₀.get? b=some u)/\b∉xh l))->B.get? b=some o
def x9 (P:Program)(w:World):zk:=λa H s E e s'=>∃b x C B,e=.ref x/\s'.os=s.os/\AllBare s'.gens/\Un (xh a) [] H b s.heap s'.heap/\qP P w b s'.heap/\FlyAt a s.heap b x C B s'.heap/\E (.ref C) none b
structure Thrown (X:Cx)(E:XK):Prop where
 on:∀(Y:Yb) (Z: St) (H:Hp) (s:Shared) (h₀:Heap) (x C:Addr) (B:Heap),Inv X Y Z H s->(∀b u,X.s₀.heap.get? b=some u->b∉X.ex->∃u',h₀.get? b=some u')->FlyAt X.stack h₀ H x C B s.heap->E (.ref C) none H->X.xe (.ref x) s
structure Raises (X:Cx)(E:XK):Prop where
 new:∀(Y:Yb) (Z: St) (H:Hp) (s:Shared) (h':Heap) (x C:Addr) (args:Yf),Inv X Y Z H s->Heap.MadeExcOf s.heap h' x (.ref C) args->E (.ref C) none H->X.xe (.ref x) { s with heap:=h' }
def Thrown.passes {X:Cx}{E:XK}(T:Thrown X E):Xk (x9 X.prog X.w) X E:=by
 intro Y Z H s e s' I ⟨c,x,C,B,f,os,bare,un,a,g,h⟩;subst f;exact T.on Y Z c s' s.heap x C B (I.call' os un a bare ()) (λb u e i=>I.base.there b u e i) g h
section
variable {P:Program}{w:World}{K:W.Frag}{mg:Ye}{base:Heap}{N:Yk}{qual:Str}{scope:Scope}{f:Addr}{cd:Value}{A:Around}{outer:List Env}{s:Shared}{H:Hp}{E:XK}
def Dy {Y:Yb}{Z: St}{m:Hp}{s':Shared}{h₀ g B:Heap}{x C t:Addr}(I:Inv (qf (x9 P w) P w K mg base N qual scope f cd A outer s H E) Y Z m s')
 (U:∀b u,s.heap.get? b=some u->∃J,h₀.get? b=some J) (p:Heap.FlyingW B outer x (.ref C) (.ref t) g) (L:s'.heap.UpToSlots g)
 (trk:∀b o,s'.heap.get? b=some o->(m b≠none\/((∃u,h₀.get? b=some u)/\b∉xh (envOfC qual scope s.heap.objs.size f cd::outer)))->B.get? b=some o) (M:E (.ref C) none m):
 x9 P w outer H s E (.ref x) { s' with heap:=g }:=by
 have O:∀b u,s.heap.get? b=some u->b∉xh outer->b∉xh (envOfC qual scope s.heap.objs.size f cd::outer):=λb u e l z=>by
  have z:=z;rcases UI.mp z with q|q
  .exact Zn (Zk e) (by rw[q];exact Zy _)
  .exact l q
 have a:∀b:Addr,b∉(qf (x9 P w) P w K mg base N qual scope f cd A outer s H E).ex:=λb z=>Zn (show b∈([]:Yl) from z) ();have keep:∀b o,s'.heap.get? b=some o->(m b≠none\/((∃u,s.heap.get? b=some u)/\b∉xh outer))->B.get? b=some o:=by grind
 have y:∀b o,s.heap.get? b=some o->b∈xh outer->∃F,g.get? b=some { o with slots:=F }:=λb o e l=>by
  obtain⟨F,Q⟩:=I.base.slot b o e (I.ok.frf b l) l (a b);obtain⟨_,i,j,R⟩:=I.ok.funs.mem l;have j:s.heap.get? b=some i:=j;rw[e] at j;obtain rfl:=Zqi j;obtain⟨r,S⟩:=L b _ Q R;exact⟨r,S⟩
 refine⟨m,x,C,B,rfl,I.os,I.bare,⟨λb o e n l _=>?_,(),λb o e n _=>I.base.free b o e n (a b),λb o e _=>?_,I.base.tups,I.base.frzs,I.base.tbls⟩,λb u e=>?_,⟨⟨t,p⟩,λb o e c=>?_⟩,M⟩
 .exact p.1 b o (keep b o (I.base.keep b o e n l (a b)) ())
 .by_cases l:b∈xh outer
  .grind
  .have ⟨i,G⟩:=I.base.there b o e (a b);exact⟨i,p.1 b i ()⟩
 .refine(I.hok b u e).stay (λc v X q=>p.1 c v (keep c v q (.inl ?_))) (λ_ q=>q) λ_ _ q=>q
  grind
 .have T:∃i,s'.heap.get? b=some i:=by
   rcases c with c|⟨⟨u,hu⟩,_⟩
   .cases q:m b with
    |none=>exact Zn q c
    |some u=>exact(I.hok b u q).has
   .exact I.base.there b u hu (a b)
  have ⟨i,G⟩:=T;have:=p.1 b i (keep b i G c)
  grind[Zqi]
def Kx:Thrown (qf (x9 P w) P w K mg base N qual scope f cd A outer s H E) E:=by
 refine⟨λY Z m s' h₀ x C B I i a j=>?_⟩;obtain⟨⟨t,c⟩,trk⟩:=a;have g:∀b:Addr,b∉(qf (x9 P w) P w K mg base N qual scope f cd A outer s H E).ex:=λb z=>Zn (show b∈([]:Yl) from z) ();exact wpAny_leaves_onW I.ok.frames rfl c λh' a l=>Dy I (λb u e=>i b u e (g b)) a l trk j
def T4:Raises (qf (x9 P w) P w K mg base N qual scope f cd A outer s H E) E:=by
 refine⟨λY Z r s' h' x C args I h i=>?_⟩;have g:∀env∈(envOfC qual scope s.heap.objs.size f cd::outer),∀a,env.frame=some a->a∈xh (envOfC qual scope s.heap.objs.size f cd::outer):=λenv j a l=>Jr.mpr ⟨env,j,l⟩;refine wpAny_leaves_madeW I.ok.frames rfl (λb o e=>W.of_hideAll _ e) (W.funFrames_hide I.stack g) h λm t n p v q=>(Dy (s':=s') I (λb u e=>I.base.there b u e (by show b∉([]:Yl);simp)) n ((Heap.UpToSlots.of_keeps h.keeps).trans q) (λb o e c=>(W.hideAll_get _ e λz=>?_)) i);rcases c with c|c
 .exact c (I.stkFree b z)
 simp_all
end
def yo (P:Program)(w:World)(K:W.Frag)(mg:Ye)(a:Heap)(name:Str)(k:Nat)(ps:Yk)(sp:Sp):Prop:=
 ∃f b,FnOk P w K mg a (x9 P w) k f b ps sp/\zp K b ps []/\W.keepIn K (.ref f)=true/\mg name=some (.ref f)
theorem yo.mono {P:Program}{w:World}{K:W.Frag}{mg:Ye}{a:Heap}{name:Str}{j k:Nat}{ps:Yk}{sp:Sp}(c:yo P w K mg a name j ps sp)(h:j<=k):yo P w K mg a name k ps sp:=by
 obtain⟨f,b,F,r⟩:=c;exact⟨f,b,F.mono h,r⟩
section
variable {X:Cx}{E:XK}{name:Str}{k:Nat}{ps:Yk}{sp:Sp}{p pos:Pos}{e:Expr}{es:Ym}{t:TA}
def ZD (c:yo X.prog X.w X.K X.mg X.base name k ps sp)(T:Thrown X E)(h:Room k X.A)(i:Gl X name)(j:PA X (e::es) t)
 (a:(name == ("__debug__" : Str))=false:=by decide) (l:starEach (e::es) X.env=(false,eval e X.env)::starEach es X.env:=by rfl) (g:(backTo pos (starEach es X.env)).any (·.1)=false:=by rfl):
 PE X (.Call (.Name name p) (e::es) [] pos) (Cc sp [] E t):=by
 obtain⟨f,o,F,b,m,n⟩:=c;exact E2 F h i n m b .nil T.passes j a l g
end
def Fun.okX {P:Program}{w:World}{K:W.Frag}{mg:Ye}{e:Heap}{x b:Str}{st:Stmt}{f:Addr}{l:FuncData}{N ps:Yk}{k:Nat}{sp:Sp}(F:Fun K x b st f l)(S:FnScope N ps (JV st))(len:∀g H Q E,sp g H Q E->g.length=ps.length)
 (h:∀c A a s H g Q E,Room k (A.deeper (envOfC b (JV st) s.heap.objs.size f c))->sp g H Q E ->
  ∃t,qO (qf (x9 P w) P w K mg e N b (JV st) f c A a s H E) (QR st) t/\t { nx:=λ_ m=>Q .non m,rt:=Q } (start N g) H):FnOk P w K mg e (x9 P w) (k+1) f l ps sp:=by
 obtain⟨r,u,kV,n,v,y,c,ct,o,rfl,p,i⟩:=F.ex;exact E8 p i S len λA a s H g Q E q j=>h c A a s H g Q E q j
end L2
namespace L2.DL
def x6 (K:W.Frag)(a:YG->Res D):Sp:=λb H Q E=>∃F ds,jl F H/\jd K F ds b/\(a ds).need (yu K F H Q) (XW K E F H)
def ya (K:W.Frag)(a:YG->Res D):Sp:=λb H Q E=>∃F ds,jl F H/\jd K F ds b/\(a ds).need (xP K F H Q) (XW K E F H)
def Res.strict {α: Type}:Res α -> Res α
 | .ok a=>.ok a
 |_=>.no
@[simp]def wa {α: Type}(a:α):(Res.ok a).strict=.ok a:=rfl
def jP {α: Type}{r:Res α}{p:α -> Prop}{q b:Str->YG->Prop}(h:r.strict.need p q):r.need p b:=by
 cases r with
 |ok a=>exact h
 |ex c fs=>exact h.elim
 |no=>exact h
def Km (a:YG->Res D)(b:FA):FE:=λsd=>(b sd).bind λds=>(a ds).strict
@[simp]def gZ (Fn)(fr)(sd):Km Fn fr sd=(fr sd).bind λds=>(Fn ds).strict:=rfl
section
variable {X:Cx}{E:XK}{name:Str}{k:Nat}{ps:Yk}{Fn:YG->Res D}{p pos:Pos}{e:Expr}{es:Ym}{fr:FA}
def Bl (c:yo X.prog X.w X.K X.mg X.base name k ps (x6 X.K Fn))(T:Thrown X E)(g:Room k X.A)(h:Gl X name)(i:QA X E (e::es) fr)
 (a:(name == ("__debug__" : Str))=false:=by decide) (j:starEach (e::es) X.env=(false,eval e X.env)::starEach es X.env:=by rfl) (b:(backTo pos (starEach es X.env)).any (·.1)=false:=by rfl):
 QE X E (.Call (.Name name p) (e::es) [] pos) (J7 Fn fr):=PE.weak (ZD c T g h i a j b) λZ H Q l=>by
 obtain⟨B,F,sd,r,n⟩:=l;refine⟨B,F,sd,r,(ja n).mono (λm o s t u f v=>?_) λ_ _ q=>q⟩;show x6 X.K Fn (s++[]) u Q E;rw[ZA];exact⟨t,m,f.fh,v,AA o f⟩
def XF (c:yo X.prog X.w X.K X.mg X.base name k ps (ya X.K Fn))(T:Thrown X E)(g:Room k X.A)(h:Gl X name)(i:QA X E (e::es) fr)
 (a:(name == ("__debug__" : Str))=false:=by decide) (j:starEach (e::es) X.env=(false,eval e X.env)::starEach es X.env:=by rfl) (b:(backTo pos (starEach es X.env)).any (·.1)=false:=by rfl):
 QN X E (.Call (.Name name p) (e::es) [] pos) (J7 Fn fr):=PE.weak (ZD c T g h i a j b) λZ H Q l=>by
 obtain⟨B,F,sd,r,n⟩:=l;refine⟨B,F,sd,r,(ja n).mono (λm o s t u f v=>?_) λ_ _ q=>q⟩;show ya X.K Fn (s++[]) u Q E;rw[ZA];exact⟨t,m,f.fh,v,CG o f⟩
def uF (c:zV X.prog X.w X.K X.mg X.base name k ps (qN X.K Fn))(g:Room k X.A)(h:Gl X name)(i:QA X E (e::es) fr)
 (a:(name == ("__debug__" : Str))=false:=by decide) (j:starEach (e::es) X.env=(false,eval e X.env)::starEach es X.env:=by rfl) (b:(backTo pos (starEach es X.env)).any (·.1)=false:=by rfl):
 QE X E (.Call (.Name name p) (e::es) [] pos) (Km Fn fr):=PE.weak (Ao c g h i a j b) λZ H Q l=>by
 obtain⟨B,F,sd,r,n⟩:=l;refine⟨B,F,sd,r,(ja n).mono (λm o s t u f v=>?_) λ_ _ q=>q⟩;show qN X.K Fn (s++[]) u Q E0;rw[ZA];exact⟨t,m,f.fh,v,jP (AA o f)⟩
def ZE (c:zV X.prog X.w X.K X.mg X.base name k ps (yD X.K Fn))(g:Room k X.A)(h:Gl X name)(i:QA X E (e::es) fr)
 (a:(name == ("__debug__" : Str))=false:=by decide) (j:starEach (e::es) X.env=(false,eval e X.env)::starEach es X.env:=by rfl) (b:(backTo pos (starEach es X.env)).any (·.1)=false:=by rfl):
 QN X E (.Call (.Name name p) (e::es) [] pos) (Km Fn fr):=PE.weak (Ao c g h i a j b) λZ H Q l=>by
 obtain⟨B,F,sd,r,n⟩:=l;refine⟨B,F,sd,r,(ja n).mono (λm o s t u f v=>?_) λ_ _ q=>q⟩;show yD X.K Fn (s++[]) u Q E0;rw[ZA];exact⟨t,m,f.fh,v,jP (CG o f)⟩
end
section
variable {P:Program}{w:World}{K:W.Frag}{mg:Ye}{base:Heap}{x qual:Str}{f:Addr}{fd:FuncData}{N ps:Yk}{k:Nat}{st:Stmt}
def Bm {g:FS}(F:Fun K x qual st f fd)(S:FnScope N ps (JV st))
 (e:∀b A a s H E,Room k (A.deeper (envOfC qual (JV st) s.heap.objs.size f b))->zn (qf (x9 P w) P w K mg base N qual (JV st) f b A a s H E) E false (QR st) g):
 FnOk P w K mg base (x9 P w) (k+1) f fd ps (x6 K (jA N.length ps.length g)):=by
 refine F.okX S (λi H Q E ⟨F,ds,_,h,n⟩=>?_) λb A a s H i Q E j ⟨F,ds,hs,h,n⟩=>⟨_,e b A a s H E j,?_⟩
 .unfold jA at n
  split at n
  .rw[h.length];lia
  .exact n.elim
 .unfold jA at n
  split at n
  .refine⟨⟨F,H,λ_=>none⟩,F,_,RS.start hs h,(ja n).mono (λo c=>?_) λ_ _ q=>q⟩;cases o with
   |next sd=>exact λZ l m _ r=>c .non l m r.ext (j9.mpr rfl)
   |ret d=>exact c
   |brk sd=>exact c.elim
   |cont sd=>exact c.elim
  .exact n.elim
def Dz {g:FS}(F:Fun K x qual st f fd)(S:FnScope N ps (JV st))
 (e:∀b A a s H E,Room k (A.deeper (envOfC qual (JV st) s.heap.objs.size f b))->zn (qf (x9 P w) P w K mg base N qual (JV st) f b A a s H E) E true (QR st) g):
 FnOk P w K mg base (x9 P w) (k+1) f fd ps (ya K (qd N.length ps.length g)):=by
 refine F.okX S (λi H Q E ⟨F,ds,_,h,n⟩=>?_) λb A a s H i Q E j ⟨F,ds,hs,h,n⟩=>⟨_,e b A a s H E j,?_⟩
 .unfold qd at n
  split at n
  .rw[h.length];lia
  .exact n.elim
 .unfold qd at n
  split at n
  .refine⟨⟨F,H,λ_=>none⟩,F,_,RS.start hs h,(ja n).mono (λo c=>?_) λ_ _ q=>q⟩;cases o with
   |next sd=>exact c.elim
   |ret d=>exact c
   |brk sd=>exact c.elim
   |cont sd=>exact c.elim
  .exact n.elim
end
end L2.DL
namespace L2
def T5 (h:n<1000000):n.log2<20:=by
 by_cases z:n=0
 .simp_all
 .exact(Nat.log2_lt z).mpr (Zg h (by decide))
section
variable {X:Cx}{x:Str}{v e:Expr}{tv:TE}{t:TA}{p1 p2 np cpos pos:Pos}{k}
def mm (x:Str)(tv:TE):TE:=λZ H Q=>tv Z H λy b=>∃a:Int,y=.int a/\a.natAbs<1000000/\Q (.str (Str.empty++x++Str.ofString (toString a))) b
def T6 (A:x.length<=1000)(g:PE X v tv):PE X (.JoinedStr [.Constant (.str x) k p1,.FormattedValue v (-1) none p2] pos) (mm x tv):=by
 intro Y s Z H Q I h;refine wpAny_JoinedStr ?_;have B:(Str.empty:Str).length=0:=rfl;refine jG (Ek Y s Z H (λy b=>y=.str x/\b=H) I ⟨rfl,rfl⟩) λu i ⟨y,b,j,l,c,m⟩=>?_;subst c m;obtain⟨n,rfl⟩:=l;refine⟨x,n,rfl,by grind[strLen_append,sizeLine_eq],wpAny_FormattedValue_plain (jG (g Y i Z b _ j h) λu C ⟨y,o,p,r,a,c,w,q⟩=>?_)⟩;subst c;obtain⟨E,rfl⟩:=r;have z:=T5 w;have F:=int_text_length_le (by decide) z;have f:(Str.empty++x++Str.ofString (toString a)).length<=sizeLine:=by grind[strLen_append,PySem.ofString_length,sizeLine_eq]
 exact wpAny_formatField_int () ⟨_,_,rfl,f,f,⟨.str (Str.empty++x++Str.ofString (toString a)),o,p.tok _,⟨_,rfl⟩,q⟩⟩
structure Exc (K:W.Frag)(mg:Ye)(c:Str)(C:Addr):Prop where
 ns:W.nsIn K mainGlobals c=some (some (.ref C))
 mgc:mg c=some (.ref C)
 exc:W.excIn K C [.type "ValueError",.type "Exception",.type "BaseException",.type "object"] "ValueError.__new__" = true
def rl (m:Yf)(l:List Yg)(g:Addr->List Value->Option Value->Option Value->Option Value->Option Value->String->Option Value->Bool):Prop:=
 ∃C a k0 k1 k2 k3 n k5,m=.ref C::a/\l=[k0,k1,k2,k3,some (.builtin n),k5]/\g C a k0 k1 k2 k3 n k5=true
def T7
 (q:W.excIn.match_1 (λ_ _=>Bool) m l g (λ_ _=>false)=true):rl m l g:=by
 cases m with
 |nil=>exact JD q
 |cons v b =>
  cases v with
  |ref C =>
   cases l with
   |nil=>exact JD q
   |cons k0 l =>
    cases l with
    |nil=>exact JD q
    |cons k1 l =>
     cases l with
     |nil=>exact JD q
     |cons k2 l =>
      cases l with
      |nil=>exact JD q
      |cons k3 l =>
       cases l with
       |nil=>exact JD q
       |cons a l =>
        cases a with
        |none=>exact JD q
        |some u =>
         cases u with
         |builtin n =>
          cases l with
          |nil=>exact JD q
          |cons k5 l =>
           cases l with
           |nil=>exact⟨_,_,_,_,_,_,_,_,rfl,rfl,q⟩
           |cons _ _=>exact JD q
         |_=>exact JD q
  |_=>exact JD q
def HX {K:W.Frag}{h:Heap}{C:Addr}{f:Yf}{a:String}{P:Prop}(i:K.In h)(q:W.excIn K C f a=true)
 (k:∀j N nm m bs hdct sn sub ab col dd k0 k1 k2 k3 k5 p,h.get? C=some (excClassObj nm m C N bs j hdct sn sub ab col dd k0 k1 k2 k3 k5 a)->h.Ns N p->p "__init__" = none->OwnTail h f j->P):P:=by
 unfold W.excIn at q
 split at q
 .rename_i dd w r y;obtain⟨H,j,k0,k1,k2,k3,n,k5,s,hs,q⟩:=T7 q;simp only[Ud,Ys,Bool.not_eq_true'] at q;obtain⟨⟨⟨⟨⟨z,A⟩,b⟩,B⟩,c⟩,g⟩:=q;subst z A;have u:=i _ _ y;obtain⟨nm,bs,E,ns,m,F,sn,sub,ab,col,G⟩:=w;dsimp only at s b c g u;subst s b;have o:r = #[k0,k1,k2,k3,some (.builtin n),k5]:=by
   obtain⟨l⟩:=r;exact Zt Array.mk hs
  subst o;exact k j ns nm m bs F sn sub ab col dd k0 k1 k2 k3 k5 _ u (.of_isNs (W.isNs_of_in i c)) (W.nsMap_none_of_in i c g) (W.tail_of_in i B)
 .exact JD q
def T8 (C:Addr)(E:XK)(t:TA):TS:=λ_ Z H=>t Z H λa b=>a.length<=1000/\E (.ref C) none b
def T9 {E:XK}{c:Str}{C:Addr}(R:Raises X E)(f:Exc X.K X.mg c C)(j:X.calm=true)(l:Gl X c)(m:PA X [e] t)(n:(c == ("__debug__" : Str))=false:=by decide)
 (g:starEach [e] X.env=(false,eval e X.env)::starEach [] X.env:=by rfl):PS X (.Raise (some (.Call (.Name c np) [e] [] cpos)) none pos) (T8 C E t):=by
 intro Y s Z H D I h;refine HX I.mod.kin f.exc λB N nm q bs hdct sn sub ab col dd k0 k1 k2 k3 k5 F o p b T=>(wpAny_Raise_call_subU (nm:=nm) (q:=q) (N:=N) (bs:=bs) (hdct:=hdct) (sn:=sn) (sub:=sub) (ab:=ab) (col:=col) (dd:=dd) (k0:=k0) (k1:=k1) (k2:=k2) (k3:=k3) (k5:=k5)
  PySem.F.excBase_ValueError (by rfl) PySem.F.excBase_ValueError (T.hasType PySem.F.excBase_ValueError.hasBase) (I.ok.hd j) (by rw[g];rfl) b (XR I l f.mgc ⟨rfl,?_⟩ n))
 have i:=m cpos Y s Z H _ I h;rw[g] at i ⊢;refine Calls.evalArgs_plain (Zc i (λG r ⟨J,u,a,w,K,z⟩=>?_) λ_ _ y=>y);have L:=w.length;refine⟨rfl,Ke (),a.bk _ _ o,p.keeps a.bk,T.keeps a.bk,λh' x A=>R.new Y Z u r h' x C _ a A z⟩
end
end L2
namespace L2.DL
def wy (x:Str):D->YH
 | .int a=>if Uy a.natAbs 999999=true then some (.str (Str.empty++x++Str.ofString (toString a))) else none
 |_=>none
def TB (b: -999999<=a)(c:a<=999999):∃z,wy x (.int a)=some (.str z):=⟨_,Zd (UO.mpr ())⟩
def Bn (c:Str)(f:FE):FS:=λsd=>(f sd).bind λ_=>.ex c []
@[simp]def gV (c)(f)(sd):Bn c f sd=(f sd).bind λ_=>.ex c []:=rfl
section
variable {X:Cx}{E:XK}{m:Option Bool}{x:Str}{v e:Expr}{fv fe:FE}{p1 p2 np cpos pos:Pos}{k}
def uG (b:x.length<=1000)(c:QE X E v fv):QE X E (.JoinedStr [.Constant (.str x) k p1,.FormattedValue v (-1) none p2] pos) (jS (wy x) fv):=
 PE.weak (T6 b c) λZ H Q f=>by
  obtain⟨B,F,sd,r,n⟩:=f;refine⟨B,F,sd,r,(ja n).mono (λd g y h i j l=>?_) λ_ _ q=>q⟩;obtain⟨z,hz,q⟩:=jg g;unfold wy at hz
  split at hz
  .rename_i a
   split at hz
   .rename_i o;obtain rfl:=Zqi hz;exact⟨a,je.mp l,by have:=UO.mp o;lia,q _ h i j (ju.mpr rfl)⟩
   .exact J3 hz
  simp_all
def TC (R:Raises X E)(ex:Exc X.K X.mg c C)(f:X.calm=true)(g:Gl X c)(h:QE X E e fe)(i:(c == ("__debug__" : Str))=false:=by decide)
 (a:starEach [e] X.env=(false,eval e X.env)::starEach [] X.env:=by rfl):QS X E m (.Raise (some (.Call (.Name c np) [e] [] cpos)) none pos) (Bn c fe):=
 PS.weak (T9 R ex f g (J1 h J2 a) i a) λT Z H j=>by
  obtain⟨B,F,sd,r,n⟩:=j;have l:(J0 fe jc sd).need (λds=>ds.length=1/\XW X.K E B.F0 B.H0 c []) (XW X.K E F H):=by
   unfold Bn at n;unfold J0 jc;cases b:fe sd with
   |ok d=>rw[b] at n;exact⟨rfl,n⟩
   |ex o fs=>rw[b] at n;exact XW.ext (n:XW X.K E B.F0 B.H0 o fs) r.ext
   |no=>rwa [b] at n
  refine⟨B,F,sd,r,l.mono (λds p y s t u w=>?_) λ_ _ q=>q⟩;have:=w.length;exact⟨(),p.2 (.ref C) none s t (r.ext.trans u) ⟨C,rfl,ex.ns,.inl rfl⟩⟩
end
end L2.DL
namespace L2
def D0 (X:Cx)(Y:Yb)(Z: St)(E:XK)(e:Value)(s':Shared):Prop:=
 ∃a h₀ x C B,e=.ref x/\Inv X Y Z a s'/\(∀b u,X.s₀.heap.get? b=some u->b∉X.ex->∃c,h₀.get? b=some c)/\(∀p∈X.pn++Y,∃u,h₀.get? p.1=some u)/\FlyAt X.stack h₀ a x C B s'.heap/\E (.ref C) none a
section
variable {X:Cx}{Y:Yb}{Z: St}{H:Hp}{s:Shared}{E:XK}
def TF (F:FnOk X.prog X.w X.K X.mg X.base (x9 X.prog X.w) k f fd ps sp)(j:Room k X.A)(l:zp X.K fd ps [])
 (I:Inv X Y Z H s) (r:jq vs us) (h:sp vs H Q E):YI X (call (.ref f) us) (EP X Y Z Q) (D0 X Y Z E) s:=by
 have m:(us++[]).length=ps.length:=by rw[ZA,<- r.length];exact F.len _ _ _ _ h
 have a:=l s us I.kIn m;rw[ZA] at a;refine wpAny_call (codeAny_mono (F.run X.A X.stack s H ⟨us,[]⟩ us vs Q E j I.env0 a r h) λr s' c=>?_);cases r with
 |error e =>
  obtain⟨n,x,C,B,o,os,bare,un,g,i,q⟩:=c;subst o;exact⟨n,s.heap,x,C,B,rfl,I.call' os un g bare (λb z=>Zn z ()),λb u e t=>I.base.there b u e t,λp hp=>⟨_,(I.pin p hp).1⟩,i,q⟩
 |ok i =>
  cases i with
  |ret u=>exact I.after c
  |next=>exact False.elim c
  |brk=>exact False.elim c
  |cont=>exact False.elim c
def TH (c:yo X.prog X.w X.K X.mg X.base name k ps sp)(m:Room k X.A)(n:Gl X name)(o:PA X.nox (e::es) t)
 (a:(name == ("__debug__" : Str))=false) (u:starEach (e::es) X.env=(false,eval e X.env)::starEach es X.env) (g:(backTo pos (starEach es X.env)).any (·.1)=false)
 (I:Inv X Y Z H s) (h:t Z H λi j=>sp i j Q E):YI X (eval (.Call (.Name name p) (e::es) [] pos) X.env) (EP X Y Z Q) (D0 X Y Z E) s:=by
 obtain⟨f,x,F,b,v,w⟩:=c;exact wpAny_Call_Name_kw (XR I n w (W.callWith_K I.ok.mod.kin v (Zc (o pos Y s Z H _ (I.wish _) h) (λy A ⟨i,j,l,r,q⟩=>⟨l.kIn,TF F m b l.unwish r q⟩) λ_ _ z=>z.elim) u g) a)
def Inv.flown {h₀ h' B:Heap}{x C t:Addr}(I:Inv X Y Z H s)(O:∀b u,X.s₀.heap.get? b=some u->b∉X.ex->∃R,h₀.get? b=some R)(hp:∀p∈X.pn++Y,∃u,h₀.get? p.1=some u)
 (trk:∀b o,s.heap.get? b=some o->(H b≠none\/((∃u,h₀.get? b=some u)/\b∉xh X.stack))->B.get? b=some o) (G:Heap.FlyingW B X.stack x (.ref C) (.ref t) h') (L:s.heap.UpToSlots h'):Inv X Y Z H { s with heap:=h' }:=by
 have w:∀b u,X.s₀.heap.get? b=some u->b∉X.fs->b∉xh X.stack:=λb u e a z=>by
  rcases UI.mp (I.stkSub b z) with q|q
  .exact Zn (Zk e) (by rw[q];exact Nat.not_lt.mpr I.ok.above)
  .exact a q
 have g:∀b o,X.s₀.heap.get? b=some o->b∈X.fs->b∉X.ex->∃J,h'.get? b=some { o with slots:=J }:=λb o e a f=>by
  obtain⟨J,S⟩:=I.base.slot b o e (I.ok.frf b a) a f;obtain⟨_,K,A,M⟩:=I.ok.funs.mem a;rw[e] at A;obtain rfl:=Zqi A;obtain⟨N,T⟩:=L b _ S M;exact⟨N,T⟩
 have j:∀c v,s.heap.IsCell c v->h'.IsCell c v:=λc v U=>by
  obtain⟨o,ho,M⟩:=U;obtain⟨J,e⟩:=L c o ho λvs q=>by simp_all
  exact⟨_,e,M⟩
 obtain⟨m,hn,hl⟩:=id I.loc;refine⟨I.ok,I.os,I.bare,⟨λb o e n a f=>?_,λb o e n a f=>g b o e a f,λb o e n f=>I.base.free b o e n f,λb o e f=>?_,I.base.tups,I.base.frzs,I.base.tbls⟩,⟨m,L.ns hn,λi y v h1 h2 h3=>?_⟩,λy c e=>?_,I.free,I.freeC,λp F=>?_,λb u e=>?_,I.len⟩
 .exact G.1 b o (trk b o (I.base.keep b o e n a f) (.inr ⟨O b o e f,w b o e a⟩))
 .by_cases a:b∈X.fs
  .obtain⟨J,q⟩:=g b o e a f;exact⟨_,q⟩
  .obtain⟨K,e'⟩:=I.base.there b o e f;exact⟨K,G.1 b K (trk b K e' (.inr ⟨O b o e f,w b o e a⟩))⟩
 .obtain⟨u,r,l⟩:=hl i y v h1 h2 h3;refine⟨u,r,?_⟩;rcases l with l|⟨k,c,e,z⟩
  .exact .inl l
  .exact .inr ⟨k,c,e,j c _ z⟩
 .obtain⟨v,q⟩:=I.cell y c e;exact⟨v,j c v q⟩
 .obtain⟨q1,q2,P,Q,q5⟩:=I.pin p F;refine⟨G.1 _ _ (trk _ _ q1 (.inr ⟨hp p F,λz=>?_⟩)),q2,P,Q,q5⟩;rcases UI.mp (I.stkSub _ z) with q|q
  .exact P q
  .exact Q q
 .refine(I.hok b u e).stay (λc v hc q=>G.1 c v (trk c v q (.inl ?_))) (λ_ q=>q) λ_ _ q=>q
  grind
abbrev Cx.inSuite (X:Cx)(x:Addr):Cx:={ X with A:=X.A.mark (some (.ref x)),calm:=false,xe:=λ_ _=>False }
def Inv.suite (I:Inv X Y Z H s)(x:Addr):Inv (X.inSuite x) Y Z H s:=
 ⟨⟨I.ok.mod,I.ok.kind,I.ok.glob,I.ok.blt,I.ok.above,I.ok.inj,I.ok.has,I.ok.cab,(),I.ok.frames,I.ok.stk,I.ok.exf,I.ok.bs,I.ok.bsz,I.ok.noex,I.ok.exfs,I.ok.funs,I.ok.frf⟩,I.os,I.bare,I.base,I.loc,I.cell,I.free,I.freeC,I.pin,I.hok,I.len⟩
def Inv.unsuite (I:Inv (X.inSuite x) Y Z H s)(ok:X.Ok):Inv X Y Z H s:=⟨ok,I.os,I.bare,I.base,I.loc,I.cell,I.free,I.freeC,I.pin,I.hok,I.len⟩
theorem SP.unsuite (h:SP (X.inSuite x) Y D f s')(ok:X.Ok):SP X Y D f s':=by
 cases f with
 |next=>obtain⟨a,b,I,q⟩:=h;exact⟨a,b,I.unsuite ok,q⟩
 |brk=>obtain⟨a,b,I,q⟩:=h;exact⟨a,b,I.unsuite ok,q⟩
 |cont=>obtain⟨a,b,I,q⟩:=h;exact⟨a,b,I.unsuite ok,q⟩
 |ret u=>obtain⟨v,a,b,I,r,q⟩:=h;exact⟨v,a,b,I.unsuite ok,r,q⟩
def TJ {r:Ya}{c:Str}{C:Addr}{b₀:Stmt}{suite:List Stmt}{L j:Pos}{F:TS}{D:Ends}{e:Value}(a:X.stack=X.env::X.outer)(u:X.env.frame=some X.env.locals)(G:Exc X.K X.mg c C)(M:Gl X c)
 (hs:∀x,qO (X.inSuite x) (b₀::suite) F) (g:D0 X Y Z (λO _ P=>O=.ref C/\F D Z P) e s) (Q:(c == ("__debug__" : Str))=false):
 YI X (noteFrame e X.env) (λ_ s₂=>YI X (setFlight e none) (λ_ s₃=>YI X (handleBy e X.env [.ExceptHandler (some (.Name c L)) none (b₀::suite) j]) (SP X Y D) r s₃) r s₂) r s:=by
 obtain⟨R,h₀,x,C',B,rfl,I,J,hp,⟨⟨t,v⟩,trk⟩,w,y⟩:=g;cases w;have i:=v;rw[a] at i;refine wpAny_looks_onW (I.ok.frames.trans (by rw[a])) u i λh₄ held₄ up₄=>(wpAny_landsW held₄ λh₅ fl₅ up₅=>?_);have n:=fl₅;rw[<- a] at n;have o:=up₄.trans up₅;have K:=I.flown J hp trk n o;refine wpAny_handleBy_cons (codeAny_handlers_test (XR (K.suite x) M G.mgc (HX K.kIn G.exc λtl N nm q bs hdct sn sub ab col dd k0 k1 k2 k3 k5 mN S hN U T=>?_) Q)) (by intro q;cases q);obtain⟨ob,A,p⟩:=fl₅.there;refine wpAny_excMatches_sub_self S A p (T.hasType PySem.F.excBase_ValueError.hasBase) (codeAny_handlers_suite (lands_againW fl₅ λh₆ fl₆ up₆=>?_));rw[<- a] at fl₆;exact Zc (hs x Y _ Z R D ((I.flown J hp trk fl₆ (o.trans up₆)).suite x) y) (λf s2 q=>q.unsuite I.ok) λ_ _ z=>z.elim
def vN (i:Nat)(C:Addr)(sp:Sp)(t:TA)(b:TS):TS:=λD Z H=>t Z H λc e=>sp c e (λv a=>D.nx (Z.set i (some v)) a) (λf _ a=>f=.ref C/\b D Z a)
def TK (a:X.stack=X.env::X.outer)(f:X.env.frame=some X.env.locals)
 (n:X.N.Nodup) (o:X.N[i]? = some y) (r:yR X.env.scope y) (u:yo X.prog X.w X.K X.mg X.base name k ps sp) (w:Room k X.A) (A:Gl X name) (B:PA X.nox (e::es) t) (F:Exc X.K X.mg c C) (g:Gl X c) (hs:∀x,qO (X.inSuite x) (b₀::suite) ts)
 (j:(name == ("__debug__" : Str))=false:=by decide) (G:starEach (e::es) X.env=(false,eval e X.env)::starEach es X.env:=by rfl) (l:(backTo cpos (starEach es X.env)).any (·.1)=false:=by rfl) (J:(c == ("__debug__" : Str))=false:=by decide)
 (m:swapsWith (.Call (.Name name p) (e::es) [] cpos) (some (.Name y py)) apos.line X.env=pure false:=by rfl) (K:X.fn y=true\/X.env.scope.names.lookup y=some .local:=by trivial):
 PS X (.Try [.Assign [.Name y py] (.Call (.Name name p) (e::es) [] cpos) apos] [.ExceptHandler (some (.Name c np)) none (b₀::suite) hpos] [] [] pos) (vN i C sp t ts):=by
 intro Y s Z H D I h;refine Za (wpAny_standAt (wpAny_tryStmt_except (wpAny_execs_cons (wpAny_Assign_Name (Zc (TH u w A B j G l I h) (λv L q=>?_) λe L M=>TJ a f F g hs M J) m))));obtain⟨z,N,O,P,Q⟩:=q;exact Ae O n o r P (λS R=>wpAny_execs_nil (wpAny_execs_nil ⟨_,N,R,Q⟩)) K
end
end L2
namespace L2.DL
def zv (i:Nat)(c:Str)(a:FS)(sd:SD):Res D->Res Out
 | .ok d=>.ok (.next (sd.set i (~~~d)))
 | .ex c' [] => @ite _ (c'=c) (Classical.propDecidable _) (a sd).strict .no
 |_=>.no
@[simp]def fV (i)(c)(gs)(sd)(d):zv i c gs sd (.ok d)=.ok (.next (sd.set i (~~~d))):=rfl
@[simp]def TL (i)(c)(gs)(sd):zv i c gs sd (.ex c [])=(gs sd).strict:=@if_pos _ (Classical.propDecidable _) rfl _ _ _
def zx (i:Nat)(c:Str)(a:YG->Res D)(b:FA)(e:FS):FS:=λsd=>(b sd).strict.bind λds=>zv i c e sd (a ds)
@[simp]def nH (i)(c)(Fn)(fr)(gs)(sd):zx i c Fn fr gs sd=(fr sd).strict.bind λds=>zv i c gs sd (Fn ds):=rfl
section
variable {X:Cx}{E:XK}{m:Option Bool}
def TM (ex:Exc X.K X.mg c C)(h:vZ X.K E m (zx i c Fn fr gs) T Z H):
 vN i C (x6 X.K Fn) (r9 X.K E0 fr) (vZ X.K E0 m gs) T Z H:=by
 obtain⟨B,F,sd,r,n⟩:=h;refine⟨B,F,sd,r,?_⟩;unfold zx at n;cases f:fr sd with
 |ex g fs=>rw[f] at n;exact n.elim
 |no=>rwa [f] at n
 |ok ds =>
  rw[f] at n;have n:(zv i c gs sd (Fn ds)).need (zq X.K m B F T) (XW X.K E B.F0 B.H0):=n;intro z u A b w;refine⟨u,ds,b.fh,w,?_⟩;cases j:Fn ds with
  |ok d =>
   rw[j] at n;exact λv l p e x=>n _ l p (b.ff.trans e.ff) (((r.step b).step e).setVal x)
  |no=>rwa [j] at n
  |ex g fs =>
   rw[j] at n;cases fs with
   |cons d r=>exact n.elim
   |nil =>
    by_cases s:g=c
    .subst s;rw[TL] at n;intro G a l p e ⟨I,y,t,_⟩;rw[ex.ns] at t;cases t;exact⟨y,B,l,sd,(r.step b).step e,(jP n).mono (λo (q:zq X.K m B F T o)=>q.mono (b.ff.trans e.ff)) λ_ _ q=>q⟩
    .have n:(@ite _ (g=c) (Classical.propDecidable _) (gs sd).strict Res.no).need (zq X.K m B F T) (XW X.K E B.F0 B.H0):=n;rw[@if_neg _ (Classical.propDecidable _) s] at n;exact n.elim
def ya.d {K:W.Frag}{a:YG->Res D}{b:YE}{H:Hp}{Q:VK}{E:XK}(h:x6 K a b H Q E):ya K a b H Q E:=by
 obtain⟨F,ds,c,e,n⟩:=h;exact⟨F,ds,c,e,n.mono (λ_ q=>q.new) λ_ _ q=>q⟩
theorem yo.d {P:Program}{w:World}{K:W.Frag}{mg:Ye}{a:Heap}{name:Str}{k:Nat}{ps:Yk}{b:YG->Res D}(c:yo P w K mg a name k ps (ya K b)):yo P w K mg a name k ps (x6 K b):=by
 obtain⟨f,e,F,r⟩:=c;exact⟨f,e,F.imp λ_ _ _ _ h=>ya.d h,r⟩
def TN (a:X.stack=X.env::X.outer)(f:X.env.frame=some X.env.locals)
 (q:X.N.Nodup) (r:X.N[i]? = some y) (s:yR X.env.scope y) (t:yo X.prog X.w X.K X.mg X.base name k ps (x6 X.K Fn)) (u:Room k X.A) (v:Gl X name) (w:QA X.nox E0 (e::es) fr) (o:Exc X.K X.mg c C) (g:Gl X c) (hs:∀x,zn (X.inSuite x) E0 m (b₀::suite) gs)
 (j:(name == ("__debug__" : Str))=false:=by decide) (z:starEach (e::es) X.env=(false,eval e X.env)::starEach es X.env:=by rfl) (l:(backTo cpos (starEach es X.env)).any (·.1)=false:=by rfl) (A:(c == ("__debug__" : Str))=false:=by decide)
 (n:swapsWith (.Call (.Name name p) (e::es) [] cpos) (some (.Name y py)) apos.line X.env=pure false:=by rfl) (B:X.fn y=true\/X.env.scope.names.lookup y=some .local:=by trivial):
 QS X E m (.Try [.Assign [.Name y py] (.Call (.Name name p) (e::es) [] cpos) apos] [.ExceptHandler (some (.Name c np)) none (b₀::suite) hpos] [] [] pos) (zx i c Fn fr gs):=
 PS.weak (TK a f q r s t u v w o g hs j z l A n B) λT Z H h=>TM o h
end
end L2.DL
namespace L2
def D1 {P:Program}{w:World}{K:W.Frag}{mg:Ye}{c:Heap}{N:Yk}{g:Str}{b:Scope}{f:Addr}{h:Value}{A:Around}{a:List Env}{s:Shared}{H:Hp}{E:XK} :
 PassesOwn (model (qf (x9 P w) P w K mg c N g b f h A a s H E).prog (qf (x9 P w) P w K mg c N g b f h A a s H E).w) (qf (x9 P w) P w K mg c N g b f h A a s H E).A (qf (x9 P w) P w K mg c N g b f h A a s H E).env (qf (x9 P w) P w K mg c N g b f h A a s H E).xe:=
 PassesOwn.leaving (Q₁:=λe i=>x9 P w a H s E e i)
end L2
namespace L2.DL
def xJ (H:Hp)(l:Addr):Hp:=λa=>if a=l then none else H a
def TQ:jl (xJ H l) H:=λa o e=>by
 simp_all [xJ]
def TR:xJ H l l=none:=by simp_all [xJ]
def TU (h:a≠l):xJ H l a=H a:=by simp_all [xJ]
def HY (R:Res Out->Prop)(P:Nat->SD->Prop)(m:P 0 sd)(n:∀sd,P ds.length sd->R (.ok (.next sd)))
 (hs:∀(i:Nat) (x:D) (sd:SD),ds[i]? = some x->P i sd->(∃sd',(JO tg x sd).bind b=.ok (.next sd')/\P (i+1) sd')\/∃c es,(JO tg x sd).bind b=.ex c es/\R (.ex c es)):R (qM tg b ds sd):=by
 have h:∀(k i:Nat) (sd:SD),ds.length-i=k->i<=ds.length->P i sd->R (qM tg b (ds.drop i) sd):=by
  intro k
  induction k with
  |zero =>
   intro i sd e j p;have:i=ds.length:=()
   simp_all
  |succ k l =>
   intro i sd e j p;have a:i<ds.length:=()
   rw[Ur a];unfold qM xV;rcases hs i ds[i] sd () p with ⟨sd',f,g⟩|⟨c,es,f,g⟩
   .rw[f];exact l (i+1) sd' () a g
   .rwa [f]
 grind
section
variable {X:Cx}{pos:Pos}
def D2:D->D->YH
 | .lst a,.lst b=>if a.length+b.length<=sizeLine then some (.lst (a++b)) else none
 |_,_=>none
def TV:vy X (binaryOp .Add) D2:=xa.weak Gf λx y H Q h=>by
 obtain⟨F,d,e,z,c,id,i,hz,q⟩:=h;cases d with
 |lst a =>
  cases e with
  |lst b =>
   have hz:(if a.length+b.length<=sizeLine then some (D.lst (a++b)) else none)=some z:=hz
   split at hz
   .obtain rfl:=Zqi hz;obtain⟨l,j,rfl,m,f⟩:=id;obtain⟨n,ys,rfl,o,g⟩:=i;have r:=f.length;have s:=g.length;exact⟨l,n,j,ys,rfl,rfl,m.same c,o.same c,(),λp hp=>q p F _ (.keep c hp _) hp (Qk c hp) ⟨_,JK,f.append g⟩⟩
   simp_all
  |_=>exact J3 hz
 |_=>exact J3 hz
@[simp]def pW (a b:YG):D2 (.lst a) (.lst b)=if a.length+b.length<=sizeLine then some (.lst (a++b)) else none:=rfl
end
end L2.DL
namespace L2
def wU (K:W.Frag)(x:Str)(st:Stmt):Prop:=∃f a,W.nsIn K mainGlobals x=some (some (.ref f))/\Fun K x x st f a
def wU.callee {P:Program}{w:World}{K:W.Frag}{h b:Heap}{mg:Ye}{x:Str}{st:Stmt}{k:Nat}{ps:Yk}{sp:Sp}(X:K.In h)(G:h.Ns mainGlobals mg)(d:wU K x st)
 (ok:∀{f:Addr} {c:FuncData},Fun K x x st f c->FnOk P w K mg b yw k f c ps sp)
 (j:∀(kV e l:Value) (m:Option Addr) (g ct:Value) (i:Yf),i.length=ps.length->bindArgs (W.fnOf x x (WH st) (QR st) (JV st) .none kV e l m g ct) ⟨i,[]⟩=pure (ps.zip i)):zV P w K mg b x k ps sp:=by
 obtain⟨f,c,a,F⟩:=d;exact⟨f,c,ok F,F.binds j,F.kp,W.mg_of X G a⟩
def wU.calleeX {P:Program}{w:World}{K:W.Frag}{h b:Heap}{mg:Ye}{x:Str}{st:Stmt}{k:Nat}{ps:Yk}{sp:Sp}(X:K.In h)(G:h.Ns mainGlobals mg)(d:wU K x st)
 (ok:∀{f:Addr} {c:FuncData},Fun K x x st f c->FnOk P w K mg b (x9 P w) k f c ps sp)
 (j:∀(kV e l:Value) (m:Option Addr) (g ct:Value) (i:Yf),i.length=ps.length->bindArgs (W.fnOf x x (WH st) (QR st) (JV st) .none kV e l m g ct) ⟨i,[]⟩=pure (ps.zip i)):yo P w K mg b x k ps sp:=have ⟨f,c,a,F⟩:=d;⟨f,c,ok F,F.binds j,F.kp,W.mg_of X G a⟩
end L2
namespace L2.DL
def yO:YG->YH
 | [.int i]=>if Uy i.natAbs.log2 1900 then some (.str (toString i)) else none
 |_=>none
section
variable {X:Cx}{E:XK}{tg e a b:Expr}{fe fa fb:FE}{lo hi:Option Expr}{p2 pos p:Pos}
def HZ:jO X (.type "str") (yX X.K yO):=jO.weak MX λl H Q c=>by
 obtain⟨F,ds,z,f,id,hz,q⟩:=c;unfold yO at hz
 split at hz
 .rename_i i
  split at hz
  .rename_i g;obtain rfl:=Zqi hz;obtain⟨m,n,h,j,id⟩:=js.mp id;subst id h;exact⟨i,by rw[je.mp j],UL (UO.mp g) (by decide),q _ F H (.refl f) (ju.mpr rfl)⟩
  .exact J3 hz
 simp_all
end
structure ClsD (K:W.Frag)(mg:Ye)(c:Str)(C:Addr)(fs:Yk):Prop where
 ns:W.nsIn K mainGlobals c=some (some (.ref C))
 mgc:mg c=some (.ref C)
 cls:Cls K C
 no:∀f∈fs,wW K C f
def zE (f:Str):Yk->YG->YH
 |g::gs,d::ds=>if g=f then some d else zE f gs ds
 |_,_=>none
theorem Ia {K:W.Frag}{H:Hp}{f:Str}:∀{fs:Yk} {ds:YG} {a:YE} {d:D},jd K H ds a->fs.length=a.length->zE f fs ds=some d->∃x,(fs.zip a).lookup f=some x/\jf K H d x
 | [],ds,a,d,_,_,h=>J3 h
 |g::gs,[],a,d,i,l,h=>by
  simp_all [jd.nil_iff]
 |g::gs,e::ds,a,d,i,l,h=>by
  obtain⟨x,r,rfl,c,b⟩:=js.mp i;unfold zE at h;rw[Vt];by_cases q:g=f
  .simp_all
  .rw[Ze q] at h;obtain⟨y,j,m⟩:=Ia b (by simpa using l) h
   grind
def qy (c f:Str):D->YH
 | .ins c' fs ds=>if c'=c then zE f fs ds else none
 |_=>none
section
variable {X:Cx}{E:XK}{e:Expr}{fe:FE}{pos:Pos}
def WV {c f:Str}{C:Addr}{fs:Yk}(k:ClsD X.K X.mg c C fs)(l:f∈fs)(m:QE X E e fe)(o:attributeBase e f X.env (eval e X.env)=eval e X.env:=by rfl):QE X E (.Attribute e f pos) (jS (qy c f) fe):=PE.weak (Nh m o) λZ H Q p=>by
 obtain⟨B,F,sd,r,n⟩:=p;refine⟨B,F,sd,r,(ja n).mono (λd s v t u b w=>?_) λ_ _ q=>q⟩;obtain⟨z,hz,q⟩:=jg s;cases d with
 |ins g y ds =>
  have h:(if g=c then zE f y ds else none)=some z:=hz;by_cases i:g=c
  .rw[Zd i] at h;subst i;obtain⟨a,M,A,N,rfl,j,G,I,J⟩:=jZ.mp w;rw[k.ns] at j;cases j;obtain⟨x,K,L⟩:=Ia J I h;exact⟨a,C,A,_,x,rfl,b.fh _ _ G,k.cls,k.no f l,K,q _ t u b L⟩
  simp_all
 |_=>exact J3 hz
end
theorem Ib (f)(v):∀fs:List (Str×V),f∉fs.map (·.1)->qQ f v fs=fs++[(f,v)]
 | [],_=>rfl
 | (g,x)::r,h=>by
  rw[Zl,UI,not_or] at h;show(if g=f then(g,v)::r else(g,x)::qQ f v r)=_;rw[Ze (λz=>h.1 z.symm),Ib f v r h.2];rfl
def tI (K:W.Frag)(c:Str)(names:Yk)(g:FA):TS:=λT Z H=>∃B F sd x C j fs e b,RS K B F H sd Z /\ (∀(i:Nat) (p:Bool) (d:D),sd[i]? ≠ some (some (SV.own p d))) /\ Z[0]? = some (some (.ref x))/\B.H0 x=none/\F x=none/\W.nsIn K mainGlobals c=some (some (.ref C))/\H x=some (.ins C j (fs.zip e))/\fs.length=e.length/\(fs++names).Nodup/\(fs++names).length<900/\jd K F b e /\
 (g sd).need (λds=>∀f h a,Ext B.F0 B.H0 f h->f x=none->h x=some (.ins C j ((fs++names).zip a))->(fs++names).length=a.length->jd K f (b++ds) a->T.nx Z h) (XW K E0 B.F0 B.H0)
section
variable {X:Cx}{o e:Expr}{fe:FE}{g:FA}{pos pos':Pos}{ss:List Stmt}{c f:Str}{C:Addr}{fs names:Yk}
def Ic:qO X [] (tI X.K c [] jc):=qO.weak Af λT Z H j=>by
 obtain⟨B,F,sd,x,C,l,fs,m,b,r,no,u,v,p,w,q,s,y,z,t,n⟩:=j;have n:∀h i a,Ext B.F0 B.H0 h i->h x=none->i x=some (.ins C l ((fs++[]).zip a))->(fs++[]).length=a.length->jd X.K h (b++[]) a->T.nx Z i:=n;simp at n;exact n F H m r.ext p q s t
def Bo (k:ClsD X.K X.mg c C fs)(I:f∈fs)(J:PE X o (xH 0))(K:QE X E0 e fe)(L:qO X ss (tI X.K c names g))(hs:swapsWith e (some (.Attribute o f pos')) pos.line X.env=pure false:=by rfl):
 qO X (.Assign [.Attribute o f pos'] e pos::ss) (tI X.K c (f::names) (J0 fe g)):=qO.weak (XS (Ni J K hs) L) λT Z H M=>by
 obtain⟨B,F,sd,x,m,w,b,i,p,r,no,y,z,N,s,A,E,O,P,Q,n⟩:=M;refine⟨B,F,sd,r,(ja n).mono (λd R v G H1 l S=>?_) λ_ _ q=>q.ext r.ext⟩;have U:m=C:=by
  rw[k.ns] at s;cases s;rfl
 subst U;have t:=l.hh _ _ A;have j:G x=none:=l.new x N (by rw[A];simp);have Y:(b.zip i).map (·.1)=b:=by rw[List.map_fst_zip ()]
 have hfn:f∉b:=by grind
 have ll:(b.zip i).length<1000:=by
  grind
 refine⟨.ref x,y,x,m,w,_,rfl,t,k.cls,k.no f I,ll,?_⟩;rw[Ib f v _ (by rwa [Y])];have ez:b.zip i++[(f,v)]=(b++[f]).zip (i++[v]):=by rw[List.zip_append E];rfl
 rw[ez];have h:=r.step l;refine⟨B,G,sd,x,m,w,b++[f],i++[v],p++[d],⟨⟨h.ext.ff,λa o e=>?_,λa o e=>?_,h.ext.new⟩,h.len,h.val,(),()⟩,no,y,z,j,s,JK,by simp[E],by simpa using O,by simpa using P,(jd.snoc (jd.same l.ff _ _ Q) S),(ja R).mono (λds n2 F2 H2 u e2 f2 q1 q2 q3=>?_) λ_ _ q=>q⟩
 .rw[JG (Kb e j)];exact h.ext.fh _ _ e
 .rw[JG (Kb e z)];exact h.ext.hh _ _ e
 .exact n2 F2 H2 u e2 f2 (by simpa using q1) (by simpa using q2) (by simpa using q3)
end
def so (K:W.Frag)(c:Str)(names:Yk)(h:YG->Res YG):Sp:=λi H Q _=>∃F ds x C f g,jl F H/\i=.ref x::g/\jd K F ds g/\F x=none/\W.nsIn K mainGlobals c=some (some (.ref C))/\H x=some (.ins C f []) /\
 (h ds).need (λes=>∀a b e,Ext F (xJ H x) a b->a x=none->b x=some (.ins C f (names.zip e))->names.length=e.length->jd K a es e->Q .non b) (XW K E0 F (xJ H x))
def zz (n ar:Nat)(g:FA)(ds:YG):Res YG:=if ds.length+1=ar then g (none::Q2 (n-1) ds) else .no
def zg {K:W.Frag}{F H:Hp}{N:Yk}{ds:YG}{b:YE}{x:Addr}(s:jl F H)(h:jd K F ds b):
 RS K ⟨F,xJ H x,λ_=>none⟩ F H (none::Q2 N.length ds) (some (.ref x)::L2.start N b)/\∀(i:Nat) p d,(none::Q2 N.length ds:SD)[i]? ≠ some (some (SV.own p d)):=by
 have a:=RS.start (N:=N) s h;have no:∀(i:Nat) p d,(none::Q2 N.length ds:SD)[i]? ≠ some (some (SV.own p d)):=λi p d q=>by
  cases i with
  |zero=>cases q
  |succ i =>
   obtain⟨l,_,f,_,c,_⟩:=a.own q;obtain⟨o,g⟩:=c.has
   simp_all
 refine⟨⟨⟨.refl _,s,TQ,λ_ e _=>e⟩,by simp[a.len],λ{i d} q=>?_,λq=>Zn q (no _ _ _),λ_ q _ _=>Zn q (no _ _ _)⟩,no⟩;cases i with
 |zero=>cases q
 |succ i=>exact a.val q
section
variable {P:Program}{w:World}{K:W.Frag}{mg:Ye}{base:Heap}{x qual:Str}{st:Stmt}{f:Addr}{fd:FuncData}{N ps:Yk}{k:Nat}
def gz {c y:Str}{names:Yk}{g:FA}(F:Fun K x qual st f fd)(S:FnScope (y::N) ps (JV st))(m:names.Nodup)(o:names.length<900)
 (p:∀b A a s H E,Room k (A.deeper (envOfC qual (JV st) s.heap.objs.size f b))->qO (qf yw P w K mg base (y::N) qual (JV st) f b A a s H E).nox (QR st) (tI K c names g)):
 FnOk P w K mg base yw (k+1) f fd ps (so K c names (zz (y::N).length ps.length g)):=by
 refine F.ok S (λq H Q E ⟨F,ds,x,C,l,j,_,e,i,_,_,_,n⟩=>?_) λb A a s H q Q E t ⟨F,ds,x,C,l,j,hs,e,i,u,v,z,n⟩=>⟨_,p b A a s H E t,?_⟩
 .unfold zz at n
  split at n
  .rename_i h;rw[e,<- h,Zu,i.length]
  .exact n.elim
 .subst e;unfold zz at n
  split at n
  .have es:L2.start (y::N) (.ref x::j)=some (.ref x)::L2.start N j:=by
    unfold L2.start;simp
   rw[es];obtain⟨r,no⟩:=zg hs i;exact⟨_,F,_,x,C,l,[],[],[],r,no,rfl,TR,u,v,z,rfl,m,o,.nil,n⟩
  .exact n.elim
end
def rg (P:Program)(w:World)(K:W.Frag)(mg:Ye)(a:Heap)(c:Str)(names:Yk)(k:Nat)(ps:Yk)(e:YG->Res YG):Prop:=
 ∃C f b,ClsD K mg c C names/\Mk K C f/\FnOk P w K mg a yw k f b ps (so K c names e)/\zp K b ps []
def XG (c:Str)(names:Yk)(a:YG->Res YG)(b:FA):FE:=λsd=>(b sd).bind λds=>(a ds).bind λes=>.ok (.ins c names es)
section
variable {X:Cx}{pos:Pos}
def Bp (M:rg X.prog X.w X.K X.mg X.base c names k ps Fn)(A:Room (k+1) X.A)(E:Gl X c)(I:QA X E0 (e::es) fa)
 (m:(c == ("__debug__" : Str))=false:=by decide) (J:starEach (e::es) X.env=(false,eval e X.env)::starEach es X.env:=by rfl) (t:(backTo pos (starEach es X.env)).any (·.1)=false:=by rfl):
 QN X E0 (.Call (.Name c p) (e::es) [] pos) (XG c names Fn fa):=by
 obtain⟨C,f,fd,u,mk,F,b⟩:=M;refine PE.weak (Nr mk F A E u.mgc b .nil EL I m J t) λZ H Q ⟨B,F,sd,r,n⟩=>⟨B,F,sd,r,(ja n).mono (λds K L j l h N x g nx j0 ne=>?_) λ_ _ q=>q⟩;have v:j x=none:=by
  cases q:j x with
  |none=>rfl
  |some o=>rw[h.fh _ _ q] at nx;cases nx
 have w:H x=none:=by
  cases q:H x with
  |none=>rfl
  |some o=>rw[h.hh _ _ q] at nx;cases nx
 have y:∀{G:Hp},jl G l->jl G (xJ (upd (upd l g (.own x)) x (.ins C g [])) x):=λ{G} s a o q=>by
  have i:=s _ _ q
  rwa [TU (Kb i nx),JG (Kb i nx),JG (Kb i j0)]
 have O:jl j (upd (upd l g (.own x)) x (.ins C g [])):=λa o q=>by
  have i:=h.fh _ _ q
  rwa [JG (Kb i nx),JG (Kb i j0)]
 have z:Ext F H j (xJ (upd (upd l g (.own x)) x (.ins C g [])) x):=⟨h.ff,y h.fh,y h.hh,h.new⟩;rw[ZA];exact⟨j,ds,x,C,g,L,O,rfl,N,v,u.ns,JK,(ja K).mono (λes P R S T U Y h2 l2 i2=>⟨rfl,P x R S (z.trans U) w Y ⟨C,g,T,u.ns,h2,l2,i2⟩⟩) λ_ _ q=>q.ext z⟩
end
def Ie (K:W.Frag)(c a:Str)(fs:Yk)(st:Stmt):Prop:=∃C e b,W.nsIn K mainGlobals c=some (some (.ref C))/\Cls K C/\(∀f∈fs,wW K C f)/\Mk K C e/\Fun K "__init__" a st e b
section
variable {K:W.Frag}{B:Bs}{F H F' H':Hp}{sd:SD}{Z: St}
def gC:D->Bool
 | .tup ds=>ds.all KP
 |d=>KP d
def Ig:D->Bool
 | .lst ds=>ds.all gC
 |_=>false
def fy (is:Yj)(f:FE):FE:=λsd=>(f (qz is sd)).bare.bind λd=>if Ig d then .ok d else .no
end
end L2.DL
namespace L2
open PySem
def JM (a:h.kind=.function:=by rfl)(b:h.isCoroutine=false:=by rfl)(c:h.isGenerator=false:=by rfl)(d:N.Nodup:=by decide +kernel)(e:N.take P.length=P:=by rfl)
 (f:∀x∈P,h.names.lookup x=some .local\/h.names.lookup x=some .cell:=by decide +kernel) (g:∀y∈h.names,y.2 ≠ .free:=by decide +kernel):FnScope N P h:=⟨a,b,c,d,e,f,g⟩
def xu (i:Nat)(a:X.N.Nodup)(b:X.N[i]? = some x:=by rfl)(c:yR X.env.scope x:=by trivial)(e:X.fn x=true\/X.env.scope.names.lookup x=some .local:=by trivial):PG X (.Name x pos) (Ux i):=JR a b c e
section
variable {p:Yf->Prop}
def rq (h:∀a,p [a]):∀b:Yf,b.length=1->p b:=λb e=>by
 obtain⟨a,rfl⟩:=List.length_eq_one_iff.mp e;exact h a
def bW (h:∀a b,p [a,b]):∀c:Yf,c.length=2->p c:=λc e=>by
 cases c with
 |nil=>simp_all
 |cons a c=>exact rq (p:=λc=>p (a::c)) (λb=>h a b) c (UN e)
def rp (h:∀a b c,p [a,b,c]):∀f:Yf,f.length=3->p f:=λf e=>by
 cases f with
 |nil=>simp_all
 |cons a f=>exact bW (p:=λf=>p (a::f)) (λb c=>h a b c) f (UN e)
def bV (h:∀a b c d,p [a,b,c,d]):∀f:Yf,f.length=4->p f:=λf e=>by
 cases f with
 |nil=>simp_all
 |cons a f=>exact rp (p:=λf=>p (a::f)) () f (UN e)
def ph (h:∀a b c d e,p [a,b,c,d,e]):∀f:Yf,f.length=5->p f:=λf e=>by
 cases f with
 |nil=>simp_all
 |cons a f=>exact bV (p:=λf=>p (a::f)) () f (UN e)
end
section
variable {M:Model}{A:Around}{E:Ya}{s:Shared}{base:Heap}{e:Addr}{cls a0 fl:Value}
def TW (w:base.StaysIn s.heap)(x:s.heap.FunFrames base l)(y:s.heap.TracedAtW base e cls a0 fl)
 (h:∀h' T,base.get? T=none->(∀b,b≠T->h'.get? b=s.heap.get? b)->(∃o j,s.heap.get? T=some o/\o.data=.fields j)->base.StaysIn h'->h'.FunFrames base l->(∃m,h'.TracedAtW base e cls a0 m)->Q Yt { s with heap:=h' }):wpAny M A (setFlight (.ref e) f) Q E s:=by
 obtain⟨B,j,T,C,F,r,G,t,u,p,v,g,c,H⟩:=y;have I:=(Jv.mp H).1;have i:∀b,b≠T->(s.heap.update T (Obj.mapFields (·.setIfInBounds 3 (f.elim Value.none λa=>rawInt a)))).get? b=s.heap.get? b:=λb n=>Heap.get?_update_other _ _ n.symm;have J:∀b o,s.heap.get? b=some o->(∀K,o.data ≠ .fields K)->b≠T:=λb o q n z=>by
  subst z;rw[g] at q;cases q;exact n _ c
 unfold setFlight;refine Za (wpAny_field r t u ?_);rw[Zd ()];refine wpAny_setField g c I (h _ T p i ⟨C,F,g,c⟩ (λb o q=>(i b λz=>by rw[z,p] at q;cases q).trans (w b o q)) (x.of_keeps λb o q n=>⟨o,(i b (J b o q n)).trans q,rfl⟩) ⟨f.elim Value.none λa=>rawInt a,B,j,T,_,_,(i e v.symm).trans r,G,t,u,p,v,Heap.get?_update_self _ g (Obj.isFreed_of_fields (Obj.data_mapFields c _)),Obj.data_mapFields c _,?_⟩)
 simp_all
def TX (a:A.frames=some (env::outer))(f:env.frame=some L)(i:base.StaysIn s.heap)(g:base.get? e=none)(j:s.heap.FunFrames base (env::outer))(h:s.heap.TracedAtW base e cls a0 fl)
 (l:∀h',Heap.FlyingW base outer e cls a0 h'->s.heap.UpToSlots h'->Q Yt { s with heap:=h' }):wpAny M A (leaving env (.ref e)) Q E s:=by
 by_cases c:fl=rawInt L
 .subst c;exact Za (wpAny_noteFrame_againW f h (wpAny_setFlight_noneW i j h λh' k1 k2 k3 v=>l h' ⟨k1,g,k2.2.2,k3⟩ λb o q n=>⟨o.slots,v b o q n⟩))
 .obtain⟨N,O,T,P,R,w,⟨x,y⟩,m,B,S,U,p,r,t⟩:=h;subst x;have C:=(Jv.mp t).1;have u:∀b,b≠T->(s.heap.update T (Obj.mapFields (·.setIfInBounds 3 Value.none))).get? b=s.heap.get? b:=λb n=>Heap.get?_update_other _ _ n.symm;have F:∀b o,s.heap.get? b=some o->(∀G,o.data ≠ .fields G)->b≠T:=by grind
  unfold leaving noteFrame;simp only[f];refine Za (Za (wpAny_field w m B (Za (wpAny_field p r t ?_))));rw[Ze (λz=>c (Ys.mp z))];exact Za (wpAny_setField p r C (wpAny_newEntryW a (j.of_keeps ()) f () (λb o q=>(u b λz=>()).trans (i b o q)) g m () y λh' ⟨H,I,J,K⟩=>(l h' ⟨H,g,I.2.2,J⟩ λb o q n=>K b o ((u b (F b o q n)).trans q) n)))
end
structure FlyAny (l:List Env)(h₀:Heap)(H:Hp)(x C:Addr)(B h:Heap):Prop where
 st:B.StaysIn h
 no:B.get? x=none
 fr:h.FunFrames B l
 tr:∃t fl,h.TracedAtW B x (.ref C) (.ref t) fl
 trk:∀b o,h.get? b=some o->(H b≠none\/((∃u,h₀.get? b=some u)/\b∉xh l))->B.get? b=some o
structure ThrownA (X:Cx)(E:XK):Prop where
 on:∀(Y:Yb) (Z: St) (H:Hp) (s:Shared) (x C:Addr) (B:Heap),Inv X Y Z H s->FlyAny X.stack X.s₀.heap H x C B s.heap->E (.ref C) none H->X.xe (.ref x) s
def TY {P:Program}{w:World}{K:W.Frag}{mg:Ye}{g:Heap}{N:Yk}{h:Str}{a:Scope}{f:Addr}{l:Value}{A:Around}{c:List Env}{s:Shared}{H:Hp}{E:XK}:ThrownA (qf (x9 P w) P w K mg g N h a f l A c s H E) E:=by
 refine⟨λY Z q s' x C B I i n=>?_⟩;obtain⟨t,m,o⟩:=i.tr;exact TX I.ok.frames rfl i.st i.no i.fr o λh' j p=>Dy I (λb u e=>⟨u,e⟩) j p i.trk n
theorem Ih {h h' B a:Heap}(k0:∀b,B.get? b=none->a.get? b=none):∀{l:List Env},(∀b∈xh l,h'.get? b=h.get? b)->h.FunFrames B l->h'.FunFrames a l
 | [],_,_=>trivial
 |env::rest,k,⟨g1,⟨L,o,g2,g3,g4,g5⟩,r⟩=>by
  have c:L∈xh (env::rest):=by
   unfold xh;rw[UX,g2];exact Zqs
  refine⟨g1,⟨L,o,g2,k0 L g3,(k L c).trans g4,g5⟩,Ih k0 (λb e=>k b ?_) r⟩
  simp_all [xh]
def TZ {X:Cx}{E:XK}{f:Scope}{N:Yk}{cl:List (Str×Addr)}{C:Addr}{s:Shared}{H:Hp}{L:Yl}(A:X.stack=X.env::X.outer)(hfr:X.env.frame=some X.env.locals)(M:X.ex=[])(T:ThrownA X E)(at_:WI X C s H L):Thrown (JI X f N cl C s H L) E:=by
 obtain⟨F,Z0,I0,O,hC⟩:=at_;refine⟨λY Z H' s' h₀ x D B I h0 fl hE=>?_⟩;obtain⟨⟨t,fly⟩,trk⟩:=fl;have P:Heap.FlyingW B (X.env::X.outer) x (.ref D) (.ref t) s'.heap:=by rw[<- A];exact fly
 have Q:noteFrame (.ref x) (compEnvC f cl C X.env)=noteFrame (.ref x) X.env:=rfl;show YI X (noteFrame (.ref x) (compEnvC f cl C X.env)) (λ_ s''=>Y0 X C (.ref x) s'') (Y0 X C) s';rw[Q];refine wpAny_looks_onW (I0.ok.frames.trans (by rw[A])) hfr P λh1 R up1=>?_;obtain⟨m,hm,_⟩:=id I.loc;have S:h1.Ns C m:=up1.ns hm;refine⟨m,S,λG i cenv _=>?_⟩;obtain⟨hc1,hc2,hc3,hc4⟩:=R;obtain⟨oC,es,ep,hoC,hdC,_⟩:=id S;have nC:∀b o ws,h1.get? b=some o->o.data=.fields ws->b≠C:=by grind
 have g:∀b o,s.heap.get? b=some o->b≠C:=λb o q=>Zi (Zg (Zk q) hC);have U:∀b∈xh X.stack,b≠C:=λb a=>by
  obtain⟨_,J,j,_⟩:=I.ok.funs.mem a;exact g b J j
 obtain⟨p,hB'⟩:∃p,W.hideAll B [C]=p:=⟨_,rfl⟩;have inB:∀b o,p.get? b=some o->B.get? b=some o:=λb o q=>by rw[<- hB'] at q;exact W.of_hideAll _ q
 have toB:∀b o,B.get? b=some o->b≠C->p.get? b=some o:=λb o q n=>by grind[W.hideAll_get]
 have K:∀b,B.get? b=none->p.get? b=none:=λb q=>by
  cases z:p.get? b with
  |none=>rfl
  |some o=>rw[inB b o z] at q;cases q
 have nBC:∀b o,p.get? b=some o->b≠C:=λb o q z=>by
  grind[W.hideAll_none]
 have st2:p.StaysIn G:=λb o q=>(i.2 b (nBC b o q)).trans (hc1 b o (inB b o q));have fr2:G.FunFrames p X.stack:=Ih K (λb a=>i.2 b (U b a)) (by rw[A];exact hc3);obtain⟨oe,vs,T0,oT,ts,g1,g2,g3,g4,g5,g6,g7,g8,g9⟩:=hc4;have tr2:G.TracedAtW p x (.ref D) (.ref t) (rawInt X.env.locals):=⟨oe,vs,T0,oT,ts,(i.2 x (nC _ _ _ g1 g3)).trans g1,g2,g3,g4,K T0 g5,g6,(i.2 T0 (nC _ _ _ g7 g8)).trans g7,g8,g9⟩;unfold PySem.passOn;refine Za (wpAny_field (s:={ s' with heap:=G }) ((i.2 x (nC _ _ _ g1 g3)).trans g1) g3 g4 ?_);rw[Ze ()];refine Za (TW (s:={ s' with heap:=G }) st2 fr2 tr2 λh3 T' t1 t2 t3 st3 fr3 tr3=>wpAny_throw ?_);have K1:∀b o,B.get? b=some o->b≠C->h3.get? b=some o:=λb o q n=>st3 b o (toB b o q n);have nex:∀b u,X.s₀.heap.get? b=some u->b∉L:=λb u q a=>by
  rcases(O b a).2.2.2.1 with z|z
  .rw[M] at z;cases z
  .exact Zn (Zk q) (Nat.not_lt.mpr z)
 have w:∀b o,s.heap.get? b=some o->b∈xh X.stack->b∉L->∃sl,h3.get? b=some { o with slots:=sl }:=λb o q a l=>by
  obtain⟨_,J,j,hd⟩:=I.ok.funs.mem a;have j:s.heap.get? b=some J:=j;rw[q] at j;obtain rfl:=Zqi j;obtain⟨sl,e1⟩:=I.base.slot b o q (I.ok.frf b a) a l;obtain⟨sl',e2⟩:=up1 b _ e1 hd;have e3:G.get? b=some { o with slots:=sl' }:=(i.2 b (U b a)).trans e2;refine⟨sl',(t2 b λz=>?_).trans e3⟩;obtain⟨oz,wz,z1,z2⟩:=t3;rw[<- z] at z1;have z1:G.get? b=some oz:=z1;rw[e3] at z1;cases z1;exact hd _ z2
 refine T.on F Z0 H' _ x D p (I0.call' (s':={ s' with heap:=h3 }) (ch:=L) I.os ⟨λb o e n a l=>?_,λb o e n a l=>w b o e a l,λb o e n l=>I.base.free b o e n l,λb o e l=>?_,I.base.tups,I.base.frzs,I.base.tbls⟩ (λb u e=>?_) I.bare λb a=>⟨(O b a).2.2.2.1,(O b a).2.1,(O b a).2.2.2.2.1,(O b a).2.2.2.2.2⟩) ⟨st3,K x hc2,fr3,?_,λb o e c=>?_⟩ hE
 .exact K1 b o (trk b o (I.base.keep b o e n a l) (.inr ⟨h0 b o e l,a⟩)) (g b o e)
 .by_cases a:b∈xh X.stack
  .obtain⟨sl,q⟩:=w b o e a l;exact⟨_,q⟩
  .obtain⟨J,e'⟩:=I.base.there b o e l;exact⟨J,K1 b J (trk b J e' (.inr ⟨h0 b o e l,a⟩)) (g b o e)⟩
 .refine(I.hok b u e).stay (λc v hc q=>K1 c v (trk c v q (.inl ?_)) ?_) (λ_ q=>q) λ_ _ q=>q
  .rcases hc with z|z
   .rw[z,e];simp
   .rw[z];simp
  .intro z;have fC:H' C=none:=I.free;rcases hc with y|y
   .rw[<- y,z,fC] at e;exact J3 e
   .rw[z,fC] at y;exact J3 y
 .obtain⟨fl',q⟩:=tr3;exact⟨t,fl',q⟩
 .have key:∃r,B.get? b=some r/\b≠C:=by
   rcases c with c|⟨⟨u,hu⟩,a⟩
   .cases q:H' b with
    |none=>exact Zn q c
    |some u =>
     obtain⟨r,h2'⟩:=(I.hok b u q).has;exact⟨r,trk b r h2' (.inl c),λz=>by rw[z] at q;rw[show H' C=none from I.free] at q;exact J3 q⟩
   .obtain⟨o1,e1⟩:=I0.base.there b u hu (by rw[M];simp);obtain⟨r,e2⟩:=I.base.there b o1 e1 (nex b u hu);exact⟨r,trk b r e2 (.inr ⟨h0 b o1 e1 (nex b u hu),a⟩),g b o1 e1⟩
  obtain⟨r,k1,k2⟩:=key;have:=K1 b r k1 k2;have e:=e;rw[e] at this;cases this;exact toB b o k1 k2
end L2
namespace L2.DL
def dq (N)(cap)(e:X.calm=true)(b:QL scope X.env N X.N cap=true)(g:QI X E tg iter fi)
 (i:∀c C s H a,QG (JI X scope N c C s H a) tg t) (j:∀c C s H a,WI X C s H a->QE (JI X scope N c C s H a) E elt f) (hs:∀x,foldedSetIterable iter X.env x=pure x:=by intro _;rfl):
 QN X E (.ListComp elt [⟨tg,iter,[],0⟩] scope pos) (Ql cap fi t f):=PE.weak (ES N cap e b g i j hs) λ_ _ _ h=>CK h
abbrev HP:=List (Addr×D)
def j5:HP->Addr->YH
 | [],_=>none
 |p::r,a=>if a=p.1 then some p.2 else j5 r a
def XH:HP->Addr->D->HP
 | [],_,_=>[]
 |p::r,a,d=>if a=p.1 then(p.1,d)::r else p::XH r a d
def dZ (a):j5 [] a=none:=rfl
def WW (p)(r:HP)(a):j5 (p::r) a=if a=p.1 then some p.2 else j5 r a:=rfl
theorem D3:∀{hp:HP} {a:Addr} {d:D} b,j5 hp a≠none->j5 (XH hp a d) b=if b=a then some d else j5 hp b
 | [],a,d,b,h=>Zn rfl h
 |p::r,a,d,b,h=>by
  unfold XH;by_cases z:a=p.1
  .simp_all [WW]
  .rw[Ze z,WW,WW];rw[WW,Ze z] at h;rw[D3 b h]
   grind
structure RT (K:W.Frag)(B B':Bs)(F H:Hp)(sd:SD)(hp:HP)(Z: St):Prop where
 rs:RS K B' F H sd Z
 f0:B'.F0=B.F0
 pa:B'.pa=B.pa
 out:∀a,j5 hp a=none->B'.H0 a=B.H0 a
 obj:∀a d,j5 hp a=some d->B.F0 a=none/\B.H0 a=none/\yC K F B'.H0 a d
section
variable {K:W.Frag}{B B':Bs}{F F' H H':Hp}{sd sd':SD}{hp:HP}{Z Z':St}{a:Addr}{d:D}
def RT.sub (t:RT K B B' F H sd hp Z):jl B.H0 B'.H0:=λa o e=>by
 cases q:j5 hp a with
 |none=>rwa [t.out a q]
 |some d=>rw[(t.obj a d q).2.1] at e;exact J3 e
def RT.ext0 (t:RT K B B' F H sd hp Z)(e:Ext B'.F0 B'.H0 F2 H2):Ext B.F0 B.H0 F2 H2:=
 ⟨by rw[<- t.f0];exact e.ff,e.fh,t.sub.trans e.hh,λa c b=>e.new a (by rwa [t.f0]) λz=>b (Qk t.sub z)⟩
def RT.go (t:RT K B B' F H sd hp Z)(s:jl F F')(r:RS K B' F' H' sd' Z'):RT K B B' F' H' sd' hp Z':=
 ⟨r,t.f0,t.pa,t.out,λa d h=>let ⟨h1,h2,h3⟩:=t.obj a d h;⟨h1,h2,h3.ext s λ_ q=>q⟩⟩
def RT.free (t:RT K B B' F H sd hp Z)(h:j5 hp a=some d):F a=none:=have ⟨c,e,b⟩:=t.obj a d h;have ⟨o,f⟩:=b.has;t.rs.ext.new a (by rwa [t.f0]) ()
def RT.lies (t:RT K B B' F H sd hp Z)(h:j5 hp a=some d):yC K F H a d:=(t.obj a d h).2.2.ext (.refl _) λo q=>t.rs.ext.hh _ _ q
def RT.no_own (t:RT K B B' F H sd hp Z)(h:j5 hp a=some d)(b:B'.H0 l=none):l≠a:=λz=>by
 have ⟨o,c⟩:=(t.obj a d h).2.2.has
 simp_all
def RT.ret (t:RT K B B' F H sd hp Z)(h:AH K m B Q d):AH K m B' Q d:=by
 have g:yu K B.F0 B.H0 Q d->yu K B'.F0 B'.H0 Q d:=λh v c f e i=>h v c f (t.ext0 e) i;have j:xP K B.F0 B.H0 Q d->xP K B'.F0 B'.H0 Q d:=λh l c f e n p o=>h l c f (t.ext0 e) (Qk t.sub n) p o;cases m with
 |none =>
  have h:bM K B.F0 B.H0 Q d:=h;show bM K B'.F0 B'.H0 Q d
  grind[bM]
 |some b =>
  cases b with
  |true=>exact j h
  |false=>exact g h
def RT.xw (t:RT K B B' F H sd hp Z)(h:XW K E B.F0 B.H0 c fs):XW K E B'.F0 B'.H0 c fs:=λb a f g e q=>h b a f g (t.ext0 e) q
def RT.chg (t:RT K B B' F H sd hp Z)(f:j5 hp a=some d)(h:yC K F (upd H a o) a d'):RT K B ⟨B'.F0,upd B'.H0 a o,B'.pa⟩ F (upd H a o) sd (XH hp a d') Z:= by
 have m:=t.free f;have ⟨n,r,L⟩:=t.obj a d f;have g:j5 hp a≠none:=by simp_all
 refine⟨⟨⟨t.rs.ext.ff,Cu o t.rs.ext.fh m,λb u e=>?_,λb s v=>?_⟩,t.rs.len,t.rs.val,λ{i p e} q=>?_,t.rs.apart⟩,t.f0,t.pa,λb c=>?_,λb e c=>?_⟩
 .have e:upd B'.H0 a o b=some u:=e;by_cases z:b=a
  .simp_all [JK]
  .rw[JG z] at e ⊢;exact t.rs.ext.hh _ _ e
 .by_cases z:b=a
  .rwa [z]
  .exact t.rs.ext.new b s λy=>v (by show upd B'.H0 a o b=none;rwa [JG z])
 .obtain⟨l,w,j,x,A,C⟩:=t.rs.own q;have ne:=t.no_own f j;exact⟨l,w,(JG ne).trans j,x,A.ext (.refl _) (λu E=>by rwa [JG ne]),λz=>(C z).mono λu E=>by rwa [JG ne]⟩
 .rw[D3 b g] at c;by_cases z:b=a
  .simp_all
  .rw[Ze z] at c;show upd B'.H0 a o b=B.H0 b;rw[JG z];exact t.out b c
 .rw[D3 b g] at c;by_cases z:b=a
  .rw[Zd z] at c;obtain rfl:=Zqi c;subst z;exact⟨n,r,h.ext (.refl _) λu q=>by simp_all [JK]⟩
  .rw[Ze z] at c;have ⟨G,I,J⟩:=t.obj b e c;exact⟨G,I,J.ext (.refl _) λu q=>by show upd B'.H0 a o b=some u;rwa [JG z]⟩
def zd (F b:Hp)(hp:HP):Hp:=λa=>match j5 hp a with
 |some _=>b a
 |none=>F a
theorem RT.frz (t:RT K B B' F H sd hp Z):∃h,jl F h/\RS K B h H sd Z /\ ∀a d,j5 hp a=some d->jf K h d (.ref a):=by
 have s:∀b d,j5 hp b=some d->zd F B'.H0 hp b=B'.H0 b:=λb d e=>by grind[zd]
 have g:∀b,j5 hp b=none->zd F B'.H0 hp b=F b:=λb e=>by grind[zd]
 have f:jl F (zd F B'.H0 hp):=λb u e=>by
  cases q:j5 hp b with
  |none=>rwa [g b q]
  |some d=>rw[t.free q] at e;exact J3 e
 refine⟨zd F B'.H0 hp,f,⟨⟨?_,λb u e=>?_,t.sub.trans t.rs.ext.hh,λb E j=>?_⟩,t.rs.len,λq=>let ⟨v,j,h2⟩:=t.rs.val q;⟨v,j,jf.same f _ _ h2⟩,λ{i p e} q=>?_,t.rs.apart⟩,λb e m=>?_⟩
 .rw[<- t.f0];exact t.rs.ext.ff.trans f
 .cases q:j5 hp b with
  |none=>rw[g b q] at e;exact t.rs.ext.fh _ _ e
  |some d=>rw[s b d q] at e;exact t.rs.ext.hh _ _ e
 .cases q:j5 hp b with
  |none=>rw[g b q];exact t.rs.ext.new b (by rwa [t.f0]) (by rwa [t.out b q])
  |some d=>exact Zn (t.obj b d q).2.1 j
 .have ⟨l,w,n,G,x,y⟩:=t.rs.own q;have A:j5 hp l=none:=by
   cases z:j5 hp l with
   |none=>rfl
   |some d'=>exact Zn rfl (t.no_own z n)
  exact⟨l,w,Qk t.sub n,by rwa [g l A],x.ext f λ_ q=>q,λz=>by rw[<- t.pa];exact y z⟩
 .have ⟨I,J,r⟩:=t.obj b e m;have ⟨o,C⟩:=r.has;refine jf.same (λc u q=>?_) _ _ (r.frz C (t.free m));by_cases z:c=b
  .simp_all [JK]
  .rw[JG z] at q;exact f _ _ q
end
mutual
def der (hp:HP):D->D
 | .adr a=>match j5 hp a with
  |some d=>d
  |none=>.adr a
 | .lst ds=>.lst (zF hp ds)
 | .non=>.non
 | .bl b=>.bl b
 | .int i=>.int i
 | .str x=>.str x
 | .ty n=>.ty n
 | .scr ns=>.scr ns
 | .tup ds=>.tup ds
 | .dct ks ds=>.dct ks ds
 | .ins c fs ds=>.ins c fs ds
 | .exc c=>.exc c
 | .ucl c=>.ucl c
 | .dcf ks ds=>.dcf ks ds
 | .pin a d=>.pin a d
def zF (hp:HP):YG->YG
 | []=>[]
 |d::ds=>der hp d::zF hp ds
end
theorem tW (hp)(a):der hp (.adr a)=match j5 hp a with
 |some d=>d
 |none=>.adr a:=by rw[der]
def dA (hp):zF hp []=[]:=by rw[zF]
section
variable {K:W.Frag}{B:Bs}{F H:Hp}{sd:SD}{hp:HP}{Z: St}
mutual
theorem jf.der (f:∀a d,j5 hp a=some d->jf K F d (.ref a)):∀d v,jf K F d v->jf K F (der hp d) v
 | .adr a,v,h=>by
  obtain rfl:=qb.mp h
  grind[tW]
 | .lst ds,v,h=>have ⟨a,e,g,i,j⟩:=jk.mp h;jk.mpr ⟨a,e,g,i,jd.der f ds e j⟩
 | .non,v,h=>by rwa [L2.DL.der]
 | .bl b,v,h=>by rwa [L2.DL.der]
 | .int b,v,h=>h
 | .str b,v,h=>by rwa [L2.DL.der]
 | .ty b,v,h=>h
 | .scr b,v,h=>by rwa [L2.DL.der]
 | .tup b,v,h=>by rwa [L2.DL.der]
 | .dct b c,v,h=>h
 | .ins b c d,v,h=>by rwa [L2.DL.der]
 | .exc b,v,h=>by rwa [L2.DL.der]
 | .ucl b,v,h=>by rwa [L2.DL.der]
 | .dcf b c,v,h=>by rwa [L2.DL.der]
 | .pin b c,v,h=>by rwa [L2.DL.der]
theorem jd.der (c:∀a d,j5 hp a=some d->jf K F d (.ref a)):∀ds b,jd K F ds b->jd K F (zF hp ds) b
 | [],b,h=>by rwa [dA]
 |d::ds,b,h=>have ⟨x,r,e,f,g⟩:=js.mp h;js.mpr ⟨x,r,e,jf.der c d x f,jd.der c ds r g⟩
end
def derI (hp:HP):Yj->SD->SD
 | [],sd=>sd
 |i::is,sd=>derI hp is (match sd[i]? with
  |some (~~~d)=>sd.set i (~~~(der hp d))
  |_=>sd)
def Ii {α: Type}{l:List α}{a:α}(h:l[i]? = some a):l.set i a=l:=by
 apply VF;intro j;by_cases z:i=j
 .subst z;rw[UQ (Je.mp h).1,h]
 .rw[Zx z]
def RS.reval (r:RS K B F H sd Z)(a:sd[i]? = some (~~~d))(h:∀v,jf K F d v->jf K F d' v):RS K B F H (sd.set i (~~~d')) Z:= by
 have ⟨v,b,c⟩:=r.val a;have:=r.setVal (i:=i) (h v c)
 rwa [Ii b] at this
theorem RS.derI (b:∀a d,j5 hp a=some d->jf K F d (.ref a)):∀is {sd:SD},RS K B F H sd Z -> RS K B F H (derI hp is sd) Z
 | [],sd,r=>r
 |i::is,sd,r=>by
  unfold L2.DL.derI
  split
  .rename_i d h;exact RS.derI b is (r.reval h λv q=>jf.der b d v q)
  .exact RS.derI b is r
end
inductive Out2 where
 |next (sd:SD) (hp:HP)|ret (d:D)|brk (sd:SD) (hp:HP)|cont (sd:SD) (hp:HP)
def wV (K:W.Frag)(m:Option Bool)(B:Bs)(F:Hp)(T:Ends):Out2->Prop
 | .next sd hp=>∀Z c a b,jl F a->RT K B c a b sd hp Z -> T.nx Z b
 | .brk sd hp=>∀Z c a b,jl F a->RT K B c a b sd hp Z -> T.bk Z b
 | .cont sd hp=>∀Z c a b,jl F a->RT K B c a b sd hp Z -> T.ct Z b
 | .ret d=>AH K m B T.rt d
abbrev qV:=SD->HP->Res Out2
def vj (K:W.Frag)(E:XK)(m:Option Bool)(g:qV):TS:=λT Z H=>∃B a F sd hp,RT K B a F H sd hp Z /\ (g sd hp).need (wV K m B F T) (XW K E B.F0 B.H0)
abbrev vf (X:Cx)(E:XK)(m:Option Bool)(st:Stmt)(g:qV):Prop:=PS X st (vj X.K E m g)
abbrev yQ (X:Cx)(E:XK)(m:Option Bool)(st:List Stmt)(g:qV):Prop:=qO X st (vj X.K E m g)
def fU (hp:HP):Out->Out2
 | .next sd=>.next sd hp
 | .ret d=>.ret d
 | .brk sd=>.brk sd hp
 | .cont sd=>.cont sd hp
section
variable {K:W.Frag}{E:XK}{m:Option Bool}{B B':Bs}{F F' H:Hp}{T:Ends}{sd:SD}{hp:HP}{Z: St}
def wV.mono (h:wV K m B F T o)(e:jl F F'):wV K m B F' T o:=by
 cases o with
 |next sd hp=>exact λZ a b c s r=>h Z a b c (e.trans s) r
 |brk sd hp=>exact λZ a b c s r=>h Z a b c (e.trans s) r
 |cont sd hp=>exact λZ a b c s r=>h Z a b c (e.trans s) r
 |ret d=>exact h
def RT.lift (t:RT K B B' F H sd hp Z)(h:wV K m B F T (fU hp o)):zq K m B' F T o:=by
 cases o with
 |next sd'=>exact λa F' b s r=>h a B' F' b s (t.go s r)
 |brk sd'=>exact λa F' b s r=>h a B' F' b s (t.go s r)
 |cont sd'=>exact λa F' b s r=>h a B' F' b s (t.go s r)
 |ret d=>exact t.ret h
end
section
variable {X:Cx}{E:XK}{m:Option Bool}{st:Stmt}{sts:List Stmt}{g:FS}{g1 g2:qV}{pos pos':Pos}{o i e:Expr}{fo fi fv:FE}
def vm (g:FS):qV:=λsd hp=>(g sd).bind λo=>.ok (fU hp o)
def D4 (h:QS X E m st g):vf X E m st (vm g):=PS.weak h λT Z H ⟨B,a,F,sd,hp,t,n⟩=>⟨a,F,sd,t.rs,(ja n).mono (λo b=>t.lift b) λ_ _ q=>t.xw q⟩
def D5:qV:=λsd hp=>.ok (.next sd hp)
def Bq (g1 g2:qV):qV:=λsd hp=>(g1 sd hp).bind λo=>match o with
 | .next sd' hp'=>g2 sd' hp'
 |o=>.ok o
def ti:yQ X E m [] D5:=qO.weak Af λT Z H ⟨B,a,F,sd,hp,t,n⟩=>n Z a F H (.refl _) t
def Ij (h:vf X E m st g1):yQ X E m [st] g1:=BV h
def dz (b:vf X E m st g1)(c:yQ X E m sts g2):yQ X E m (st::sts) (Bq g1 g2):=qO.weak (XS b c) λT Z H f=>by
 obtain⟨B,h,F,sd,hp,t,n⟩:=f;refine⟨B,h,F,sd,hp,t,(ja n).mono (λo a=>?_) λ_ _ q=>q⟩;cases o with
 |next sd' hp'=>exact λr j l u s p=>⟨B,j,l,sd',hp',p,a.mono (λo q=>q.mono s) λ_ _ q=>q⟩
 |ret d=>exact a
 |brk sd' hp'=>exact a
 |cont sd' hp'=>exact a
abbrev v5:=SD->HP->Res Bool
def mo (K:W.Frag)(E:XK)(f:v5):TT:=λZ H Q=>∃B a F sd hp,RT K B a F H sd hp Z /\ (f sd hp).need (v0 F H Q) (XW K E F H)
abbrev sr (X:Cx)(E:XK)(e:Expr)(f:v5):Prop:=PT X e (mo X.K E f)
def zy (c:v5)(g1 g2:qV):qV:=λsd hp=>(c sd hp).bind λb=>if b then g1 sd hp else g2 sd hp
def uH (p:sr X E c fc)(r:yQ X E m a g1)(s:yQ X E m b g2):vf X E m (.If c a b pos) (zy fc g1 g2):=PS.weak (BX p r s) λT Z H u=>by
 obtain⟨B,h,F,sd,hp,t,n⟩:=u;refine⟨B,h,F,sd,hp,t,(ja n).mono (λb j l v f=>?_) λ_ _ q=>q.ext (t.ext0 t.rs.ext)⟩;cases b with
 |true=>exact⟨B,h,l,sd,hp,t.go f.ff (t.rs.step f),j.mono (λ_ q=>q.mono f.ff) λ_ _ q=>q⟩
 |false=>exact⟨B,h,l,sd,hp,t.go f.ff (t.rs.step f),j.mono (λ_ q=>q.mono f.ff) λ_ _ q=>q⟩
def xl (b:D->qV):YG->qV
 | [],sd,hp=>.ok (.next sd hp)
 |x::xs,sd,hp=>(b x sd hp).bind λo=>match o with
  | .next sd' hp'=>xl b xs sd' hp'
  | .cont sd' hp'=>xl b xs sd' hp'
  | .brk sd' hp'=>.ok (.next sd' hp')
  | .ret d=>.ok (.ret d)
def KW (tg:Tg)(b:qV)(x:D):qV:=λsd hp=>(JO tg x sd).bind λs=>b s hp
def Br (it:FA)(tg:Tg)(b:qV):qV:=λsd hp=>(it sd).bind λds=>xl (KW tg b) ds sd hp
def tS (wk:zJ X.K F1 J ds)(r:RT X.K B B1 F1 H1 sd hp Z)(Y:(xl (KW t g1) ds sd hp).need (wV X.K m B F1 T) (XW X.K E B.F0 B.H0)):
 ∃W:Nat->Nat->St->Hp->Prop,(∃m,W 0 m Z H1)/\∀i S Z H,W i S Z H->(J.stop i H/\T.nx Z H)\/(J.go i H/\∃N:St->Hp->Prop,(∀s h,N s h->∃m2,m2<S/\W (i+1) m2 s h)/\∀x h,J.yld i H x h->gT t X.K x Z h λK C=>vj X.K E m g1 { T with nx:=N,ct:=N,bk:=T.nx } K C):=by
 refine⟨λi k Z H=>k=ds.length-i/\i<=ds.length/\∃F u sd hp,jl F1 u/\RT X.K B F u H sd hp Z /\ (xl (KW t g1) (ds.drop i) sd hp).need (wV X.K m B u T) (XW X.K E B.F0 B.H0),
  ⟨ds.length,rfl,Ua _,B1,F1,sd,hp,.refl _,r,Y⟩,?_⟩
 rintro i k K C ⟨rfl,hi,F,u,sd2,L,M,G,v⟩;obtain⟨w1,w2⟩:=wk i u C M G.rs.ext.fh;by_cases j:i<ds.length
 .have ⟨go,yl⟩:=w1 j;refine .inr ⟨go,λs h=>∃O l a b,jl F1 l/\RT X.K B O l h a b s/\(xl (KW t g1) (ds.drop (i+1)) a b).need (wV X.K m B l T) (XW X.K E B.F0 B.H0),
   λs h ⟨O,l,a,b,q1,q2,q3⟩=>⟨ds.length-(i+1),(),rfl,j,O,l,a,b,q1,q2,q3⟩,λx H3 y=>?_⟩
  obtain⟨d,l,hd,n,i3⟩:=yl x H3 y;rw[Ur j] at v;have P:ds[i]=d:=by simp_all
  rw[P] at v;have U:=G.go n.ff (G.rs.step n);refine YS U.rs i3 (ja (ja v)) λsd' s n4 _ r4=>⟨B,F,l,sd',L,U.go (.refl _) r4,n4.mono (λo I=>?_) λ_ _ q=>q⟩;cases o with
  |next c f=>exact λQ w z R p A=>⟨w,z,c,f,(M.trans n.ff).trans p,A,I.mono (λ_ q=>q.mono (n.ff.trans p)) λ_ _ q=>q⟩
  |cont c f=>exact λQ w z R p A=>⟨w,z,c,f,(M.trans n.ff).trans p,A,I.mono (λ_ q=>q.mono (n.ff.trans p)) λ_ _ q=>q⟩
  |brk c f=>exact λQ w z R p A=>I Q w z R (n.ff.trans p) A
  |ret d=>exact I
 .have he:i=ds.length:=()
  refine .inl ⟨w2 (),?_⟩;subst he;rw[Ve] at v;exact v K F u C (.refl _) G
def sK (hp:PassesOwn (model X.prog X.w) X.A X.env X.xe)(c:X.calm=true)(f:QI X E tg iter it)(h:QG X tg t)(j:yQ X E m body g1)
 (a:∀x,foldedSetIterable iter X.env x=pure x:=by intro _;rfl):vf X E m (.For tg iter body [] pos) (Br it t g1):=PS.weak (Er hp c f h j a) λT Z H ⟨B,l,F,sd,hp,r,n⟩=>⟨l,F,sd,r.rs,(ja n).mono (λds p J s u b wk=>(tS wk (r.go b.ff (r.rs.step b)) (p.mono (λ_ q=>q.mono b.ff) λ_ _ q=>q))) λ_ _ q=>q.ext (r.ext0 r.rs.ext)⟩
end
@[simp]def vM (hp:HP)(sd:SD):fU hp (.next sd)=.next sd hp:=rfl
@[simp]def nK (g:FS)(sd:SD)(hp:HP):vm g sd hp=(g sd).bind λo=>.ok (fU hp o):=rfl
def ut (g:qV):Out2->Res Out2
 | .next sd hp=>g sd hp
 |o=>.ok o
@[simp]def lj (g:qV)(sd:SD)(hp:HP):ut g (.next sd hp)=g sd hp:=rfl
@[simp]def gU (a b:qV)(sd:SD)(hp:HP):Bq a b sd hp=(a sd hp).bind (ut b):=by
 rfl
@[simp]def pT (sd:SD)(hp:HP):D5 sd hp=.ok (.next sd hp):=rfl
@[simp]def Ik (c:v5)(a e:qV)(sd:SD)(hp:HP):zy c a e sd hp=(c sd hp).bind λb=>if b then a sd hp else e sd hp:=rfl
@[simp]def dY (it:FA)(tg:Tg)(b:qV)(sd:SD)(hp:HP):Br it tg b sd hp=(it sd).bind λds=>xl (KW tg b) ds sd hp:=rfl
@[simp]def fj (tg:Tg)(b:qV)(x:D)(sd:SD)(hp:HP):KW tg b x sd hp=(JO tg x sd).bind λs=>b s hp:=rfl
def wH (K:W.Frag)(F H:Hp)(hp:HP):Prop:=∀a d,j5 hp a=some d->F a=none/\yC K F H a d
def RT.lent {K:W.Frag}{B a:Bs}{F H:Hp}{sd:SD}{hp:HP}{Z: St}(t:RT K B a F H sd hp Z):wH K F H hp:=λ_ _ h=>⟨t.free h,t.lies h⟩
abbrev qG:=SD->HP->Res (D×HP)
abbrev xK:=SD->HP->Res (YG×HP)
abbrev zi:=SD->HP->Res (Bool×HP)
def wg (K:W.Frag)(E:XK)(f:qG):TE:=λZ H Q=>∃B c F sd hp,RT K B c F H sd hp Z /\ (f sd hp).need (λp=>∀v e a b,jl F a->RT K B e a b sd p.2 Z -> jf K a p.1 v->Q v b) (XW K E B.F0 B.H0)
abbrev zL (X:Cx)(E:XK)(e:Expr)(f:qG):Prop:=PE X e (wg X.K E f)
def vY (K:W.Frag)(E:XK)(f:xK):TA:=λZ H Q=>∃B e F sd hp,RT K B e F H sd hp Z /\ (f sd hp).need (λp=>∀b g a c,jl F a->RT K B g a c sd p.2 Z -> jd K a p.1 b->Q b c) (XW K E B.F0 B.H0)
abbrev wG (X:Cx)(E:XK)(es:Ym)(f:xK):Prop:=PA X es (vY X.K E f)
def vX (K:W.Frag)(E:XK)(f:zi):TT:=λZ H Q=>∃B c F sd hp,RT K B c F H sd hp Z /\ (f sd hp).need (λp=>∀e a b,jl F a->RT K B e a b sd p.2 Z -> Q p.1 b) (XW K E B.F0 B.H0)
abbrev fI (X:Cx)(E:XK)(e:Expr)(f:zi):Prop:=PT X e (vX X.K E f)
section
variable {X:Cx}{E:XK}{m:Option Bool}{a b e o i:Expr}{es:Ym}{fa fb fe fo fi:FE}{f2 g2:qG}{fr:xK}{pos pos':Pos}
def zl (fe:FE):qG:=λsd hp=>(fe sd).bind λd=>.ok (d,hp)
def XI (h:QE X E e fe):zL X E e (zl fe):=PE.weak h λZ H Q ⟨B,f,F,sd,hp,t,n⟩=>⟨f,F,sd,t.rs,(ja n).mono (λd g v j l c p=>g v f j l c.ff (t.go c.ff (t.rs.step c)) p) λ_ _ q=>q.ext (t.ext0 t.rs.ext)⟩
def zr (g:D->D->YH)(fa fb:qG):qG:=λsd hp=>(fa sd hp).bind λp=>(fb sd p.2).bind λq=>(Res.ofO (g p.1 q.1)).bind λz=>.ok (z,q.2)
def dc {K:W.Frag}{g:D->D->YH}{Z: St}{H:Hp}{Q:VK}(h:wg K E (zr g f2 g2) Z H Q):wX (wZ K g) (wg K E f2) (wg K E g2) Z H Q:=by
 obtain⟨B,l,F,sd,hp,t,n⟩:=h;refine⟨B,l,F,sd,hp,t,(ja n).mono (λp r v s x P y A C=>⟨B,s,x,sd,p.2,A,(ja r).mono (λq G w I J R j c L=>?_) λ_ _ q=>q⟩) λ_ _ q=>q⟩;obtain⟨z,hz,k⟩:=jg (ja G);exact⟨J,p.1,q.1,z,c.rs.ext.fh,jf.same j _ _ C,L,hz,λu M N f O=>k u I M N ((y.trans j).trans f.ff) (c.go f.ff (c.rs.step f)) O⟩
def du (c:yF X (wZ X.K g))(f:zL X E a f2)(j:zL X E b g2)(hs:Ak b):zL X E (.Subscript a b pos) (zr g f2 g2):=PE.weak (Cf c f j hs) λ_ _ _ h=>dc h
def sJ (fa:qG):zi:=λsd hp=>(fa sd hp).bind λp=>match p.1 with
 | .bl b=>.ok (b,p.2)
 |_=>.no
def Bt:xK:=λ_ hp=>.ok ([],hp)
def W6 (f:qG)(g:xK):xK:=λsd hp=>(f sd hp).bind λp=>(g sd p.2).bind λq=>.ok (p.1::q.1,q.2)
def dI:wG X E [] Bt:=PA.weak Wp λZ H Q ⟨B,c,F,sd,hp,t,n⟩=>n [] c F H (.refl _) t .nil
def D6 (f:zL X E e f2)(g:wG X E es fr)(hs:starEach (e::es) X.env=(false,eval e X.env)::starEach es X.env:=by rfl):wG X E (e::es) (W6 f2 fr):=PA.weak (V0 f g hs) λZ H Q ⟨B,h,F,sd,hp,t,n⟩=>⟨B,h,F,sd,hp,t,(ja n).mono (λp j v l r J s u w=>⟨B,l,r,sd,p.2,u,(ja j).mono (λq x y z A C c G I=>(x (v::y) z A C (s.trans c) G (.mk (jf.same c _ _ w) I))) λ_ _ q=>q⟩) λ_ _ q=>q⟩
def vE (fr:xK):qG:=λsd hp=>(fr sd hp).bind λp=>if p.1.length<=1000 then .ok (.tup p.1,p.2) else .no
def sU (i:Nat)(f:qG):qV:=λsd hp=>(f sd hp).bind λp=>.ok (.next (sd.set i (~~~(p.1))) p.2)
def Wf (i:Nat)(f:qG):qV:=λsd hp=>match sd[i]? with
 |some (some (.own false (.lst ds)))=>(f sd hp).bind λp=>if ds.length<sizeLine then .ok (.next (sd.set i (some (.own false (.lst (ds++[p.1]))))) p.2) else .no
 |_=>.no
def tL {i:Nat}{c f:Pos}(y:PE X o (xH i))(z:zL X E e f2)
 (hp:∀{u:TE} {t:TA},PE X o u->PA X [e] t->PE X (.Call (.Attribute o "append" c) [e] [] f) (fY X.K "list" Cg u t))
 (hs:swapsWith (.Call (.Attribute o "append" c) [e] [] f) none pos.line X.env=pure false:=by rfl)
 (g:starEach [e] X.env=(false,eval e X.env)::starEach [] X.env:=by rfl):vf X E m (.Expr (.Call (.Attribute o "append" c) [e] [] f) pos) (Wf i f2):=
 PS.weak (BW (hp y (V0 z Wp g)) hs) λT Z H A=>by
  obtain⟨B,C,F,sd,hp,t,n⟩:=A;unfold Wf at n
  split at n
  .rename_i ds h;obtain⟨l,j,O,P,⟨G,I,Q⟩,_⟩:=t.rs.own h;refine⟨.ref l,j,.inl ⟨rfl,G,qE.of I⟩,B,C,F,sd,hp,t,(ja n).mono (λp r v J K R L s M=>?_) λ_ _ q=>q⟩
   split at r
   .obtain⟨S,w,g2,U,⟨ys,N,x⟩,_⟩:=s.rs.own h;rw[j] at w;cases w;have Y:=x.length;exact⟨l,ys,v,rfl,rfl,N,(),r Z J K _ L (s.go (.refl _) (s.rs.chg h j ⟨ys++[v],JK,x.snoc M⟩))⟩
   .exact r.elim
  .exact n.elim
end
def Il (K:W.Frag)(E:XK)(g:qG):TS:=λT Z H=>∃B c F sd hp,RT K B c F H sd hp Z /\ (g sd hp).need (λp=>∀v e sd' f a b,jl F a->RT K B f a b sd' p.2 e->jf K a p.1 v->T.rt v b) (XW K E B.F0 B.H0)
abbrev yA (X:Cx)(E:XK)(sts:List Stmt)(g:qG):Prop:=qO X sts (Il X.K E g)
section
variable {X:Cx}{E:XK}{m:Option Bool}{e:Expr}{f2 g2 ga:qG}{g1:qV}{fc:zi}{pos:Pos}{st:Stmt}{sts a:List Stmt}{c:Expr}
def Bu (h:zL X E e f2):yA X E [.Return (some e) pos] f2:=qO.weak (BV (Ag h)) λT Z H ⟨B,b,F,sd,hp,t,n⟩=>⟨B,b,F,sd,hp,t,n.mono () λ_ _ q=>q⟩
def y9 (g1:qV)(g2:qG):qG:=λsd hp=>(g1 sd hp).bind λo=>match o with
 | .next sd' hp'=>g2 sd' hp'
 |_=>.no
def Bv (g:vf X E m st g1)(h:yA X E sts g2):yA X E (st::sts) (y9 g1 g2):=qO.weak (XS g h) λT Z H i=>by
 obtain⟨B,j,F,sd,hp,t,n⟩:=i;refine⟨B,j,F,sd,hp,t,(ja n).mono (λo b=>?_) λ_ _ q=>q⟩;cases o with
 |next sd' hp'=>exact λI l r J s u=>⟨B,l,r,sd',hp',u,b.mono (λp q v w f x y z A C G=>q v w f x y z (s.trans A) C G) λ_ _ q=>q⟩
 |ret d=>exact b.elim
 |brk sd' hp'=>exact b.elim
 |cont sd' hp'=>exact b.elim
def bH (fc:zi)(ga g2:qG):qG:=λsd hp=>(fc sd hp).bind λp=>if p.1 then ga sd p.2 else g2 sd p.2
def Im (z:fI X E c fc)(A:yA X E a ga)(C:yA X E sts g2):yA X E (.If c a [] pos::sts) (bH fc ga g2):=qO.weak (XS (BX z A Af) C) λT Z H G=>by
 obtain⟨B,I,F,sd,hp,t,n⟩:=G;refine⟨B,I,F,sd,hp,t,(ja n).mono (λp s u w J x y=>?_) λ_ _ q=>q⟩;obtain⟨k,f⟩:=p;cases k with
 |true=>exact⟨B,u,w,sd,f,y,s.mono (λp q v g b h i j l o r=>q v g b h i j (x.trans l) o r) λ_ _ q=>q⟩
 |false=>exact⟨B,u,w,sd,f,y,s.mono (λp q v g b h i j l o r=>q v g b h i j (x.trans l) o r) λ_ _ q=>q⟩
end
structure ExtW (K:W.Frag)(F H:Hp)(hp:HP)(F' H':Hp)(hp':HP):Prop where
 ff:jl F F'
 fh:jl F' H'
 hh:∀a o,j5 hp a=none->H a=some o->H' a=some o
 new:∀a,F a=none->H a≠none->F' a=none
 len:wH K F' H' hp'
 dom:∀a,j5 hp' a=none↔j5 hp a=none
theorem D7:∀{hp:HP} {a:Addr},j5 hp a=none↔a∉hp.map (·.1)
 | [],a=>by simp[dZ]
 |p::r,a=>by
  rw[WW,Zl,UI,not_or];by_cases z:a=p.1
  .simp_all
  .rw[Ze z,D7]
   simp_all
def yN (H:Hp)(hp:HP):Hp:=λa=>match j5 hp a with
 |none=>H a
 |some _=>none
def WX (h:j5 hp a=none):yN H hp a=H a:=by grind[yN]
def tX (h:j5 hp a=some d):yN H hp a=none:=by unfold yN;rw[h]
def Ky (n ar:Nat)(g:qG)(ds:YG)(hp:HP):Res (D×HP):=if ds.length=ar then(g (Q2 n ds) hp).bind λp=>if p.2.map (·.1)=hp.map (·.1) then .ok p else .no else .no
section
variable {K:W.Frag}{B B':Bs}{F F' H H':Hp}{sd:SD}{hp hp':HP}{Z: St}
def RT.call (t:RT K B B' F H sd hp Z)(w:ExtW K F H hp F' H' hp'):∃j,RT K B j F' H' sd hp' Z:= by
 have m:=λa o h e=>w.hh a o h (t.rs.ext.hh _ _ e);refine⟨⟨B'.F0,λa=>match j5 hp a with
  |none=>B'.H0 a
  |some _=>H' a,B'.pa⟩,⟨⟨t.rs.ext.ff.trans w.ff,w.fh,λa o e=>?_,λa n c=>?_⟩,t.rs.len,λq=>let ⟨v,c,h2⟩:=t.rs.val q;⟨v,c,jf.same w.ff _ _ h2⟩,λ{i p d} q=>?_,t.rs.apart⟩,t.f0,t.pa,λa b=>?_,λa d b=>?_⟩
 .grind
 .cases z:j5 hp a with
  |none =>
   have c:(match j5 hp a with
    |none=>B'.H0 a
    |some _=>H' a)≠none:=c
   rw[z] at c;exact w.new a (t.rs.ext.new a n c) λy=>(c (Qk t.rs.ext.hh y))
  |some d =>
   obtain⟨o,r⟩:=(t.lies z).has;exact w.new a (t.free z) ()
 .obtain⟨l,s,x,A,f,C⟩:=t.rs.own q;have g:j5 hp l=none:=by
   cases z:j5 hp l with
   |none=>rfl
   |some d'=>exact Zn rfl (t.no_own z x)
  obtain⟨o,r⟩:=f.has;refine⟨l,s,?_,w.new l A (),f.ext w.ff λu q=>w.hh _ _ g q,λz=>(C z).mono λu q=>w.hh _ _ g q⟩
  simp_all
 .have b:=(w.dom a).mp b;show(match j5 hp a with
   |none=>B'.H0 a
   |some _=>H' a)=B.H0 a
  rw[b];exact t.out a b
 .cases z:j5 hp a with
  |none=>rw[(w.dom a).mpr z] at b;cases b
  |some d0 =>
   obtain⟨E,G,_⟩:=t.obj a d0 z;refine⟨E,G,(w.len a d b).2.ext (.refl _) λo q=>?_⟩
   simp_all
def RT.hidden (t:RT K B B' F H sd hp Z):Ext B.F0 B.H0 F (yN H hp):=by
 have e:=t.ext0 t.rs.ext;refine⟨e.ff,λa o q=>?_,λa o q=>?_,e.new⟩
 .cases z:j5 hp a with
  |none=>rw[WX z];exact e.fh _ _ q
  |some d=>rw[t.free z] at q;exact J3 q
 .cases z:j5 hp a with
  |none=>rw[WX z];exact e.hh _ _ q
  |some d=>rw[(t.obj a d z).2.1] at q;exact J3 q
end
section
variable {X:Cx}{pos:Pos}
def Wg (a:YG->HP->Res (D×HP))(b:FA):qG:=λsd hp=>(b sd).bind λds=>a ds hp
end
abbrev FX:=SD->Res (D×SD)
section
variable {X:Cx}{E:XK}{m:Option Bool}{e o:Expr}{f:FX}{pos pos':Pos}
def uv (i:Nat)(f:FX):FS:=λsd=>(f sd).bind λp=>.ok (.next (p.2.set i (~~~(p.1))))
@[simp]def bp (i)(f)(sd):uv i f sd=(f sd).bind λp=>.ok (.next (p.2.set i (~~~(p.1)))):=rfl
end
def rG:FS:=λ_=>.no
def uB {X:Cx}{E:XK}{m:Option Bool}{st:Stmt}:QS X E m st rG:=λY s Z H T I ⟨B,F,sd,r,n⟩=>n.elim
section
variable {X:Cx}{E:XK}{e:Expr}{g:qG}{fe:FE}{sts:List Stmt}
def w6 (i:Nat)(g:qG):qG:=λsd hp=>g (qz [i] sd) hp
def sG (h:yA X E sts g):yA X E sts (w6 i g):=qO.weak h λT Z H ⟨B,b,F,sd,hp,t,n⟩=>have ⟨c,s,r⟩:=t.rs.frz [i];⟨B,b,c,_,hp,t.go s r,(n).mono (λp q v f a j l m o u w=>q v f a j l m (s.trans o) u w) λ_ _ q=>q⟩
def wx:D->D->YH:=λd e=>match d with
 | .dct _ _=>none
 | .dcf _ _=>none
 |d=>jE d e
def kA:yF X (wZ X.K wx):=Gn
def bU (is:Yj)(f:FE):qG:=λsd hp=>(f (derI hp is sd)).strict.bind λd=>if KP d then .ok (d,hp) else .no
end
section
variable {X:Cx}{E:XK}{m:Option Bool}{e o i:Expr}{es:Ym}{f2 g2:qG}{f3:FX3}{f:FX}{fr2:xK}{pos pos':Pos}
def rP (z:D)(q:D×HP):Res (D×HP):=match z with
 | .adr a=>match j5 q.2 a with
  |some (.lst es)=>(Res.ofO (jE (.lst es) q.1)).bind λz=>.ok (z,q.2)
  |_=>.no
 |_=>.no
def vF (a b:qG):qG:=λsd hp=>(a sd hp).bind λp=>(b sd p.2).bind (rP p.1)
def d8 (a:YG->HP->Res (D×HP))(b:xK):qG:=λsd hp=>(b sd hp).bind λp=>a p.1 p.2
end
open Classical in
def xY (n:Nat)(g:Yl->Res Out):Res Out:=if h:∃o,∀a,a.length=n->g a=.ok o then .ok (Classical.choose h) else .no
def Io (h:∀a,a.length=n->g a=.ok o):xY n g=.ok o:=by
 have b:∃o,∀a,a.length=n->g a=.ok o:=⟨o,h⟩;unfold xY;have c:(List.replicate n (0:Addr)).length=n:=List.length_replicate
 grind
def capO (cap:List (Option Nat))(k:Nat)(sd:SD):SD:=match (cap[k]?).join with
 |some j=>match sd[j]? with
  |some (some (.own false d))=>(jY cap sd).set k (some (.own false d))
  |_=>jY cap sd
 |none=>jY cap sd
def cg {cap:List (Option Nat)}{sd:SD}{i:Nat}{x:SV}(q:(jY cap sd)[i]? = some (some x)):∃d,x=.val d:=by
 unfold jY at q;rw[Zv] at q;cases a:cap[i]? with
 |none=>simp_all
 |some o =>
  rw[a] at q;cases o with
  |none=>cases q
  |some j =>
   grind
theorem RS.capO {K:W.Frag}{B:Bs}{F H:Hp}{sd:SD}{Z: St}(cap)(k)(r:RS K B F H sd Z):RS K B F H (capO cap k sd) (KN cap Z):=by
 unfold L2.DL.capO
 split
 .rename_i j a
  split
  .rename_i d f;obtain⟨l,g,h,m,n,_⟩:=r.own f;have s:(KN cap Z)[k]? = some (some (.ref l)):=by
    unfold KN;rw[Zv];cases b:cap[k]? with
    |none=>rw[b] at a;exact J3 a
    |some o =>
     rw[b] at a;have a:o=some j:=a;subst a;show some (Option.bind (some j) λj=>(Z[j]?).join)=_;rw[Option.bind_some,g];rfl
   have c:=(r.cap cap).setOwn (i:=k) (d:=d) (l:=l) h m n λi p e q=>by
    obtain⟨d',z⟩:=cg q;cases z
   rw[Ii s] at c;exact c
  .exact r.cap cap
 .exact r.cap cap
def ZF (cap:List (Option Nat))(k:Nat)(it:FA)(tg:Tg)(f:FE):FE:=λsd=>(it sd).bind λds=>if VZ (capO cap k sd) tg=true/\ds.length<sizeLine then(xU (λx=>(JO tg x (capO cap k sd)).bind f) ds).bind λys=>.ok (.lst ys) else .no
def cw {K:W.Frag}{E:XK}{t:Tg}{z:FA}{f:FE}{cap:List (Option Nat)}{c:Nat}{Z: St}{H:Hp}{Q:VK}(l:v9 K E (ZF cap c z t f) Z H Q):Xm cap (fX K E z) (gT t K) (tD K E f) Z H Q:=by
 obtain⟨B,F,sd,r,n⟩:=l;refine⟨B,F,sd,r,(ja n).mono (λds m J A G j wk=>?_) λ_ _ q=>q⟩
 split at m
 .rename_i l;obtain⟨I,hz⟩:=l;refine⟨λi k ys Z b=>k=ds.length-i/\i<=ds.length/\∃a es,Ext A G a b/\RS K B a b (capO cap c sd) Z /\ jd K a es ys/\es.length=i /\
   (xU (λx=>(JO t x (capO cap c sd)).bind f) (ds.drop i)).need (λrs=>xP K a b Q (.lst (es++rs))) (XW K E a b),⟨ds.length,rfl,Ua _,A,[],.refl j.fh,(r.step j).capO cap c,.nil,rfl,?_⟩,?_⟩
  .exact(ja m).mono (λrs q=>(q).ext j) λ_ _ q=>q.ext j
  rintro i k ys Z2 b ⟨rfl,hi,a,es,o,p,s,hl,u⟩;have ly:=s.length;refine⟨(),?_⟩;obtain⟨L,M⟩:=wk i a b o.ff o.fh;by_cases g:i<ds.length
  .obtain⟨go,N⟩:=L g;refine .inr ⟨go,λx O y=>?_⟩;obtain⟨d,P,R,e,S⟩:=N x O y;have T:=Ga R u;refine YS (p.step e) S (ja T) λsd' Z' U X C=>?_;obtain⟨Y,b2⟩:=CJ I X;refine⟨B,P,sd',C,U.mono (λy n5 v F4 H4 h i4=>⟨ds.length-(i+1),(),rfl,g,F4,es++[y],(o.trans e).trans h,(C.step h).forget Y b2,(jd.same (e.ff.trans h.ff) _ _ s).snoc i4,(),n5.mono (λrs q=>?_) λ_ _ q=>q.ext (e.trans h)⟩) λ_ _ q=>q.ext e⟩;rw[Ug];exact q.ext (e.trans h)
  .have he:i=ds.length:=()
   subst he;refine .inl ⟨M (Zf _),λD w=>?_⟩;rw[Ve] at u;have q:xP K a b Q (.lst (es++[])):=u;rw[ZA] at q;exact q D a _ (.keep p.ext.fh w _) w (Qk p.ext.fh w) ⟨ys,JK,s⟩
 .exact m.elim
section
variable {X:Cx}{E:XK}{m:Option Bool}{tg iter elt c:Expr}{scope:Scope}{pos spos py:Pos}{y:Str}{iy:Nat}{t:Tg}{fi:FA}{f:FE}
def cS (N)(cap)(c)(a:X.N.Nodup)(b:X.N[iy]? = some y)(e:yR X.env.scope y)(o:X.calm=true)(g:QL scope X.env N X.N cap=true)(p:QI X E tg iter fi)
 (r:∀i C s H j,QG (JI X scope N i C s H j) tg t) (u:∀i C s H j,QE (JI X scope N i C s H j) E elt f) (l:swapsWith (.ListComp elt [⟨tg,iter,[],0⟩] scope pos) (some (.Name y py)) spos.line X.env=pure true:=by rfl)
 (n:X.fn y=true\/X.env.scope.names.lookup y=some .local:=by trivial) (hs:∀x,foldedSetIterable iter X.env x=pure x:=by intro _;rfl):
 QS X E m (.Assign [.Name y py] (.ListComp elt [⟨tg,iter,[],0⟩] scope pos) spos) (jr iy (ZF cap c fi t f)):=
 PS.weak (G3 l a b e n N cap o g p r u hs) λT Z H h=>De (λ_ _ _ q=>cw q) h
end
@[simp]def gY (cap)(k)(it)(tg)(f)(sd):ZF cap k it tg f sd=(it sd).bind λds=>if VZ (capO cap k sd) tg=true/\ds.length<sizeLine then(jT tg f (capO cap k sd) ds).bind λys=>.ok (.lst ys) else .no:=rfl
def Kz (K:W.Frag)(c:YG->HP->Res (D×HP)):Sp:=λe H Q E=>∃F ds hp,jl F H/\jd K F ds e/\wH K F H hp/\(c ds hp).need (λp=>∀v a b,ExtW K F H hp a b p.2->jf K a p.1 v->Q v b) (XW K E F (yN H hp))
section
variable {P:Program}{w:World}{K:W.Frag}{mg:Ye}{base:Heap}{x qual:Str}{st:Stmt}{f:Addr}{fd:FuncData}{N ps:Yk}{k:Nat}
def Ip (F:Fun K x qual st f fd)(S:FnScope N ps (JV st))
 (B:∀c A b s H E,Room k (A.deeper (envOfC qual (JV st) s.heap.objs.size f c))->qO (qf (x9 P w) P w K mg base N qual (JV st) f c A b s H E) (QR st) (Il K E g)):
 FnOk P w K mg base (x9 P w) (k+1) f fd ps (Kz K (Ky N.length ps.length g)):=by
 refine F.okX S (λr H Q E ⟨F,ds,hp,_,i,_,n⟩=>?_) λc A b s H r Q E C ⟨F,ds,hp,hs,i,u,n⟩=>⟨_,B c A b s H E C,?_⟩
 .unfold Ky at n
  split at n
  .rw[i.length];lia
  .exact n.elim
 .unfold Ky at n
  split at n
  .have t:RT K ⟨F,yN H hp,λ_=>none⟩ ⟨F,H,λ_=>none⟩ F H (Q2 N.length ds) hp (L2.start N r):=⟨RS.start hs i,rfl,rfl,λa h=>(WX h).symm,λa d h=>⟨(u a d h).1,tX h,(u a d h).2⟩⟩;refine⟨_,_,F,_,hp,t,(ja n).mono (λp l v T sd' U G I J j L=>?_) λ_ _ q=>q⟩
   split at l
   .rename_i M;have m:∀a,j5 p.2 a=none↔j5 hp a=none:=λa=>by rw[D7,D7,M]
    have e:=j.ext0 j.rs.ext;refine l v G I ⟨J,j.rs.ext.fh,λa o h q=>e.hh a o ((WX h).trans q),λa O R=>?_,j.lent,m⟩ L;cases z:j5 hp a with
    |none=>exact e.new a O λy=>R ((WX z).symm.trans y)
    |some d =>
     cases y:j5 p.2 a with
     |none=>simp_all
     |some d'=>exact j.free y
   .exact l.elim
  .exact n.elim
end
section
variable {X:Cx}{E:XK}{m:Option Bool}{e o i c:Expr}{es:Ym}{fe fo fi:FE}{fr:FA}{f2 g2:qG}{fr2:xK}{ft:FT}{pos pos' p:Pos}{name:Str}{k:Nat}{ps:Yk}
def Iq (c:yo X.prog X.w X.K X.mg X.base name k ps (Kz X.K Fn))(T:Thrown X E)(h:Room k X.A)(j:Gl X name)(l:QA X E (e::es) fr)
 (b:(name == ("__debug__" : Str))=false:=by decide) (r:starEach (e::es) X.env=(false,eval e X.env)::starEach es X.env:=by rfl) (f:(backTo pos (starEach es X.env)).any (·.1)=false:=by rfl):
 zL X E (.Call (.Name name p) (e::es) [] pos) (Wg Fn fr):=PE.weak (ZD c T h j l b r f) λZ H Q s=>by
 obtain⟨B,u,F,sd,hp,t,n⟩:=s;refine⟨u,F,sd,t.rs,(ja n).mono (λds x y z A a C=>?_) λ_ _ q=>q.ext (t.ext0 t.rs.ext)⟩;have g:=t.go a.ff (t.rs.step a);show Kz X.K Fn (y++[]) A Q E;rw[ZA];refine⟨z,ds,hp,a.fh,C,g.lent,x.mono (λp G v I J w i=>?_) λ_ _ q=>q.ext g.hidden⟩;obtain⟨K,L⟩:=g.call w;exact G v K I J (a.ff.trans w.ff) L i
def Bw (a:YG->Res D)(fr:xK):qG:=λsd hp=>(fr sd hp).bind λp=>(a p.1).bind λd=>.ok (d,p.2)
def df (c:yo X.prog X.w X.K X.mg X.base name k ps (x6 X.K Fn))(T:Thrown X E)(h:Room k X.A)(j:Gl X name)(l:wG X E (e::es) fr2)
 (b:(name == ("__debug__" : Str))=false:=by decide) (r:starEach (e::es) X.env=(false,eval e X.env)::starEach es X.env:=by rfl) (f:(backTo pos (starEach es X.env)).any (·.1)=false:=by rfl):
 zL X E (.Call (.Name name p) (e::es) [] pos) (Bw Fn fr2):=PE.weak (ZD c T h j l b r f) λZ H Q s=>by
 obtain⟨B,u,F,sd,hp,t,n⟩:=s;refine⟨B,u,F,sd,hp,t,(ja n).mono (λp w x y z A C a G=>?_) λ_ _ q=>q⟩;show x6 X.K Fn (x++[]) A Q E;rw[ZA];exact⟨z,p.1,a.rs.ext.fh,G,(ja w).mono (λd I v J K g L=>I v y J K (C.trans g.ff) (a.go g.ff (a.rs.step g)) L) λ_ _ q=>q.ext (a.ext0 a.rs.ext)⟩
def zt (f:FT):zi:=λsd hp=>(f sd).bind λb=>.ok (b,hp)
def Ir (h:QT X E e ft):fI X E e (zt ft):=PT.weak h λZ H Q ⟨B,f,F,sd,hp,t,n⟩=>⟨f,F,sd,t.rs,(ja n).mono (λb g j l a=>g f j l a.ff (t.go a.ff (t.rs.step a))) λ_ _ q=>q.ext (t.ext0 t.rs.ext)⟩
def wm (is:Yj)(f:FT):v5:=λsd hp=>(f (derI hp is sd)).strict
def sT (is)(h:QT X E e ft):sr X E e (wm is ft):=PT.weak h λZ H Q ⟨B,r,F,sd,hp,t,n⟩=>have ⟨a,s,b,f⟩:=t.frz;⟨B,a,_,b.derI f is,(jP (n)).mono (λd g u j l=>(g F j (.grow t.rs.ext.fh l.hh))) λc fs q=>q⟩
def zu (fo fi:FE):qG:=λsd hp=>(fo sd).bind λo=>match o with
 | .adr a=>match j5 hp a with
  |some (.dct ks ds)=>(fi sd).bind λk=>(Res.ofO ((QF k).bind λq=>jF ks ds q)).bind λz=>.ok (z,hp)
  |_=>.no
 |_=>.no
def tF (r:X.A.units+1<cLine)(s:QE X E o fo)(u:QE X E i fi)(hs:zM i):zL X E (.Subscript o i pos) (zu fo fi):=PE.weak (Cm r s u hs) λZ H Q A=>by
 obtain⟨B,g,F,sd,hp,t,n⟩:=A;refine⟨g,F,sd,t.rs,(ja n).mono (λd b v C T h G=>?_) λ_ _ q=>q.ext (t.ext0 t.rs.ext)⟩
 split at b
 .rename_i a;obtain rfl:=qb.mp G
  split at b
  .rename_i ks ds I;have f:=t.go h.ff (t.rs.step h);refine⟨g,C,sd,f.rs,(ja b).mono (λy J w K L j M=>?_) λ_ _ q=>q.ext (t.ext0 f.rs.ext)⟩;have l:=f.go j.ff (f.rs.step j);have ⟨U,N,O,P⟩:=l.lies I;have ⟨z,hz,q⟩:=jg (ja J);have ⟨k,R,hz⟩:=Jf.mp hz;have ⟨x,S,ix⟩:=(X1 k O P).1 z hz;refine⟨a,x,rfl,?_,q x g K L (h.ff.trans j.ff) l ix⟩;rw[WQ R M,<- S];exact CQ (.inl N)
  .exact b.elim
 .exact b.elim
def Iu (fo b:FE)(sd:SD)(p:D×HP):Res Out2:=(fo sd).bind λo=>match o with
 | .adr a=>match j5 p.2 a with
  |some (.dct ks ds)=>(b sd).bind λk=>match QF k with
   |some q=>if ks.length<sizeLine then .ok (.next sd (XH p.2 a (.dct (Wb ks q) (Wv ks ds q p.1)))) else .no
   |none=>.no
  |_=>.no
 |_=>.no
def Bx (fo a:FE)(b:qG):qV:=λsd hp=>(b sd hp).bind (Iu fo a sd)
def tV (x:X.A.units+1<cLine)(y:QE X E o fo)(z:QE X E i fi)(A:zL X E e f2)(hs:swapsWith e (some (.Subscript o i pos')) pos.line X.env=pure false:=by rfl):
 vf X E m (.Assign [.Subscript o i pos'] e pos) (Bx fo fi f2):=PS.weak (EJ x y z A hs) λT Z H C=>by
 obtain⟨B,G,F,sd,hp,t,n⟩:=C;refine⟨B,G,F,sd,hp,t,(ja n).mono (λp I v r J H1 K b L=>⟨r,J,sd,b.rs,(ja I).mono (λd f v2 M H2 h N=>?_) λ_ _ q=>q.ext (b.ext0 b.rs.ext)⟩) λ_ _ q=>q⟩
 split at f
 .rename_i a;obtain rfl:=qb.mp N;have j:=b.go h.ff (b.rs.step h)
  split at f
  .rename_i ks ds s;refine⟨r,M,sd,j.rs,(ja f).mono (λk g w O H3 l P=>?_) λ_ _ q=>q.ext (b.ext0 j.rs.ext)⟩;have u:=j.go l.ff (j.rs.step l)
   split at g
   .rename_i q Q
    split at g
    .have ⟨xs,R,S,U⟩:=u.lies s;obtain⟨ys,Y,y2,y3⟩:=Gk S U (jf.same (h.ff.trans l.ff) _ _ L);exact⟨a,_,rfl,(by rw[WQ Q P];exact zj.k R ()),g Z _ O _ ((K.trans h.ff).trans l.ff) (u.chg s ⟨ys,by rw[JK,Y],y2,y3⟩)⟩
    .exact g.elim
   .exact g.elim
  .exact f.elim
 .exact f.elim
end
def wh (K:W.Frag)(E:XK)(e:FA)(d0:D):TA:=λZ H Q=>∃B F sd,RS K B F H sd Z /\ (e sd).need (λds=>∀c l a b,Ext F H a b->jd K a ds c->H l=none->a l=none->yC K a b l d0->Q (c++[.ref l]) b) (XW K E F H)
open Classical in
def zI (g:Addr->Res D):Res D:=if h:∃r,∀a,g a=r then Classical.choose h else .no
def tJ (h:∀a,g a=r):zI g=r:=by
 have b:∃r,∀a,g a=r:=⟨r,h⟩;unfold zI;rw[dif_pos b];exact(Classical.choose_spec b 0).symm.trans (h 0)
def cC (h:(zI g).need p q)(a):(g a).need p q:=by
 unfold zI at h
 split at h
 .grind
 .exact h.elim
def D8 (a:YG->HP->Res (D×HP))(d0:D)(b:FA):FE:=λsd=>(b sd).bind λds=>zI λl=>(a (ds++[.adr l]) [(l,d0)]).bind λp=>.ok p.1
section
variable {X:Cx}{E:XK}{e:Expr}{es:Ym}{fe:FE}{fr:FA}{d0:D}{pos p:Pos}{name:Str}{k:Nat}{ps:Yk}
def dL (h:QN X E e (dC d0))(hs:starEach [e] X.env=(false,eval e X.env)::starEach [] X.env:=by rfl):PA X [e] (wh X.K E jc d0):=PA.weak (V0 h Wp hs) λZ H Q ⟨B,F,sd,r,n⟩=>⟨B,F,sd,r,λl a b e c f g=>(n) [] l a b e rfl c f g⟩
def D9 (c:QE X E e fe)(f:PA X es (wh X.K E fr d0))(hs:starEach (e::es) X.env=(false,eval e X.env)::starEach es X.env:=by rfl):PA X (e::es) (wh X.K E (J0 fe fr) d0):=PA.weak (V0 c f hs) λZ H Q ⟨B,F,sd,r,n⟩=>⟨B,F,sd,r,(ja n).mono (λx g v h z a i=>⟨B,h,sd,r.step a,(ja g).mono (λA j m l o s b t u w y=>(j (v::m) l o s (a.trans b) (.mk (jf.same b.ff _ _ i) t) (Qk a.hh u) w y)) λ_ _ q=>q.ext a⟩) λ_ _ q=>q⟩
def uE (c:yo X.prog X.w X.K X.mg X.base name k ps (Kz X.K Fn))(T:Thrown X E)(t:Room k X.A)(u:Gl X name)(x:PA X (e::es) (wh X.K E fr d0))
 (g:(name == ("__debug__" : Str))=false:=by decide) (A:starEach (e::es) X.env=(false,eval e X.env)::starEach es X.env:=by rfl) (h:(backTo pos (starEach es X.env)).any (·.1)=false:=by rfl):
 QE X E (.Call (.Name name p) (e::es) [] pos) (D8 Fn d0 fr):=PE.weak (ZD c T t u x g A h) λZ H Q C=>by
 obtain⟨B,F,sd,r,n⟩:=C;refine⟨B,F,sd,r,(ja n).mono (λds G I l j m b J P R S=>?_) λ_ _ q=>q⟩;show Kz X.K Fn ((I++[.ref l])++[]) m Q E;rw[ZA];have f:∀{a:Addr},a≠l->j5 [(l,d0)] a=none:=λz=>by rw[WW,Ze z];rfl
 have ne:∀a o,H a=some o->a≠l:=by grind
 have K:wH X.K j m [(l,d0)]:=λa d q=>by
  simp_all [WW]
 refine⟨j,ds++[.adr l],[(l,d0)],b.fh,J.snoc (qb.mpr rfl),K,(ja (cC G l)).mono (λp L v M N w i=>?_) λc fs q=>?_⟩
 .refine L v M N ⟨b.ff.trans w.ff,w.fh,λa o q=>w.hh a o (f (ne a o q)) (b.hh a o q),λa O s=>(w.new a (b.new a O s) λz=>?_)⟩ i;cases y:H a with
  |none=>exact s y
  |some o=>rw[b.hh a o y] at z;cases z
 .refine q.ext ⟨b.ff,λa o y=>?_,λa o y=>?_,b.new⟩
  .have na:a≠l:=by grind
   rw[WX (f na)];exact b.fh a o y
  .rw[WX (f (ne a o y))];exact b.hh a o y
end
def tw {P:Program}{w:World}{K:W.Frag}{mg:Ye}{a:Heap}{f:Addr}{b:FuncData}{ps:Yk}{k:Nat}:FnOk P w K mg a (x9 P w) k f b ps (Kz K λ_ _=>.no):=⟨λ_ _ _ _ ⟨_,_,_,_,_,_,n⟩=>n.elim,λ_ _ _ _ _ _ _ _ _ _ _ _ _ ⟨_,_,_,_,_,_,n⟩=>n.elim⟩
structure Ev where
 P:Program
 w:World
 K:W.Frag
 mg:Ye
 base:Heap
 C:Nat->Addr
 t:Nat->Tok
abbrev Ca (e:Ev):=zV e.P e.w e.K e.mg e.base
abbrev yT (e:Ev):=yo e.P e.w e.K e.mg e.base
def vC (K:W.Frag)(T:Nat->Stmt):List (Str×Nat)->Prop
 | []=>True
 |p::r=>wU K p.1 (T p.2)/\vC K T r
def Nn (K:W.Frag):Yk->Prop
 | []=>True
 |x::r=>W.nsIn K mainGlobals x=some none/\Nn K r
def dfs_cons {K:W.Frag}{T:Nat->Stmt}{x:Str}{i:Nat}{r:List (Str×Nat)}(h:wU K x (T i))(q:vC K T r):vC K T ((x,i)::r):=⟨h,q⟩
def nn_cons {K:W.Frag}{x:Str}{r:Yk}(h:W.nsIn K mainGlobals x=some none)(q:Nn K r):Nn K (x::r):=⟨h,q⟩
theorem DA {K:W.Frag}{T:Nat->Stmt}:∀{l:List (Str×Nat)} {j:Nat} {p:Str×Nat},vC K T l->l[j]? = some p->wU K p.1 (T p.2)
 | [],j,p,_,h=>by simp at h
 |q::r,0,p,d,h=>by
  obtain rfl:=by simpa using h
  exact d.1
 |q::r,j+1,p,d,h=>DA d.2 (by simpa using h)
theorem Iv {K:W.Frag}{h:Heap}{mg:Ye}(X:K.In h)(G:h.Ns mainGlobals mg):∀{l:Yk},Nn K l->∀x∈l,mg x=none
 | [],_,x,q=>by simp at q
 |y::r,d,x,q=>by
  rcases UI.mp q with z|z
  .rw[z];exact W.mg_none_of X G d.1
  .exact Iv X G d.2 x z
abbrev sw (mg:Ye)(bl:Yk):Prop:=∀x∈bl,mg x=none
def JC {mg:Ye}{bl:Yk}{x:Str}(m:sw mg bl)(h:x∈bl:=by decide):mg x=none:=m x h
structure Al (e:Ev)(T:Nat->Stmt)(tbl:List (Str×Nat))(bl:Yk):Prop where
 h:∃h,e.K.In h/\h.Ns mainGlobals e.mg
 d:vC e.K T tbl
 m:sw e.mg bl
section
variable {e:Ev}{T:Nat->Stmt}{tbl:List (Str×Nat)}{bl:Yk}{x:Str}{k:Nat}{ps:Yk}{sp:Sp}
abbrev Iw (x:Str)(st:Stmt)(ps:Yk):Prop:=∀(kV doc pm:Value) (an:Option Addr) (cdv ct:Value) (us:Yf),us.length=ps.length->bindArgs (W.fnOf x x (WH st) (QR st) (JV st) .none kV doc pm an cdv ct) ⟨us,[]⟩=pure (ps.zip us)
def qR (a:Al e T tbl bl)(j i:Nat)(ok:∀{f:Addr} {b:FuncData},Fun e.K x x (T i) f b->FnOk e.P e.w e.K e.mg e.base yw k f b ps sp)(h:tbl[j]? = some (x,i):=by rfl)
 (c:Iw x (T i) ps:=by intro _ _ _ _ _ _;first|exact bW λ_ _=>rfl|exact rp λ_ _ _=>rfl|exact rq λ_=>rfl|exact bV λ_ _ _ _=>rfl|exact ph λ_ _ _ _ _=>rfl|exact g λ_ _ _ _ _ _=>rfl):Ca e x k ps sp:=by
 obtain⟨_,X,G⟩:=a.h;exact(DA a.d h).callee X G ok c
def xT (a:Al e T tbl bl)(j i:Nat)(ok:∀{f:Addr} {b:FuncData},Fun e.K x x (T i) f b->FnOk e.P e.w e.K e.mg e.base (x9 e.P e.w) k f b ps sp)(h:tbl[j]? = some (x,i):=by rfl)
 (c:autoParam (Iw x (T i) ps) qR._auto_2):yT e x k ps sp:=by
 obtain⟨_,X,G⟩:=a.h;exact(DA a.d h).calleeX X G ok c
end
def j0 {X:Cx}(h:X.N.Nodup:=by dsimp only[JI,qf,Cx.nox];decide +kernel):X.N.Nodup:=h
def qv {X:Cx}{E:XK}(i:Nat){x:Str}{a:Pos}(c:X.N[i]? = some x:=by rfl)(e:autoParam (bK X.env.scope x) pv._auto_2)(f:(x == ("__debug__" : Str))=false:=by decide)(b:(x == ("__classdict__" : Str))=false:=by decide):QE X E (.Name x a) (jb i):=uC (pv i c e f b)
end L2.DL
set_option maxHeartbeats 4000000
namespace My
open PySem L2 L2.DL
@[simp high] def al {α: Type}(b a:α)(l):(b::a::l)[1]? = some a:=rfl
@[simp high] def aa {α: Type}(a b v:α)(l):(a::b::l).set 1 v=a::v::l:=rfl
@[simp high] def ak {α: Type}(b c a:α)(l):(b::c::a::l)[2]? = some a:=rfl
@[simp high] def lZ {α: Type}(a b c v:α)(l):(a::b::c::l).set 2 v=a::b::v::l:=rfl
@[simp high] def aj {α: Type}(b c e a:α)(l):(b::c::e::a::l)[3]? = some a:=rfl
@[simp high] def lY {α: Type}(a b c e v:α)(l):(a::b::c::e::l).set 3 v=a::b::c::v::l:=rfl
@[simp high] def ai {α: Type}(b c e f a:α)(l):(b::c::e::f::a::l)[4]? = some a:=rfl
@[simp high] def lX {α: Type}(a b c e f v:α)(l):(a::b::c::e::f::l).set 4 v=a::b::c::e::v::l:=rfl
@[simp high] def ah {α: Type}(b c e f g a:α)(l):(b::c::e::f::g::a::l)[5]? = some a:=rfl
@[simp high] def lW {α: Type}(a b c e f g v:α)(l):(a::b::c::e::f::g::l).set 5 v=a::b::c::e::f::v::l:=rfl
@[simp high] def ag {α: Type}(b c e f g h a:α)(l):(b::c::e::f::g::h::a::l)[6]? = some a:=rfl
@[simp high] def lV {α: Type}(a b c e f g h v:α)(l):(a::b::c::e::f::g::h::l).set 6 v=a::b::c::e::f::g::v::l:=rfl
@[simp high] def af {α: Type}(b c e f g h i a:α)(l):(b::c::e::f::g::h::i::a::l)[7]? = some a:=rfl
@[simp high] def lU {α: Type}(a b c e f g h i v:α)(l):(a::b::c::e::f::g::h::i::l).set 7 v=a::b::c::e::f::g::h::v::l:=rfl
@[simp high] def ae {α: Type}(b c e f g h i j a:α)(l):(b::c::e::f::g::h::i::j::a::l)[8]? = some a:=rfl
@[simp high] def lS {α: Type}(a b c e f g h i j v:α)(l):(a::b::c::e::f::g::h::i::j::l).set 8 v=a::b::c::e::f::g::h::i::v::l:=rfl
@[simp high] def ad {α: Type}(b c e f g h i j m a:α)(l):(b::c::e::f::g::h::i::j::m::a::l)[9]? = some a:=rfl
@[simp high] def lR {α: Type}(a b c e f g h i j m v:α)(l):(a::b::c::e::f::g::h::i::j::m::l).set 9 v=a::b::c::e::f::g::h::i::j::v::l:=rfl
@[simp high] def pI {α: Type}(b c e f g h i j m n a:α)(l):(b::c::e::f::g::h::i::j::m::n::a::l)[10]? = some a:=rfl
@[simp high] def p3 {α: Type}(b c e f g h i j m n a v:α)(l):(b::c::e::f::g::h::i::j::m::n::a::l).set 10 v=b::c::e::f::g::h::i::j::m::n::v::l:=rfl
@[simp high] def pH {α: Type}(c e f g h i j m n o b a:α)(l):(c::e::f::g::h::i::j::m::n::o::b::a::l)[11]? = some a:=rfl
@[simp high] def p0 {α: Type}(c e f g h i j m n o a b v:α)(l):(c::e::f::g::h::i::j::m::n::o::a::b::l).set 11 v=c::e::f::g::h::i::j::m::n::o::a::v::l:=rfl
@[simp high] def pG {α: Type}(e f g h i j m n o p b c a:α)(l):(e::f::g::h::i::j::m::n::o::p::b::c::a::l)[12]? = some a:=rfl
@[simp high] def pz {α: Type}(e f g h i j m n o p a b c v:α)(l):(e::f::g::h::i::j::m::n::o::p::a::b::c::l).set 12 v=e::f::g::h::i::j::m::n::o::p::a::b::v::l:=rfl
@[simp high] def pF {α: Type}(f g h i j m n o p q b c e a:α)(l):(f::g::h::i::j::m::n::o::p::q::b::c::e::a::l)[13]? = some a:=rfl
@[simp high] def pr {α: Type}(f g h i j m n o p q a b c e v:α)(l):(f::g::h::i::j::m::n::o::p::q::a::b::c::e::l).set 13 v=f::g::h::i::j::m::n::o::p::q::a::b::c::v::l:=rfl
def jK (a b:Int):Int:=((a % 2147483647+b)*48271 % 2147483647)*((a % 2147483647+b)*48271 % 2147483647) % 2147483629
def ZG (a b:Int):Int:=
 if 0<jK a b % 4 then jK a b / 4 % 5-2
 else if jK a b / 20 % 2=0 then a / 7*(b+2) % (10:Int) ^ (60:Nat) else -(a / 7*(b+2) % (10:Int) ^ (60:Nat))
def WY (ns:Yh)(k:Int):Int:=ns.getD k.toNat 0
def ZH (ns:Yh)(a:Int)(n:Nat):Yh:=(List.range n).map λk:Nat=>ZG (WY ns (0+k) / 3+(0+k)) (a+(0+k))
def jN (hs:Yh)(t:Int):Int:=hs.getD t.toNat 0
def Qt (r:Jy)(hs:Yh):Int:=qp (r.map λp=>jN hs p.1+p.2)
def sS:qo 12 (.lst [])=true:=rfl
def tM (r:Yh):qo 12 (.lst (r.map D.int))=true:=by
 show(r.map D.int).all (qo 11)=true;rw[List.all_map,UU];exact λp _=>rfl
def cV {α: Type}(f:α -> D)(l:List α):Qp (.lst (l.map f)) (.lst [])=l.isEmpty:=by
 cases l with
 |nil=>exact X0 _
 |cons x r=>exact v7.mpr λh=>by cases h
theorem WZ {α: Type}{l:List α}{k:Nat}(h:k<l.length):qr l (k:Int)=l[k]?:= by
 simp_all [qr,y0]
def Ix {hs:Yh}{t:Int}(a:0<=t)(b:t<(hs.length:Int)):qr (hs.map D.int) t=some (.int (jN hs t)):=by
 simp_all [y0,qr,jN]
def QQ {α: Type}{f:α -> D}{l:List α}{i:Nat}{x:D}(h:(l.map f)[i]? = some x):∃p,l[i]? = some p/\x=f p:=()
structure RowOk (n:Int)(r:Jy):Prop where
 ne:r ≠ []
 once:j4 r
 mem:∀p∈r,0<=p.1/\p.1<n
 len:r.length<=12
def pe {a:Jz}(h:∀r∈a,r ≠ [])(b:a.length<1000):XA [.lst (a.map jv)]=some (.lst ((JS j7 a).map jv)):=by
 show(Q3 K6 (a.map jv)).bind _=_
 simp_all [AK]
def jj (f:Jz):D:=.lst (f.map jv)
def tY {f g:Jz}(h:jj f=jj g):f=g:=by
 grind[jj,AK]
def cx (f g:Jz):Qp (jj f) (jj g)=decide (f=g):=by
 by_cases h:f=g
 .simp_all [X0]
 .rw[Zo h];exact v7.mpr λz=>h (tY z)
def qj (all:Jz)(row:Jy):Bool:=(all.filter λone => !decide (one=row)&&JE one row).isEmpty
def XJ (all a:Jz)(row:Jy):Jz:=if qj all row=true/\row∉a then a++[row] else a
def Iy (all rs:Jz):Jz:=rs.foldl (XJ all) []
def JQ (rs:Jz):Jz:=JS j7 (Iy rs rs)
theorem Bz (all:Jz):∀(rs a:Jz),(rs.foldl (XJ all) a).length<=a.length+rs.length/\(∀r,r∈rs.foldl (XJ all) a↔r∈a\/(r∈rs/\qj all r=true))/\(a.Nodup->(rs.foldl (XJ all) a).Nodup)
 | [],a=>by simp
 |row::rs,a=>by
  have ⟨b,c,e⟩:=Bz all rs (XJ all a row);unfold XJ at b c e ⊢
  grind
theorem xg {rs:Jz}{r:Jy}:r∈JQ rs↔r∈rs/\qj rs r=true:=by
 grind[JQ,Iy,Q1,Bz]
def JA (f:Jz)(hs:Yh):Int:=qx (f.map λr=>Qt r hs)
@[simp]def kX (f):QH [jj f]=some (jj f):=rfl
@[simp]def vK (f):W0 (jj f)=some (f.map jv):=rfl
@[simp]def vI (r):W0 (jv r)=some (r.map qc):=rfl
@[simp]def hW (f):jL [jj f]=some (.int f.length):=by show some (D.int (f.map jv).length)=_;rw[Zql]
@[simp]def lK (f):xz [jj f,.ty "list"]=some (.bl true):=rfl
@[simp]def lO (f):xz [jv f,.ty "tuple"]=some (.bl true):=rfl
@[simp]def lM (p):xz [qc p,.ty "tuple"]=some (.bl true):=rfl
@[simp]def hV (p):jL [qc p]=some (.int 2):=rfl
@[simp]def ba (p):jE (qc p) (.int 0)=some (.int p.1):=rfl
@[simp]def hZ (p):jE (qc p) (.int 1)=some (.int p.2):=rfl
def uK (n)(r):qo (n+3) (jv r)=true:=by
 show(r.map qc).all (qo (n+2))=true;rw[List.all_map,UU];exact λp _=>rfl
def Iz (n)(f):qo (n+4) (jj f)=true:=by
 show(f.map jv).all (qo (n+3))=true;rw[List.all_map,UU];exact λr _=>uK n r
def tz (f g):qS (jj f) (jj g)=some (.bl (decide (f=g))):=by rw[AN (Iz 8 f) (Iz 8 g),cx]
structure FormOk (n:Int)(f:Jz):Prop where
 ne:f ≠ []
 rows:∀r∈f,RowOk n r
 len:f.length<=100
def cm {l:Yh}(h:l ≠ [])(w:Int):qx (l.map (· + w))=qx l+w:=by
 obtain⟨a,b⟩:=Xn h;refine(Ct () λy c=>?_).symm
 grind
def dD {l:Yh}(h:l ≠ [])(w:Int):qp (l.map (· + w))=qp l+w:=by
 obtain⟨a,b⟩:=Kq h;refine(Cs () λy c=>?_).symm
 grind
def qI (r:Jy):Prop:=(r.map (·.1)).Pairwise (· < ·)
def I1 {r:Jy}(h:qI r):r.Pairwise λx y=>jW x y=true:=by
 unfold qI at h;rw[U4] at h;refine h.imp λ{a b} z=>?_
 simp_all [jW]
def yH {r o:Jy}:JE r o=true↔∀p∈r,∃w,J5 o p.1=some w/\p.2<=w:=by
 grind[JE,xR,List.all_eq_true]
theorem QY {a b c:Jy}(e:JE a b=true)(f:JE b c=true):JE a c=true:=by
 rw[yH] at *;intro p hp;obtain⟨w,g,h⟩:=e p hp;obtain⟨v,i,j⟩:=f _ (Qn g);exact⟨v,i,Int.le_trans h j⟩
def IA {a b:Jy}(c:j4 a)(e:JE a b=true)(f:JE b a=true):∀p∈a,p∈b:=by
 rw[yH] at *;intro p hp;obtain⟨w,g,j⟩:=e p hp;have h:=Qn g;obtain⟨v,i,l⟩:=f _ h;rw[c.look hp] at i
 grind
theorem IB {a b:Jy}(f:j4 a)(g:j4 b)(h:qI a)(i:qI b)(c:JE a b=true)(e:JE b a=true):a=b:=
 WM wc (I1 h) (I1 i) λp=>⟨IA f c e p,IA g e c p⟩
theorem DB:∀{rs:Jz},rs ≠ []->(∀r∈rs,j4 r/\qI r)->∃m∈rs,∀o∈rs,JE o m=true->o=m
 | [],h,_=>Zn rfl h
 |x::rs,_,ok=>by
  by_cases q:rs=[]
  .simp_all
  .have ⟨m,a,b⟩:=DB q ()
   grind[Zqm,Zqs,QY,IB]
def zW {rs:Jz}{m:Jy}:qj rs m=true↔∀o∈rs,JE o m=true->o=m:=by
 grind[qj,List.isEmpty_iff,List.filter_eq_nil_iff]
structure Good (n:Int)(f:Jz):Prop where
 ne:f ≠ []
 rows:∀r∈f,RowOk n r
 rise:∀r∈f,qI r
 len:f.length<=40
 anti:∀r∈f,∀s∈f,JE r s=true->r=s
 srt:f.Pairwise λa b=>j7 a b=true
def W7 (r:Jy)(late t:Int):Int:=match J5 r t with
 |some w=>0-w
 |none=>late
def Qh (r:Jy)(late:Int)(n:Nat):Yh:=(List.range n).map λi:Nat=>W7 r late (i:Int)
def DC {r:Jy}{late t:Int}{n:Nat}(a:0<=t)(b:t<(n:Int)):jN (Qh r late n) t=W7 r late t:=by
 grind[jN,Qh,List.getD_eq_getElem?_getD,List.getElem?_map]
def IC (r)(late)(n):(Qh r late n).length=n:=by unfold Qh;simp
def dR {r:Jy}{late:Int}{n:Nat}(b:r ≠ [])(c:j4 r)(a:∀p∈r,0<=p.1/\p.1<(n:Int)):Qt r (Qh r late n)=0:=by
 have one:∀p∈r,jN (Qh r late n) p.1+p.2=0:=by
  intro p hp;rw[DC (a p hp).1 (a p hp).2];unfold W7;rw[c.look hp];show 0-p.2+p.2=0;lia
 refine(Cs ?_ λy e=>?_).symm
 .cases r with
  |nil=>exact Zn rfl b
  |cons p r=>exact Ja.mpr ⟨p,Zqs,one p Zqs⟩
 .obtain⟨p,hp,rfl⟩:=Ja.mp e;exact Int.le_of_eq (one p hp)
def dV (j n:Nat):min (j:Int) (n:Int)=((min j n:Nat):Int):=by
 lia
def ID {α: Type}(l:List α){k:Int}(a:0<=k):Qm l (some k) none none=l.drop k.toNat:=by
 have e:sliceBounds (some k) none none l.length=(((min k.toNat l.length:Nat):Int),(l.length:Int),1):=by
  obtain⟨j,rfl⟩:=Int.eq_ofNat_of_zero_le a;unfold sliceBounds;simp only;rw[Ze (Int.not_lt.mpr a),dV];exact rfl
 unfold Qm;rw[e,sliceRange_one];have ep:(λx:Nat=>l[x]?)=λx:Nat=>l.toArray[x]?:= by simp
 rw[ep,(pick_run l.toArray (min k.toNat l.length) (l.length-min k.toNat l.length))];by_cases c:k.toNat<=l.length
 .rw[Vl c,Uv ()]
 .rw[Nat.min_eq_right (),Vk (Zf _),Vk ()];exact List.take_nil
def DE {α: Type}{f:α -> Bool}{l:List α}{i:Nat}{p:α}(h:∀q∈l.take i,f q=false)(hp:l[i]? = some p)(a:f p=true):l.find? f=some p:=by
 grind[List.take_append_drop,List.drop_eq_getElem_cons]
structure ThingsOk (ts:Yh):Prop where
 ne:ts ≠ []
 len:ts.length<=4
 rng:∀t∈ts,0<=t/\t<12
 up:ts.Pairwise (· < ·)
def B0 {r:Jy}(h:qI r):j4 r:=by
 grind[qI,j4,List.Nodup]
def IE {α: Type}[Inhabited α]{P:Nat -> α -> Prop}{n:Nat}(h:∀i,i<n->∃a,P i a):∃g:Nat -> α,∀i,i<n->P i (g i):=by
 classical
 exact⟨λi=>if q:i<n then(h i q).choose else default,()⟩
def cp {r:Jy}(h:j4 r){p q:Int×Int}(hp:p∈r)(b:q∈r)(e:p.1=q.1):p=q:=by
 induction r with
 |nil=>cases hp
 |cons a r c =>
  grind[j4,List.map_cons,List.nodup_cons]
def ZI {r:Jy}{hs:Yh}{p:Int×Int}(hp:p∈r):jN hs p.1+p.2<=Qt r hs:=
 (Kq (λz=>())).2 _ ()
def IF {r:Jy}{hs:Yh}(a:r ≠ []):∃p∈r,Qt r hs=jN hs p.1+p.2:=have ⟨p,hp,e⟩:=Ja.mp (Kq (λz=>a (Jd.mp z))).1;⟨p,hp,e.symm⟩
def cR {r:Jy}{hs:Yh}{x:Int}(a:r ≠ []):Qt r hs<=x↔∀p∈r,jN hs p.1+p.2<=x:=by
 constructor
 .intro h p hp;exact Int.le_trans (ZI hp) h
 .intro h;obtain⟨p,hp,e⟩:=IF a;rw[e];exact h p hp
def KY {f:Jz}{hs:Yh}{r:Jy}(a:r∈f):JA f hs<=Qt r hs:=
 (Xn (λz=>())).2 _ ()
def Wh {f:Jz}{hs:Yh}(a:f ≠ []):∃r∈f,JA f hs=Qt r hs:=have ⟨p,hp,e⟩:=Ja.mp (Xn (λz=>a (Jd.mp z))).1;⟨p,hp,e.symm⟩
structure Over (f:Jz)(hs:Yh):Prop where
 ne:f ≠ []
 rne:∀r∈f,r ≠ []
 once:∀r∈f,j4 r
 bnd:∀r∈f,∀p∈r,0<=p.1/\p.1<(hs.length:Int)
structure RoundOk (n:Int)(fs:List Jz):Prop where
 len:(fs.length:Int)=n
 low:1<=n
 most:n<=12
 forms:∀f∈fs,FormOk n f
def wD {n:Int}{fs:List Jz}(R:RoundOk n fs){hs:Yh}(h:hs.length=fs.length):∀f∈fs,Over f hs:=λf b=>⟨(R.forms f b).ne,λr a=>((R.forms f b).rows r a).ne,λr a=>((R.forms f b).rows r a).once,λr a p hp=>by
 have:=((R.forms f b).rows r a).mem p hp;have:=R.len;lia⟩
def p4 (fs:List Jz):D:=.lst (fs.map jj)
@[simp]def vJ (fs):W0 (p4 fs)=some (fs.map jj):=rfl
open L2.ST
theorem DF:∀{ys a:Yh},a.Pairwise (· < ·)->ys.Pairwise (· < ·)->(∀x∈a,x∈ys)->a.length<=ys.length/\(a.length=ys.length->a=ys)
 | [],a,_,_,h=>by
  cases a with
  |nil=>simp
  |cons x a=>cases h x Zqs
 |y::ys,[],_,_,_=>by simp
 |y::ys,x::a,hx,hy,h=>by
  rw[List.pairwise_cons] at hx hy;rcases UI.mp (h x Zqs) with q|q
  .have ⟨b,c⟩:=DF hx.2 hy.2 λz hz=>by
    grind
   simp_all
  .obtain⟨b,_⟩:=DF (Ji.mpr hx) hy.2 λz hz=>by
    grind
   grind
theorem IG:∀{a b:Jy},a.map (·.1)=b.map (·.1)->(∀(i:Nat) p q,a[i]? = some p->b[i]? = some q->p.2<=q.2)->a≠b->j7 a b=true
 | [],[],_,_,h=>Zn rfl h
 | [],_::_,e,_,_=>by simp at e
 |_::_,[],e,_,_=>by simp at e
 |p::a,q::b,e,hw,hn=>by
  have f:=hw 0 p q rfl rfl;rw[V2];by_cases z:p=q
  .rw[Zd z];refine IG ((List.cons.inj e).2) (λi p q hp c=>hw (i+1) p q hp c) ()
  grind[WJ]
def ci {a b:Jy}(j:qI a)(e:qI b)(h:JE a b=true)(l:a≠b):yZ a b=true:=by
 have u:=yH.mp h;obtain⟨f,g⟩:=DF j e λx m=>by
  obtain⟨p,hp,rfl⟩:=Ja.mp m;obtain⟨w,c,_⟩:=u p hp;exact Ja.mpr ⟨(p.1,w),Qn c,rfl⟩
 rw[Zql,Zql] at f g;rw[XD];rcases Nat.lt_or_eq_of_le f with q|q
 .exact .inl q
 .refine .inr ⟨q,IG (g q) (λi p r hp n=>?_) l⟩;obtain⟨w,c,o⟩:=u p ();have s:p.1=r.1:=by
   have t:(a.map (·.1))[i]? = some p.1:=by grind
   simp_all
  have:=cp (B0 e) (Uf n) (Qn c) s.symm
  rwa [this]
def ZJ {α: Type}{ltb:α -> α -> Bool}(T:Tot ltb){l:List α}(e:l.Nodup):(JS ltb l).Pairwise λa b=>ltb a b=true:=by
 have c:(JS ltb l).Nodup:=(Q1 l).nodup_iff.mpr e;refine List.Pairwise.imp ?_ ((WK T l).and c);rintro a b ⟨f,g⟩;cases q:ltb a b with
 |true=>rfl
 |false=>exact Zn (T.tot _ _ q f) g
def qX (rs:Jz):Jz:=JS yZ (JS j7 (qT rs))
theorem fT {rs:Jz}{r:Jy}:r∈qX rs↔r∈rs:=by
 grind[qX,bS,Q1]
def IH (rs:Jz):(qX rs).Pairwise λa b=>yZ a b=true:=ZJ v6 ((Q1 _).nodup_iff.mpr (HK rs))
def II (rs:Jz):(qX rs).length<=rs.length:=by
 unfold qX;rw[(Q1 _).length_eq,(Q1 _).length_eq];exact HM rs
def yY (kept:Jz)(r:Jy):Jz:=if kept.any (λo=>JE o r)=true then kept else kept++[r]
def xF (rs:Jz):Jz:=(qX rs).filter (qj rs)
theorem IJ {rs:Jz}(n:∀r∈rs,qI r):∀i,i<=(qX rs).length->((qX rs).take i).foldl yY []=((qX rs).take i).filter (qj rs)
 | 0,_=>by simp
 |i+1,hi=>by
  have E:=IJ n i ();have st:=IH rs;have p:∀r,r∈qX rs↔r∈rs:=λr=>fT;generalize qX rs=L at hi E st p;have a:i<L.length:=()
  rw[QV (Zqg a),Vq,List.filter_append,E];have s:∀o∈L.take i,yZ o L[i]=true:=λo c=>by
   obtain⟨j,t,rfl⟩:=Uz c;rw[Uw] at t;rw[List.getElem_take];exact Jk.mp st j i () a ()
  have u:=(p L[i]).mp (UC a);show yY ((L.take i).filter (qj rs)) L[i]=_;unfold yY;cases q:qj rs L[i] with
  |true =>
   have low:=zW.mp q;rw[Ze,List.filter_cons_of_pos q,List.filter_nil];intro z;have ⟨o,c,v⟩:=Vo.mp z;have c:=(Jg.mp c).1;have b:=s o c;rw[(low o ((p o).mp (List.mem_of_mem_take c)) v)] at b;have:=v6.asy _ _ b
   simp_all
  |false =>
   have H:¬ ∀o∈rs,JE o L[i]=true->o=L[i]:=λz=>by rw[zW.mpr z] at q;cases q
   obtain⟨o,c,v,hne⟩:∃o∈rs,JE o L[i]=true/\o≠L[i]:=by
    exact by grind
   obtain⟨f,y,A⟩:=DB (λz=>by
    have:o∈rs.filter λo=>JE o L[i]:=Jg.mpr ⟨c,v⟩;rw[z] at this;cases this) λr h=>⟨B0 (n r (Jg.mp h).1),()⟩
   obtain⟨F,B⟩:=Jg.mp y;have g:=zW.mpr λx G l=>A x (Jg.mpr ⟨G,QY l B⟩) l;have m:f≠L[i]:=by grind
   have e:f∈L.take i:=by
    obtain⟨j,t,C⟩:=Uz ((p f).mpr F);rcases Vh j i with w|w|w
    .rw[<- C,List.mem_take_iff_getElem];exact by grind
    .subst w;exact Zn C.symm m
    .have b:=Jk.mp st i j a t w;rw[C] at b;have:=v6.asy _ _ b;rw[(ci (n f F) (n _ u) B m)] at this;cases this
   rw[Zd (Vo.mpr ⟨f,Jg.mpr ⟨e,g⟩,B⟩),List.filter_cons_of_neg (by rw[q];simp),List.filter_nil,ZA]
def IK (rs:Jz):JS j7 (xF rs)=JQ rs:=by
 have c:(xF rs).Nodup:=by
  have:(qX rs).Nodup:=by
   refine(IH rs).imp λ{a b} h e=>?_;have:=v6.asy _ _ h
   simp_all
  exact List.Pairwise.sublist (List.filter_sublist) this
 refine WM xM (ZJ xM c) (ZJ xM ((Bz rs rs []).2.2 VB)) λr=>?_
 grind[xF,xg,fT,Q1]
structure PairsOk (ts:Yh)(r:Jy):Prop where
 ne:r ≠ []
 len:r.length<=4
 mem:∀p∈r,p.1∈ts
 up:r.Pairwise λp q=>p.1<q.1
def tZ {r:Jy}(h:r.Pairwise λp q=>p.1<q.1):j4 r:=by
 grind[j4,List.Nodup,List.pairwise_map]
def PairsOk.row {a:Yh}{r:Jy}(T:ThingsOk a)(P:PairsOk a r):RowOk 12 r:=⟨P.ne,tZ P.up,λp hp=>T.rng _ (P.mem p hp),Zh P.len ()⟩
def cG {s r:Jy}{hs:Yh}(a:s ≠ [])(e:j4 r)(h:JE s r=true):Qt s hs<=Qt r hs:=by
 rw[cR a];intro p hp;obtain⟨w,b,c⟩:=yH.mp h p hp;have:=ZI (hs:=hs) (Qn b)
 grind
def Xa {rs:Jz}(ok:∀r∈rs,j4 r/\qI r){r:Jy}(e:r∈rs):∃s∈JQ rs,JE s r=true:=by
 have i:=yH.mpr λp hp=>⟨p.2,(ok r e).1.look hp,UW _⟩;have ne:rs.filter (λo=>JE o r) ≠ []:=λz=>by
  simp_all
 obtain⟨m,f,h⟩:=DB ne ();obtain⟨b,a⟩:=Jg.mp f;exact⟨m,xg.mpr ⟨b,zW.mpr λo g c=>h o (Jg.mpr ⟨g,QY c a⟩) c⟩,a⟩
def cI {rs:Jz}{hs:Yh}(j:rs ≠ [])(ok:∀r∈rs,r ≠ []/\j4 r/\qI r):JA (JQ rs) hs=JA rs hs:=by
 obtain⟨r,i,e⟩:=Wh (hs:=hs) j;obtain⟨s,f,l⟩:=Xa (λr h=>(ok r h).2) i;have a:=KY (hs:=hs) f;have b:=cG (hs:=hs) (ok s (xg.mp f).1).1 (ok r i).2.1 l;have ne:JQ rs ≠ []:=by grind
 obtain⟨m,g,n⟩:=Wh (hs:=hs) ne;have c:=KY (hs:=hs) (xg.mp g).1;lia
def de {f g:Jz}(h:f.length+g.length<=1000):j3 (jj f) (jj g)=some (jj (f++g)):=by
 show(if(f.map jv).length+(g.map jv).length<=sizeLine then _ else _)=_;rw[Zql,Zql,Zd (Ke h)];unfold jj;simp
def KZ (rs):(JQ rs).Pairwise λa b=>j7 a b=true:=ZJ xM ((Bz rs rs []).2.2 VB)
def cA (rs):(JQ rs).Nodup:=(KZ rs).imp λ{a b} h e=>by
 have:=xM.asy _ _ h
 simp_all
structure JRow (r:Jy):Prop where
 ne:r ≠ []
 rise:qI r
 bnd:∀p∈r,0<=p.1/\p.1<12
def JRow.once {r:Jy}(h:JRow r):j4 r:=B0 h.rise
def JRow.len {r:Jy}(h:JRow r):r.length<=12:=by
 have b:∀(l:Yh) (a:Int),l.Pairwise (· < ·)->(∀x∈l,a<=x/\x<12)->(l.length:Int)<=max 0 (12-a):=by
  intro l
  induction l with
  |nil=>simp;lia
  |cons x l c =>
   intro a hp e;rw[List.pairwise_cons] at hp;have g:=e x Zqs;have:=c (x+1) hp.2 ()
   grind
 have:=b _ 0 h.rise λx f=>by
  obtain⟨p,hp,rfl⟩:=Ja.mp f;exact h.bnd p hp
 grind
def asc (x:Str):Prop:=x.cps.all (· < 128)=true
def fS {x:Str}:asc x↔∀c∈x.cps.toList,c<128:=by
 unfold asc;rw[<- Array.all_toList,UU];simp
def dm (a b:Str):(a++b).length=a.length+b.length:=Array.size_append
def dj (a b:Str):(a++b).cps.toList=a.cps.toList++b.cps.toList:=Array.toList_append
def tG {a b:Str}(f:asc a)(g:asc b):asc (a++b):=fS.mpr λc e=>by
 rw[dj] at e;rcases Jb.mp e with h|h
 .exact fS.mp f c h
 .exact fS.mp g c h
structure TxtOk (n:Nat)(x:Str):Prop where
 len:x.length<=n
 asc:asc x
def TxtOk.app {m n:Nat}{a b:Str}(c:TxtOk m a)(e:TxtOk n b):TxtOk (m+n) (a++b):=⟨by rw[dm];have:=c.len;have:=e.len;lia,tG c.asc e.asc⟩
def TxtOk.mono {m n:Nat}{a:Str}(b:TxtOk m a)(h:m<=n):TxtOk n a:=⟨Zh b.len h,b.asc⟩
def B2 {n:Nat}{x:Str}(h:(decide (x.length<=n)&&x.cps.all (· < 128))=true):TxtOk n x:=by
 rw[Ud] at h;exact⟨of_decide_eq_true h.1,h.2⟩
def IL {m n:Nat}{a b:Str}(c:TxtOk m a)(e:TxtOk n b)(h:m+n<=1000):j3 (.str a) (.str b)=some (.str (a++b)):=Zd (Ke (by have:=c.len;have:=e.len;lia))
def ck:∀k:Fin 64,(Uy (k.val:Int).natAbs.log2 1900=true)/\(decide ((toString (k.val:Int):Str).length<=2)&&(toString (k.val:Int):Str).cps.all (· < 128))=true:=by decide +kernel
def xW (k:Nat):Str:=(toString (k:Int):Str)
def DG {k:Nat}(h:k<64):yO [.int (k:Int)]=some (.str (xW k))/\TxtOk 2 (xW k):=by
 obtain⟨a,b⟩:=ck ⟨k,h⟩;exact⟨Zd a,B2 b⟩
def low (x:Str):Prop:=∀c∈x.cps.toList,97<=c/\c<123
@[simp]def mw (n:Nat)(g:FS)(a b c d e:D):jA n 5 g [a,b,c,d,e]=(g (~~~a::~~~b::~~~c::~~~d::~~~e::List.replicate (n-5) none)).bind xx:=rfl
structure Pl where
 name:Str
 givens:Yk
 rows:List (Str×Str×Jy)
def jD (r:Str×Str×Jy):D:=.tup [.str r.1,.str r.2.1,jv r.2.2]
def DH (p:Pl):D:=.tup [.str p.name,.lst (p.givens.map .str),.lst (p.rows.map jD)]
def JW (p:Pl):D:=.ins "Plan" ["name", "givens", "rows"] [.str p.name,.lst (p.givens.map .str),.lst (p.rows.map jD)]
def JH (ps:List Pl):D:=.ins "Book" ["plans"] [.lst (ps.map JW)]
def uJ (p:Str×Int):D:=.tup [.str p.1,.int p.2]
@[simp]def ge (r):jE (jD r) (.int 0)=some (.str r.1):=rfl
@[simp]def gc (r):jE (jD r) (.int 1)=some (.str r.2.1):=rfl
@[simp]def gb (r):jE (jD r) (.int 2)=some (jv r.2.2):=rfl
@[simp]def l6 (p):jE (DH p) (.int 0)=some (.str p.name):=rfl
@[simp]def lf (p):jE (DH p) (.int 1)=some (.lst (p.givens.map .str)):=rfl
@[simp]def l5 (p):jE (DH p) (.int 2)=some (.lst (p.rows.map jD)):=rfl
@[simp]def gh (p):jE (uJ p) (.int 0)=some (.str p.1):=rfl
@[simp]def gg (p):jE (uJ p) (.int 1)=some (.int p.2):=rfl
@[simp]def l0 (ps):qy "Book" "plans" (JH ps)=some (.lst (ps.map JW)):=rfl
@[simp]def gB (p):qy "Plan" "name" (JW p)=some (.str p.name):=rfl
@[simp]def lJ (p):qy "Plan" "givens" (JW p)=some (.lst (p.givens.map .str)):=rfl
@[simp]def gA (p):qy "Plan" "rows" (JW p)=some (.lst (p.rows.map jD)):=rfl
def DI {n:Nat}{x:Str}(h:asc x):qo (n+1) (.str x)=true:=by
 show PyData.strOk x=true;unfold PyData.strOk;rw[<- Array.all_toList,UU];exact λc a=>Zp (Uh (fS.mp h c a) ())
def dw {α: Type}{f:α -> D}{l:List α}(h:qo 12 (.lst (l.map f))=true):qS (.lst (l.map f)) (.lst [])=some (.bl l.isEmpty):=by
 rw[AN h sS,cV]
def DJ {x y:Str}(h:x.cps.toList=y.cps.toList):x=y:=by
 cases x
 simp_all
def rF (l:Yj):Bool:=l[0]? == some 120||l[0]? == some 121||l[0]? == some 113||l[2]? == some 113
structure WB (ps:List Pl):Prop where
 l1:1<=ps.length
 l2:ps.length<=20
 nd:(ps.map (·.name)).Nodup
 ok:∀p∈ps,TxtOk 12 p.name/\1<=p.name.length/\p.name ≠ "all" /\ p.name ≠ "first"
 how:∀(i:Nat) (p:Pl),ps[i]? = some p->∀r∈p.rows,r.2.1 = "all" \/ r.2.1 = "first" \/ r.2.1∈(ps.take i).map (·.name)
 sz:∀p∈ps,p.rows.length<=40/\p.givens.length<=12
@[simp]def bo (is)(f)(sd):fy is f sd=(f (qz is sd)).bare.bind λd=>if Ig d then .ok d else .no:=rfl
@[simp]def bu (c)(names)(Fn)(fa)(sd):XG c names Fn fa sd=(fa sd).bind λds=>(Fn ds).bind λes=>.ok (.ins c names es):=rfl
@[simp]def cq (i j k)(r)(sd):JO (.tup [i,j,k]) (jD r) sd=.ok (((sd.set i (~~~(.str r.1))).set j (~~~(.str r.2.1))).set k (~~~(jv r.2.2))):=rfl
@[simp]def lq (x):QF (.str x)=some (.inr x):=rfl
def dT (t:List (Str×Int)):D:=.dct (t.map λp=>.inr p.1) (t.map λp=>.int p.2)
def yp (t:List (Str×Int))(x:Str):Option Int:=(t.find? λp=>decide (p.1=x)).map (·.2)
def da {a b:Str}:((UP a:j6)=.inr b)↔a=b:=()
theorem DK:∀(t:List (Str×Int)) (x:Str),jF (t.map λp=>.inr p.1) (t.map λp=>.int p.2) (.inr x)=(yp t x).map .int
 | [],_=>rfl
 |p::t,x=>by
  rw[Zl,Zl];unfold jF yp;rw[List.find?_cons];by_cases h:p.1=x
  .simp_all
  .rw[Ze (λz=>h (da.mp z)),Zo h];exact DK t x
@[simp]def rW (t)(x):jE (dT t) (.str x)=(yp t x).map .int:=DK t x
@[simp]def rX (neg)(t)(x):zZ neg (.str x) (dT t)=some (.bl (if neg then !(yp t x).isSome else(yp t x).isSome)):=by
 show some (D.bl (if neg then !(jF (t.map λp=>.inr p.1) (t.map λp=>.int p.2) (.inr x)).isSome else(jF (t.map λp=>.inr p.1) (t.map λp=>.int p.2) (.inr x)).isSome))=_;rw[DK,Option.isSome_map]
def bR {t:List (Str×Int)}{x:Str}:yp t x=none↔x∉t.map (·.1):=by
 grind[yp,Option.map_eq_none_iff,List.find?_eq_none]
def tj {a b:List (Str×Int)}{x:Str}(h:x∉a.map (·.1)):yp (a++b) x=yp b x:=by
 unfold yp;rw[List.find?_append,Option.map_eq_none_iff.mp (bR.mpr h)];rfl
def k8 (x:Str)(v:Int)(b:List (Str×Int)):yp ((x,v)::b) x=some v:=by
 simp_all [yp]
def mS (how:Str):Bool:=!(decide (how = "all")||decide (how = "first"))
def vG (t:List (Str×Int))(p:Pl):Int:=p.rows.length+((p.rows.filter λr=>mS r.2.1).map λr=>(yp t r.2.1).getD 0).sum
def vh (t:List (Str×Int))(p:Pl):List (Str×Int):=t++[(p.name,vG t p)]
def ye (ps:List Pl):List (Str×Int):=ps.foldl vh []
def tU (ps)(p):ye (ps++[p])=ye ps++[(p.name,vG (ye ps) p)]:=by
 unfold ye;rw[Vq];rfl
theorem IM:∀(l:List Pl) (t:List (Str×Int)),∃u,l.foldl vh t=t++u
 | [],t=>⟨[],()⟩
 |p::l,t=>by
  obtain⟨u,e⟩:=IM l (vh t p)
  simp_all [vh]
theorem IN:∀(l:List Pl) t,(l.foldl vh t).map (·.1)=t.map (·.1)++l.map (·.name)
 | [],t=>by simp
 |p::l,t=>by
  rw[U7,IN l];unfold vh;simp
theorem DM (l):(ye l).map (·.1)=l.map (·.name):=by
 grind[ye,IN]
def WB.fresh {ps:List Pl}(W:WB ps){i:Nat}{p:Pl}(f:ps[i]? = some p):p.name∉(ye (ps.take i)).map (·.1):=by
 rw[DM];intro z;have a:i<ps.length:=();obtain⟨y,b,e⟩:=Ja.mp z;obtain⟨j,c,g⟩:=Uz b;rw[Uw] at c;have h:=Jk.mp (U4.mp W.nd) j i () a ()
 simp_all
def WB.at {ps:List Pl}(W:WB ps){i:Nat}{p:Pl}(a:ps[i]? = some p):yp (ye ps) p.name=some (vG (ye (ps.take i)) p):=by
 have e:ye ps=(ps.drop (i+1)).foldl vh (ye (ps.take i)++[(p.name,vG (ye (ps.take i)) p)]):=by
  rw[<- tU];unfold ye;rw[<- Vq];have tk:ps.take (i+1)=ps.take i++[p]:=by rw[Vu,a];rfl
  rw[<- tk,UM]
 obtain⟨u,b⟩:=IM (ps.drop (i+1)) (ye (ps.take i)++[(p.name,vG (ye (ps.take i)) p)]);rw[e,b,Ug,tj (W.fresh a)];exact k8 _ _ _
def WB.part {ps:List Pl}(W:WB ps){i:Nat}{p:Pl}(c:ps[i]? = some p){r:Str×Str×Jy}(f:r∈p.rows):(yp (ye (ps.take i)) r.2.1).isSome=mS r.2.1:=by
 have a:∀w:Str,(∀y∈ps,y.name≠w)->yp (ye (ps.take i)) w=none:=λw g=>bR.mpr (by
  grind[DM])
 rcases W.how i p c r f with z|z|z
 .rw[z,a "all" λy b=>(W.ok y b).2.2.1];rfl
 .rw[z,a "first" λy b=>(W.ok y b).2.2.2];rfl
 .have j:(yp (ye (ps.take i)) r.2.1).isSome=true:=by
   cases h:yp (ye (ps.take i)) r.2.1 with
   |some v=>rfl
   |none=>exact Zn (by rwa [DM]) (bR.mp h)
  have ⟨y,b,e⟩:=Ja.mp z;have ok:=W.ok y ()
  simp_all [mS]
@[simp]def nE (fe)(sd)(hp):zl fe sd hp=(fe sd).bind λd=>.ok (d,hp):=rfl
@[simp]def bm (g)(fa fb)(sd)(hp):zr g fa fb sd hp=(fa sd hp).bind λp=>(fb sd p.2).bind λq=>(Res.ofO (g p.1 q.1)).bind λz=>.ok (z,q.2):=rfl
@[simp]def l7 (Fn)(fr)(sd)(hp):Wg Fn fr sd hp=(fr sd).bind λds=>Fn ds hp:=rfl
@[simp]def gR (sd)(hp):Bt sd hp=.ok ([],hp):=rfl
@[simp]def c0 (f)(g)(sd)(hp):W6 f g sd hp=(f sd hp).bind λp=>(g sd p.2).bind λq=>.ok (p.1::q.1,q.2):=rfl
@[simp]def gQ (fr)(sd)(hp):vE fr sd hp=(fr sd hp).bind λp=>if p.1.length<=1000 then .ok (.tup p.1,p.2) else .no:=rfl
@[simp]def pS (i)(f)(sd)(hp):sU i f sd hp=(f sd hp).bind λp=>.ok (.next (sd.set i (~~~(p.1))) p.2):=rfl
@[simp]def b8 (i)(g)(sd)(hp):w6 i g sd hp=g (qz [i] sd) hp:=rfl
@[simp]def bj (is)(f)(sd)(hp):bU is f sd hp=(f (derI hp is sd)).strict.bind λd=>if KP d then .ok (d,hp) else .no:=rfl
def eK (g:qG):Out2->Res (D×HP)
 | .next sd hp=>g sd hp
 |_=>.no
@[simp]def bG (g)(sd)(hp):eK g (.next sd hp)=g sd hp:=rfl
@[simp]def IP (a:qV)(g:qG)(sd:SD)(hp:HP):y9 a g sd hp=(a sd hp).bind (eK g):=by
 rfl
@[simp]def Wi (fc)(ga g)(sd)(hp):bH fc ga g sd hp=(fc sd hp).bind λp=>if p.1 then ga sd p.2 else g sd p.2:=rfl
def tK (p:D×HP):Res (Bool×HP):=match p.1 with
 | .bl b=>.ok (b,p.2)
 |_=>.no
@[simp]def r8 (b)(hp):tK (.bl b,hp)=.ok (b,hp):=rfl
@[simp]def lc (f)(sd)(hp):sJ f sd hp=(f sd hp).bind tK:=rfl
def DN (a)(d):j5 [(a,d)] a=some d:=Zd rfl
def dr (a)(d e):XH [(a,d)] a e=[(a,e)]:=Zd rfl
def dJ {n ar:Nat}{g:qG}{ds:YG}{a:Addr}{d b v:D}(h:ds.length=ar)(c:g (Q2 n ds) [(a,d)]=.ok (v,[(a,b)])):Ky n ar g ds [(a,d)]=.ok (v,[(a,b)]):=by
 simp_all [Ky]
def xN {a b:FS}{sd sd':SD}{r:Res Out}(h:a sd=.ok (.next sd'))(c:b sd'=r):jh a b sd=r:=()
def hB {a:qV}{b:qG}{sd sd':SD}{hp hp':HP}{r:Res (D×HP)}(h:a sd hp=.ok (.next sd' hp'))(c:b sd' hp'=r):y9 a b sd hp=r:=()
def IQ {g:FS}{sd sd':SD}{hp:HP}(h:g sd=.ok (.next sd')):vm g sd hp=.ok (.next sd' hp):=()
def K9 {x y:Str}(a:asc x)(b:asc y):qS (.str x) (.str y)=some (.bl (decide (x=y))):=by
 rw[AN (DI a) (DI b)]
 simp_all [Qp]
def Xb:asc "all" := by unfold asc;decide +kernel
def Xc:asc "first" := by unfold asc;decide +kernel
def IR:qS (.str "all") (.str "all")=some (.bl true):=by rw[K9 Xb Xb];congr 2
def IS:qS (.str "first") (.str "all")=some (.bl false):=by rw[K9 Xc Xb];congr 2
def IT:qS (.str "first") (.str "first")=some (.bl true):=by rw[K9 Xc Xc];congr 2
def xq (found:Yh)(its:Jy):Yh:=its.map λp=>jN found p.1+p.2
def vL (found:Yh)(r:Str×Str×Jy):Int:=if r.2.1 = "all" then qp (xq found r.2.2) else qx (xq found r.2.2)
def z7 (a:List (Str×Str×Jy))(hs:Yh):Yh:=a.foldl (λf r=>f++[vL f r]) hs
structure RowsOk (n:Nat)(rows:List (Str×Str×Jy)):Prop where
 len:rows.length<=60
 pos:1<=rows.length
 how:∀r∈rows,r.2.1 = "all" \/ r.2.1 = "first"
 ne:∀r∈rows,r.2.2 ≠ []
 sh:∀r∈rows,r.2.2.length<=60
 rng:∀(k:Nat) r,rows[k]? = some r->∀p∈r.2.2,0<=p.1/\p.1<(n:Int)+k
theorem Bf:∀a hs,(z7 a hs).length=hs.length+a.length
 | [],hs=>rfl
 |r::a,hs=>by
  show(z7 a (hs++[vL hs r])).length=_;rw[Bf a,Ub,Uu,Zu];lia
def sI {found:Yh}{its:Jy}(h:its ≠ []):xq found its ≠ []:=λz=>h (Jd.mp z)
def tN (found)(its):(xq found its).length=its.length:=by unfold xq;simp
def tH {found:Yh}{its:Jy}(h:∀p∈its,0<=p.1/\p.1<(found.length:Int)):jT (.tup [0,1]) (ji j3 (ji jE (jb 2) (jb 0)) (jb 1)) [none,none,~~~(.lst (found.map .int))] (its.map qc)=.ok ((xq found its).map .int):=by
 unfold xq;rw[Zw];exact Ku λp hp=>by
  have:=Ix (h p hp).1 (h p hp).2;simp[this]
def RowsOk.at {n:Nat}{a:List (Str×Str×Jy)}(ok:RowsOk n a){hs:Yh}(c:hs.length=n){i:Nat}{r:Str×Str×Jy}(h:a[i]? = some r):(∀p∈r.2.2,0<=p.1/\p.1<((z7 (a.take i) hs).length:Int))/\(z7 (a.take i) hs).length=n+i/\i<a.length/\r∈a:=by
 have b:=(Je.mp h).1;have e:(z7 (a.take i) hs).length=n+i:=by rw[Bf,Uw];lia
 refine⟨λp hp=>?_,e,b,Uf h⟩;have:=ok.rng i r h p hp;lia
def DO {α: Type}{f:α -> D}(ys:List α)(x:α):jE (.lst ((ys++[x]).map f)) (.int (-1))=some (f x):=by
 show qr ((ys++[x]).map f) (-1)=_;unfold qr y0;rw[Ze (),Zd (by rw[Zql,Ub,Uu];lia)];have e:((-1:Int)+(((ys++[x]).map f).length:Int)).toNat=ys.length:=by
  rw[Zql,Ub,Uu];lia
 simp_all
def DP {α: Type}{l:List α}(h:l ≠ []):∃ys x,l=ys++[x]:=⟨l.dropLast,l.getLast h,(List.dropLast_concat_getLast h).symm⟩
def kB {c:v5}{a b:qV}{sd:SD}{hp:HP}{r:Res Out2}(h:c sd hp=.ok true)(e:a sd hp=r):zy c a b sd hp=r:=by
 rwa [Ik,h]
def kC {c:v5}{b a:qV}{sd:SD}{hp:HP}{r:Res Out2}(h:c sd hp=.ok false)(e:a sd hp=r):zy c b a sd hp=r:=by
 rwa [Ik,h]
@[simp]def gS (fo fi)(sd)(hp):vF fo fi sd hp=(fo sd hp).bind λp=>(fi sd p.2).bind (rP p.1):=rfl
@[simp]def lE (Fn)(fr)(sd)(hp):d8 Fn fr sd hp=(fr sd hp).bind λp=>Fn p.1 p.2:=rfl
def rH:Pl:=⟨"",[],[]⟩
abbrev Rw:=Str×Str×Jy
structure RwP (ps:List Pl)(n:Int)(r:Rw):Prop where
 nm:asc r.1
 how:r.2.1 = "all" \/ r.2.1 = "first" \/ ∃q∈ps,r.2.1=q.name/\r.2.2.length=q.givens.length
 ne:r.2.2 ≠ []
 sh:r.2.2.length<=10
 rng:∀p∈r.2.2,0<=p.1/\p.1<n
 wt:∀p∈r.2.2,-1000000000000000000000000000000<=p.2/\p.2<=1000000000000000000000000000000
structure PlP (ps:List Pl)(p:Pl):Prop where
 g1:1<=p.givens.length
 g2:p.givens.length<=4
 r1:1<=p.rows.length
 r2:p.rows.length<=8
 row:∀(k:Nat) r,p.rows[k]? = some r->RwP ps ((p.givens.length:Int)+k) r
structure BkP (ps:List Pl):Prop where
 len:ps.length<=4
 nm:∀(i:Nat) p,ps[i]? = some p->asc p.name/\p.name ≠ "all" /\ p.name ≠ "first"
 inj:∀(i j:Nat) p q,ps[i]? = some p->ps[j]? = some q->p.name=q.name->i=j
 ok:∀(i:Nat) p,ps[i]? = some p->PlP (ps.take i) p
def BkP.at {ps:List Pl}(B:BkP ps){i:Nat}{p:Pl}(h:ps[i]? = some p):i<ps.length/\i<4/\asc p.name/\p.name ≠ "all" /\ p.name ≠ "first" := have a:=(Je.mp h).1;have l:=B.len;⟨a,(),B.nm i p h⟩
theorem BkP.find {ps:List Pl}(B:BkP ps){i:Nat}{p:Pl}(h:ps[i]? = some p):ps.find? (λq=>decide (q.name=p.name))=some p:=by
 refine DE (λq c=>?_) h (Zp rfl);obtain⟨j,a⟩:=Jn.mp c;have b:=(Je.mp a).1;rw[Uw] at b;rw[VR ()] at a;refine Zo λe=>?_;have:=B.inj j i q p a h e;lia
def xD (rc:Str->List Int->Int)(found:Yh)(r:Rw):Int:=if r.2.1 = "all" then qp (xq found r.2.2) else if r.2.1 = "first" then qx (xq found r.2.2) else rc r.2.1 (xq found r.2.2)
def qg (rc:Str->List Int->Int)(a:List Rw)(hs:Yh):Yh:=a.foldl (λf r=>f++[xD rc f r]) hs
def qW (ps:List Pl):Nat->Pl->List Int->List Int
 | 0,_,_=>[]
 |n+1,p,hs=>qg (λx a=>(qW ps n ((ps.find? λq=>decide (q.name=x)).getD rH) a).getLastD 0) p.rows hs
def IU {rc:Str->List Int->Int}{a:List Rw}{hs:Yh}{i:Nat}{r:Rw}(h:a[i]? = some r):qg rc (a.take (i+1)) hs=qg rc (a.take i) hs++[xD rc (qg rc (a.take i) hs) r]:=by
 simp_all [qg,Vu]
theorem DQ (rc):∀a hs,(qg rc a hs).length=hs.length+a.length
 | [],hs=>rfl
 |r::a,hs=>by
  show(qg rc a (hs++[xD rc hs r])).length=_;rw[DQ rc a,Ub,Uu,Zu];lia
def dU {ps:List Pl}{n:Nat}{p:Pl}{hs:Yh}:(qW ps (n+1) p hs).length=hs.length+p.rows.length:=DQ _ _ _
def cD {ps a:List Pl}{n:Nat}{p:Pl}{hs:Yh}(P:PlP a p):∃ys,qW ps (n+1) p hs=ys++[(qW ps (n+1) p hs).getLastD 0]:=by
 have ne:qW ps (n+1) p hs ≠ []:=λz=>by
  have b:=dU (ps:=ps) (n:=n) (p:=p) (hs:=hs);have c:=P.r1
  grind
 obtain⟨ys,x,e⟩:=DP ne
 simp_all
def PlP.at {a:List Pl}{p:Pl}(P:PlP a p){rc:Str->List Int->Int}{hs:Yh}(f:hs.length=p.givens.length){i:Nat}{r:Rw}(h:p.rows[i]? = some r):(∀y∈r.2.2,0<=y.1/\y.1<((qg rc (p.rows.take i) hs).length:Int))/\(qg rc (p.rows.take i) hs).length=p.givens.length+i/\i<p.rows.length:=by
 have b:=(Je.mp h).1;have e:(qg rc (p.rows.take i) hs).length=p.givens.length+i:=by rw[DQ,Uw];lia
 refine⟨λy c=>?_,e,b⟩;have:=(P.row i r h).rng y c;lia
def BkP.snoc {ps:List Pl}{p:Pl}(B:BkP ps)(l:ps.length<4)(P:PlP ps p)(c:asc p.name/\p.name ≠ "all" /\ p.name ≠ "first")(b:∀q∈ps,q.name≠p.name):BkP (ps++[p]):=by
 have a:∀(i:Nat) q,(ps++[p])[i]? = some q->(i<ps.length/\ps[i]? = some q)\/(i=ps.length/\q=p):=λi q h=>by
  rcases Vs i ps.length with z|z
  .rw[UZ z] at h;exact .inl ⟨z,h⟩
  .rw[Vc z] at h;rcases VC (i-ps.length) with y|y
   .rw[y] at h;cases h;exact .inr ⟨(),rfl⟩
   .rw[Vr (by rw[Uu];lia)] at h;cases h
 refine⟨(),λi q h=>?_,λi j q r h h' e=>?_,λi q h=>?_⟩
 .rcases a i q h with ⟨_,z⟩|⟨rfl,rfl⟩
  .exact B.nm i q z
  .exact c
 .rcases a i q h with ⟨_,z⟩|⟨rfl,rfl⟩<;>rcases a j r h' with ⟨_,y⟩|⟨rfl,rfl⟩
  .exact B.inj i j q r z y e
  .exact Zn e (b q (Uf z))
  .exact Zn e.symm (b r (Uf y))
  .rfl
 .rcases a i q h with ⟨y,z⟩|⟨rfl,rfl⟩
  .rw[List.take_append_of_le_length ()];exact B.ok i q z
  simp_all
def sV:BkP []:=⟨Ua _,(by intro i p h;cases h),(by intro i j p q h;cases h),(by intro i p h;cases h)⟩
def BkP.ascs {ps:List Pl}(B:BkP ps):∀q∈ps,asc q.name:=λq a=>have ⟨i,b⟩:=Jn.mp a;(B.at b).2.2.1
def xE (ps:List Pl)(n:Nat)(x:Str)(a:Yh):Int:=(qW ps n ((ps.find? λq=>decide (q.name=x)).getD rH) a).getLastD 0
def DR (ps)(n)(p)(hs):qW ps (n+1) p hs=qg (xE ps n) p.rows hs:=rfl
theorem BkP.how {ps:List Pl}(B:BkP ps){i:Nat}{p:Pl}(hp:ps[i]? = some p){k:Nat}{r:Rw}(c:p.rows[k]? = some r):r.2.1 = "all" \/ r.2.1 = "first" \/ (asc r.2.1/\r.2.1 ≠ "all" /\ r.2.1 ≠ "first" /\ ∃j q,j<i/\ps[j]? = some q/\r.2.1=q.name/\r.2.2.length=q.givens.length):=by
 rcases((B.ok i p hp).row k r c).how with z|z|⟨q,z1,z2,z3⟩
 .exact .inl z
 .exact .inr (.inl z)
 .obtain⟨j,a⟩:=Jn.mp z1;have b:=(Je.mp a).1;rw[Uw] at b;rw[VR ()] at a;obtain⟨_,_,e,f,g⟩:=B.at a;exact .inr (.inr ⟨by rwa [z2],by rwa [z2],by rwa [z2],j,q,(),a,z2,z3⟩)
def BkP.part {ps:List Pl}(B:BkP ps){j n:Nat}{q:Pl}(a:ps[j]? = some q)(b:Yh):∃ys,qW ps (n+1) q b=ys++[xE ps (n+1) q.name b]:=by
 obtain⟨ys,e⟩:=cD (B.ok j q a);refine⟨ys,?_⟩;unfold xE
 rwa [B.find a]
theorem DS {α: Type}:∀{l m:List α},l.Nodup->(∀x∈l,x∈m)->l.length<=m.length
 | [],m,_,_=>Ua _
 |x::l,m,h,s=>by
  obtain⟨a,b,rfl⟩:=List.append_of_mem (s x Zqs);have ⟨e,c⟩:=Jl.mp h;have f:=DS (m:=a++b) c λy g=>by
   grind
  grind
def xi (t g:Jz):Jz:=JQ (t++g)
structure Fm (n:Int)(U:Jz)(f:Jz):Prop where
 good:Good n f
 sub:∀r∈f,r∈U
def c9 {n:Int}{f:Jz}(G:Good n f):f.Nodup:=G.srt.imp λ{a b} h e=>by
 have:=xM.asy _ _ h
 simp_all
def Fm.len {n:Int}{U f:Jz}(F:Fm n U f)(h:U.length<=28):f.length<=28:=Zh (DS (c9 F.good) F.sub) h
def Fm.step {n:Int}{U t g:Jz}(T:Fm n U t)(G:Fm n U g)(h:U.length<=28):Fm n U (xi t g):=by
 have a:∀r∈t++g,RowOk n r/\qI r/\r∈U:=λr b=>by
  rcases Jb.mp b with z|z
  .exact⟨T.good.rows r z,T.good.rise r z,T.sub r z⟩
  .exact⟨G.good.rows r z,G.good.rise r z,G.sub r z⟩
 have sub:=λr b=>(a r (xg.mp b).1).2.2;refine⟨⟨λz=>?_,λr b=>(a r (xg.mp b).1).1,λr b=>(a r (xg.mp b).1).2.1,?_,λr b s hs c=>zW.mp (xg.mp hs).2 r (xg.mp b).1 c,KZ _⟩,sub⟩
 .obtain⟨r,b⟩:=List.exists_mem_of_ne_nil _ T.good.ne;obtain⟨s,hs,_⟩:=Xa (λr b=>⟨(a r b).1.once,(a r b).2.1⟩) (VH _ b);have hs:s∈xi t g:=hs
  simp_all
 .have:=DS (cA (t++g)) sub;show(JQ (t++g)).length<=40;lia
def cv {a b:Jz}{hs:Yh}(g:a ≠ [])(h:b ≠ []):JA (a++b) hs<=JA a hs/\JA (a++b) hs<=JA b hs/\(JA (a++b) hs=JA a hs\/JA (a++b) hs=JA b hs):=by
 obtain⟨r,i,e⟩:=Wh (hs:=hs) g;obtain⟨s,c,l⟩:=Wh (hs:=hs) h;have m:=KY (hs:=hs) (VH b i);have n:=KY (hs:=hs) (Ut a c);obtain⟨q,j,o⟩:=Wh (f:=a++b) (hs:=hs) (λz=>g (Jx.mp z).1);refine⟨(),(),?_⟩;rcases Jb.mp j with z|z
 .have:=KY (hs:=hs) z;exact .inl ()
 .have:=KY (hs:=hs) z;lia
def dW {tg:Tg}{b:FS}{ds:YG}{sd:SD}(P:SD->Prop)(a:P sd)(h:∀(i:Nat) x sd,ds[i]? = some x->P sd->∃sd',(JO tg x sd).bind b=.ok (.next sd')/\P sd'):∃sd',qM tg b ds sd=.ok (.next sd')/\P sd':=have ⟨sd',e,q⟩:=K8 (P:=λ_ sd=>P sd) a ();⟨sd',e,q⟩
def DT:YG->Res YG:=zz 2 2 (J0 (jn QH (J0 (jb 1) jc)) jc)
def ZK:YG->Res YG:=zz 4 4 (J0 (jb 1) (J0 (jn QH (J0 (jb 2) jc)) (J0 (jn QH (J0 (jb 3) jc)) jc)))
def ZL:FS:=(jh (qi (JB (ji kW (jb 1) (jn jL (J0 (jb 0) jc)))) (jz (ji jE (jb 0) (jb 1))) JJ) (jz (dC (.int 0))))
def W8:YG->Res D:=jA 2 2 ZL
def IV (ns:Yh)(k:Nat):W8 [.scr ns,.int k]=.ok (.int (WY ns k)):=by
 unfold WY;by_cases h:k<ns.length
 .have e:qr ns (k:Int)=some ns[k]:=by rw[WZ h];simp
  simp_all [W8,ZL]
 .simp[W8,ZL,h]
def B4:FS:=(jh (jr 2 (ji jC (ji xG (ji j3 (ji jC (jb 0) (dC (.int 2147483647))) (jb 1)) (dC (.int 48271))) (dC (.int 2147483647)))) (jz (ji jC (ji xG (jb 2) (jb 2)) (dC (.int 2147483629)))))
def K0:YG->Res D:=jA 3 2 B4
@[simp]def rY (c s:Int):K0 [.int c,.int s]=.ok (.int (jK c s)):=by
 have a:Kt (c % 2147483647+s) 48271=true:=AY () ();have b:Kt ((c % 2147483647+s)*48271 % 2147483647) ((c % 2147483647+s)*48271 % 2147483647)=true:=AY () ();simp[K0,B4,X6 a,X6 b,jK]
def XL:FS:=(jh (jr 2 (J7 K0 (J0 (jb 0) (J0 (jb 1) jc)))) (jh (qi (JB (ji vr (ji jC (jb 2) (dC (.int 4))) (dC (.int 0)))) (jz (ji xk (ji jC (ji Qd (jb 2) (dC (.int 4))) (dC (.int 5))) (dC (.int 2)))) JJ) (jh (jr 3 (ji jC (ji xG (ji Qd (jb 0) (dC (.int 7))) (ji j3 (jb 1) (dC (.int 2)))) (ji zC (dC (.int 10)) (dC (.int 20))))) (jh (qi (JB (ji qS (ji jC (ji Qd (jb 2) (dC (.int 20))) (dC (.int 2))) (dC (.int 0)))) (jz (jb 3)) JJ) (jz (jS qY (jb 3)))))))
def Wj:YG->Res D:=jA 4 2 XL
def IW (c:Int){s:Int}(g: -1000000<=s)(h:s<=1000000):∃w:Int,Wj [.int c,.int s]=.ok (.int w) /\ -1000000000000000000000000000000<=w/\w<=1000000000000000000000000000000:=by
 have b:=X6 (AY (i:=c / 7) (j:=s+2) () ());have e:zC (.int 10) (.int 20)=some (.int 100000000000000000000):=rfl;generalize c / 7*(s+2)=y at *;by_cases a:0<jK c s % 4
 .exact⟨jK c s / 4 % 5-2,by simp[Wj,XL,a],(),()⟩
 .by_cases f:jK c s / 20 % 2=0
  .refine⟨y % 100000000000000000000,by simp[Wj,XL,a,f,b,e],(),()⟩
  .refine⟨-(y % 100000000000000000000),by simp[Wj,XL,a,f,b,e],(),()⟩
def B5:FS:=(jh (qB 4 (jR jc)) (jh (jQ (yM (J0 (ji j3 (dC (.int 1)) (ji jC (J7 K0 (J0 (ji jE (jb 0) (ji jC (jb 1) (jn jL (J0 (jb 0) jc)))) (J0 (ji j3 (dC (.int 31)) (jb 1)) jc))) (dC (.int 4)))) jc)) (.one 5) (jh (jr 6 (ji jC (ji j3 (ji j3 (jb 1) (ji xG (dC (.int 3)) (jb 5))) (dC (.int 1))) (jn jL (J0 (jb 0) jc)))) (jh (jr 7 (ji j3 (ji j3 (ji Qd (ji jE (jb 0) (jb 6)) (ji j3 (jb 5) (dC (.int 1)))) (ji xG (dC (.int 5)) (jb 5))) (jb 1))) (jh (jr 8 (J7 K0 (J0 (jb 7) (J0 (dC (.int 37)) jc)))) (jh (jr 9 (ji jE (jR (J0 (dC (.str "all")) (J0 (dC (.str "first")) jc))) (ji jC (jb 8) (dC (.int 2))))) (jh (jr 10 (ji j3 (dC (.int 1)) (ji jC (ji Qd (jb 8) (dC (.int 2))) (dC (.int 3))))) (jh (qi (V5 (JB (ji yt (jb 3) (jR jc))) (JB (ji qS (ji jC (ji Qd (jb 8) (dC (.int 6))) (dC (.int 3))) (dC (.int 0))))) (jh (jr 9 (ji jE (jb 3) (ji jC (ji Qd (jb 8) (dC (.int 18))) (jn jL (J0 (jb 3) jc))))) (jr 10 (jb 2))) JJ) (jh (qB 11 (jR jc)) (jh (jQ (yM (J0 (jb 10) jc)) (.one 12) (jh (jr 13 (ji jC (J7 K0 (J0 (jb 7) (J0 (ji j3 (dC (.int 41)) (jb 12)) jc))) (ji j3 (jb 2) (jb 5)))) (Q9 11 (ql (J0 (jb 13) (J0 (J7 Wj (J0 (ji Qd (jb 7) (ji j3 (jb 12) (dC (.int 1)))) (J0 (ji j3 (dC (.int 53)) (jb 12)) jc))) jc)))))) (λsd=>(Q9 4 (ql (J0 (ji j3 (dC (.str "r")) (jn yO (J0 (jb 5) jc))) (J0 (jb 9) (J0 (jn Wy (J0 (jb 11) jc)) jc))))) (qz [11] sd))))))))))) (Kh 4)))
def Xd:YG->Res D:=qd 14 4 B5
def mG:FS:=(jh (jr 13 (ji jC (J7 K0 (J0 (jb 7) (J0 (ji j3 (dC (.int 41)) (jb 12)) jc))) (ji j3 (jb 2) (jb 5)))) (Q9 11 (ql (J0 (jb 13) (J0 (J7 Wj (J0 (ji Qd (jb 7) (ji j3 (jb 12) (dC (.int 1)))) (J0 (ji j3 (dC (.int 53)) (jb 12)) jc))) jc)))))
def mF:FS:=(jh (qB 11 (jR jc)) (jh (jQ (yM (J0 (jb 10) jc)) (.one 12) mG) (λsd=>(Q9 4 (ql (J0 (ji j3 (dC (.str "r")) (jn yO (J0 (jb 5) jc))) (J0 (jb 9) (J0 (jn Wy (J0 (jb 11) jc)) jc))))) (qz [11] sd))))
def wu:FS:=(qi (V5 (JB (ji yt (jb 3) (jR jc))) (JB (ji qS (ji jC (ji Qd (jb 8) (dC (.int 6))) (dC (.int 3))) (dC (.int 0))))) (jh (jr 9 (ji jE (jb 3) (ji jC (ji Qd (jb 8) (dC (.int 18))) (jn jL (J0 (jb 3) jc))))) (jr 10 (jb 2))) JJ)
def hJ:FS:=(jh (jr 6 (ji jC (ji j3 (ji j3 (jb 1) (ji xG (dC (.int 3)) (jb 5))) (dC (.int 1))) (jn jL (J0 (jb 0) jc)))) (jh (jr 7 (ji j3 (ji j3 (ji Qd (ji jE (jb 0) (jb 6)) (ji j3 (jb 5) (dC (.int 1)))) (ji xG (dC (.int 5)) (jb 5))) (jb 1))) (jh (jr 8 (J7 K0 (J0 (jb 7) (J0 (dC (.int 37)) jc)))) (jh (jr 9 (ji jE (jR (J0 (dC (.str "all")) (J0 (dC (.str "first")) jc))) (ji jC (jb 8) (dC (.int 2))))) (jh (jr 10 (ji j3 (dC (.int 1)) (ji jC (ji Qd (jb 8) (dC (.int 2))) (dC (.int 3))))) (jh wu mF))))))
def kn:B5=(jh (qB 4 (jR jc)) (jh (jQ (yM (J0 (ji j3 (dC (.int 1)) (ji jC (J7 K0 (J0 (ji jE (jb 0) (ji jC (jb 1) (jn jL (J0 (jb 0) jc)))) (J0 (ji j3 (dC (.int 31)) (jb 1)) jc))) (dC (.int 4)))) jc)) (.one 5) hJ) (Kh 4))):=rfl
def DU {pool:Yh}(h:1<=pool.length)(x:Int):∃(k:Int) (c:Int),jC (.int x) (.int (pool.length:Nat))=some (.int k)/\qr (pool.map D.int) k=some (.int c):=⟨_,_,AZ (),Ix (Int.emod_nonneg x (show(pool.length:Int)≠0 by lia)) (Int.emod_lt_of_pos x (show(0:Int)<pool.length by lia))⟩
def dh {pool:Yh}{a g k n:Nat}(R:1<=g)(B:g<=4)(S:k<8)(T:n<=10)(t:D)(how:Str)(f:YG)(U:f.length<=100)(c:Int)(u6 u8 v o r:Option SV):
 ∃(its:Jy) (h l:Option SV),its.length=n/\(∀p∈its,(0<=p.1/\p.1<(g:Int)+k) /\ -1000000000000000000000000000000<=p.2/\p.2<=1000000000000000000000000000000)/\mF [~~~(.lst (pool.map .int)),~~~(.int a),~~~(.int g),~~~t,some (.own false (.lst f)),~~~(.int k),u6,~~~(.int c),u8,~~~(.str how),~~~(.int n),v,o,r]=.ok (.next [~~~(.lst (pool.map .int)),~~~(.int a),~~~(.int g),~~~t,some (.own false (.lst (f++[jD ("r" ++ xW k,how,its)]))),~~~(.int k),u6,~~~(.int c),u8,~~~(.str how),~~~(.int n),~~~(.lst (its.map qc)),h,l]):=by
 have C:KU [.int (n:Nat)]=.ok (Qc 0 n):=by rw[W1 () ()];rfl
 generalize pool.map D.int=PL;obtain⟨sd',e,its,h,l,y,u,ok⟩:=K8 (tg:=.one 12) (b:=mG) (ds:=Qc 0 n) (sd:=[~~~(.lst PL),~~~(.int a),~~~(.int g),~~~t,some (.own false (.lst f)),~~~(.int k),u6,~~~(.int c),u8,~~~(.str how),~~~(.int n),some (.own false (.lst [])),o,r])
  (P:=λi sd=>∃(its:Jy) (h l:Option SV),sd=[~~~(.lst PL),~~~(.int a),~~~(.int g),~~~t,some (.own false (.lst f)),~~~(.int k),u6,~~~(.int c),u8,~~~(.str how),~~~(.int n),some (.own false (.lst (its.map qc))),h,l]/\its.length=i/\∀p∈its,(0<=p.1/\p.1<(g:Int)+k) /\ -1000000000000000000000000000000<=p.2/\p.2<=1000000000000000000000000000000)
  ⟨[],o,r,rfl,rfl,λp hp=>nomatch hp⟩ (by
   rintro i x sd E ⟨its,h,l,rfl,u,ok⟩;obtain⟨rfl,X⟩:=Bc E;rw[Int.zero_add];have F:=AZ (i:=jK c (41+(i:Int))) (j:=(g:Int)+k) ();have G:=GC (i:=c) (j:=(i:Int)+1) () ();obtain⟨w,H,I,J⟩:=IW (c / ((i:Int)+1)) (s:=53+(i:Int)) () ();have K:=Int.emod_nonneg (jK c (41+(i:Int))) (show(g:Int)+k≠0 by lia);have L:=Int.emod_lt_of_pos (jK c (41+(i:Int))) (show(0:Int)<(g:Int)+k by lia);generalize jK c (41+(i:Int)) % ((g:Int)+k)=m at *;generalize c / ((i:Int)+1)=q at *;have A:=JU (show its.length<=1000 from ());refine⟨[~~~(.lst PL),~~~(.int a),~~~(.int g),~~~t,some (.own false (.lst f)),~~~(.int k),u6,~~~(.int c),u8,~~~(.str how),~~~(.int n),some (.own false (.lst ((its++[(m,w)]).map qc))),~~~(.int i),~~~(.int m)],?_,_,_,_,rfl,by rw[Ub,u];rfl,λp hp=>?_⟩
   .rw[Uc];unfold mG;simp[F,G,H,A,qc]
   .rcases Jb.mp hp with z|z
    .exact ok p z
    .rw[Jc.mp z];exact⟨⟨K,L⟩,I,J⟩)
 subst y;rw[Wd] at u;refine⟨its,h,l,u,ok,?_⟩;have ⟨M,N⟩:=DG (k:=k) ();have O:=IL (B2 (n:=1) (x:= "r") (by decide +kernel)) N ();have Q:jD ("r" ++ xW k,how,its)=.tup [.str ("r" ++ xW k),.str how,.tup (its.map qc)]:=rfl;have A:=JU (show f.length<=1000 from ());rw[Q];unfold mF;simp[C,e,M,O,A]
def IX {pool:Yh}(hp:1<=pool.length){a g:Nat}(ha:a<=10)(U:1<=g)(G:g<=4){ps:List Pl}(Z:ps.length<=1)(X:∀q∈ps,asc q.name/\q.givens.length=g):
 ∃f:List Rw,Xd [.lst (pool.map .int),.int a,.int g,.lst (ps.map λq=>.str q.name)]=.ok (.lst (f.map jD))/\1<=f.length/\f.length<=4/\∀(k:Nat) r,f[k]? = some r->RwP ps ((g:Int)+k) r:=by
 have gl:jL [.lst (pool.map D.int)]=some (.int (pool.length:Nat)):=by rw[Ba,Zql]
 obtain⟨k0,Y,gm0,a0⟩:=DU hp (a:Int);obtain⟨n,en⟩:∃n:Nat,1+jK Y (31+(a:Int)) % 4=(n:Int):=⟨(1+jK Y (31+(a:Int)) % 4).toNat,()⟩;have r1:KU [.int (n:Nat)]=.ok (Qc 0 n):=by rw[W1 () ()];rfl
 have w:yt (.lst (ps.map λq=>.str q.name)) (.lst [])=some (.bl (!ps.isEmpty)):=by
  have pn:qo 12 (.lst (ps.map λq=>D.str q.name))=true:=by
   show(ps.map λq=>D.str q.name).all (qo 11)=true;rw[UU];intro x H;obtain⟨q,I,rfl⟩:=Ja.mp H;exact DI (X q I).1
  rw[Gg pn rfl];cases ps with
  |nil =>
   show some (D.bl (!Qp (.lst []) (.lst [])))=_;rw[X0];rfl
  |cons q r=>rw[v7.mpr λz=>by cases z];rfl
 obtain⟨sd',e,f,A,u6,u7,u8,u9,u,o,s,t,J,K,ok⟩:=K8 (tg:=.one 5) (b:=hJ) (ds:=Qc 0 n) (sd:=[~~~(.lst (pool.map .int)),~~~(.int a),~~~(.int g),~~~(.lst (ps.map λq=>.str q.name)),some (.own false (.lst [])),none,none,none,none,none,none,none,none,none])
  (P:=λi sd=>∃(f:List Rw) (A u6 u7 u8 u9 u o s t:Option SV),sd=[~~~(.lst (pool.map .int)),~~~(.int a),~~~(.int g),~~~(.lst (ps.map λq=>.str q.name)),some (.own false (.lst (f.map jD))),A,u6,u7,u8,u9,u,o,s,t]/\f.length=i/\∀(k:Nat) r,f[k]? = some r->RwP ps ((g:Int)+k) r) ⟨[],none,none,none,none,none,none,none,none,none,rfl,rfl,λk r h=>nomatch h⟩ (by
   rintro i x sd H ⟨f,A,u6,u7,u8,u9,u,o,s,t,rfl,K,ok⟩;obtain⟨rfl,hi⟩:=Bc H;rw[Int.zero_add];have m3:xG (.int 3) (.int (i:Int))=some (.int (3*(i:Int))):=rfl;have m5:xG (.int 5) (.int (i:Int))=some (.int (5*(i:Int))):=X6 (Rc () ());obtain⟨k1,L,M,a1⟩:=DU hp ((a:Int)+3*(i:Int)+1);have gf:=GC (i:=L) (j:=(i:Int)+1) () ();obtain⟨c,ec⟩:∃c,c=L / ((i:Int)+1)+5*(i:Int)+a:=⟨_,rfl⟩;generalize L / ((i:Int)+1)=q1 at *;obtain⟨v,b0,hh⟩:∃v:Str,qr [D.str "all",.str "first"] (jK c 37 % 2)=some (.str v)/\(v = "all" \/ v = "first"):=by
    have:jK c 37 % 2=0\/jK c 37 % 2=1:=()
    rcases this with e|e
    .exact⟨"all",by rw[e];rfl,.inl rfl⟩
    .exact⟨"first",by rw[e];rfl,.inr rfl⟩
   obtain⟨B,en0⟩:∃B:Nat,1+jK c 37 / 2 % 3=(B:Int):=⟨(1+jK c 37 / 2 % 3).toNat,()⟩;have nm:asc ("r" ++ xW i):=by
    obtain⟨_,dt⟩:=DG (k:=i) ();exact((B2 (n:=1) (x:= "r") (by decide +kernel)).app dt).asc
   have C:∀(how:Str) (m:Nat),m<=10->1<=m->(how = "all" \/ how = "first" \/ ∃q∈ps,how=q.name/\m=q.givens.length)->wu [~~~(.lst (pool.map .int)),~~~(.int a),~~~(.int g),~~~(.lst (ps.map λq=>.str q.name)),some (.own false (.lst (f.map jD))),~~~(.int i),~~~(.int k1),~~~(.int c),~~~(.int (jK c 37)),~~~(.str v),~~~(.int B),o,s,t]=.ok (.next [~~~(.lst (pool.map .int)),~~~(.int a),~~~(.int g),~~~(.lst (ps.map λq=>.str q.name)),some (.own false (.lst (f.map jD))),~~~(.int i),~~~(.int k1),~~~(.int c),~~~(.int (jK c 37)),~~~(.str how),~~~(.int m),o,s,t]) ->
    ∃sd',(JO (.one 5) (.int (i:Int)) [~~~(.lst (pool.map .int)),~~~(.int a),~~~(.int g),~~~(.lst (ps.map λq=>.str q.name)),some (.own false (.lst (f.map jD))),A,u6,u7,u8,u9,u,o,s,t]).bind hJ=.ok (.next sd')/\∃(f:List Rw) (A u6 u7 u8 u9 u o s t:Option SV),sd'=[~~~(.lst (pool.map .int)),~~~(.int a),~~~(.int g),~~~(.lst (ps.map λq=>.str q.name)),some (.own false (.lst (f.map jD))),A,u6,u7,u8,u9,u,o,s,t]/\f.length=i+1/\∀(k:Nat) r,f[k]? = some r->RwP ps ((g:Int)+k) r:=λhow m hm h1 hw N=>by
    obtain⟨its,O,Q,l,E,R⟩:=dh (pool:=pool) (a:=a) U G (k:=i) (n:=m) () hm (.lst (ps.map λq=>.str q.name)) how (f.map jD) (by rw[Zql];lia) c (~~~(.int k1)) (~~~(.int (jK c 37))) o s t;refine⟨_,?_,f++[("r" ++ xW i,how,its)],~~~(.int i),~~~(.int k1),~~~(.int c),~~~(.int (jK c 37)),~~~(.str how),~~~(.int m),~~~(.lst (its.map qc)),O,Q,rfl,by rw[Ub,K];rfl,λk r h=>?_⟩
    .rw[Ri,jt,Uc,VQ];have R:=R;generalize hPD:(ps.map λq=>D.str q.name)=PD at *;generalize f.map jD=rd at *;generalize pool.map D.int=PL at *;unfold hJ;refine xN (sd':=[~~~(.lst PL),~~~(.int a),~~~(.int g),~~~(.lst PD),some (.own false (.lst rd)),~~~(.int i),~~~(.int k1),u7,u8,u9,u,o,s,t]) (by simp[m3,gl,M]) ?_;refine xN (sd':=[~~~(.lst PL),~~~(.int a),~~~(.int g),~~~(.lst PD),some (.own false (.lst rd)),~~~(.int i),~~~(.int k1),~~~(.int c),u8,u9,u,o,s,t]) (by simp[a1,gf,m5,<- ec]) ?_;refine xN (sd':=[~~~(.lst PL),~~~(.int a),~~~(.int g),~~~(.lst PD),some (.own false (.lst rd)),~~~(.int i),~~~(.int k1),~~~(.int c),~~~(.int (jK c 37)),u9,u,o,s,t]) () ?_;refine xN (sd':=[~~~(.lst PL),~~~(.int a),~~~(.int g),~~~(.lst PD),some (.own false (.lst rd)),~~~(.int i),~~~(.int k1),~~~(.int c),~~~(.int (jK c 37)),~~~(.str v),u,o,s,t]) (by simp[b0]) ?_
     refine xN (sd':=[~~~(.lst PL),~~~(.int a),~~~(.int g),~~~(.lst PD),some (.own false (.lst rd)),~~~(.int i),~~~(.int k1),~~~(.int c),~~~(.int (jK c 37)),~~~(.str v),~~~(.int B),o,s,t]) (by simp[en0]) ?_;exact xN N R
    .rcases Vs k f.length with z|z
     .rw[UZ z] at h;exact ok k r h
     .rw[Vc z] at h;have z0:k-f.length=0:=by
       rcases VC (k-f.length) with y|y
       .exact y
       .rw[Vr (by rw[Uu];lia)] at h;cases h
      rw[z0] at h;cases h;rw[show k=i by lia];refine⟨nm,?_,λz=>?_,by show its.length<=10;lia,λp hp=>(E p hp).1,λp hp=>(E p hp).2⟩
      .rcases hw with y|y|⟨q,y1,y2,y3⟩
       .exact .inl y
       .exact .inr (.inl y)
       .exact .inr (.inr ⟨q,y1,y2,l.trans y3⟩)
      .have z:its=[]:=z;rw[z] at l;have l:0=m:=l;lia
   have gl3:jL [.lst (ps.map λq=>D.str q.name)]=some (.int (ps.length:Nat)):=by rw[Ba,Zql]
   by_cases S:ps=[]\/jK c 37 / 6 % 3≠0
   .refine C v B () () (hh.elim .inl λz=>.inr (.inl z)) ?_;unfold wu;rcases S with z|z
    .subst z;have g0:yt (.lst []) (.lst [])=some (.bl false):=w;simp[g0]
    .generalize (ps.map λq=>D.str q.name)=PD at *;cases ps.isEmpty<;>simp[w,z]
   .obtain⟨q,e⟩:∃q,ps=[q]:=by
     cases ps with
     |nil=>exact Zn (.inl rfl) S
     |cons q r =>
      cases r with
      |nil=>exact⟨q,rfl⟩
      |cons _ _=>simp at Z
    have c3:jK c 37 / 6 % 3=0:=by
     rcases Decidable.em (jK c 37 / 6 % 3=0) with z|z
     .exact z
     .exact Zn (.inr z) S
    have gq:=(X q (by rw[e];simp)).2;refine C q.name g () U (.inr (.inr ⟨q,by rw[e];simp,rfl,gq.symm⟩)) ?_;subst e;have F:jC (.int (jK c 37 / 18)) (.int 1)=some (.int 0):=by rw[AZ ()];simp
    have T:qr [D.str q.name] 0=some (.str q.name):=rfl;have g1:yt (.lst [.str q.name]) (.lst [])=some (.bl true):=w;unfold wu;simp[g1,c3,F,T])
 subst J;rw[Wd] at K;refine⟨f,?_,(),(),ok⟩
 simp_all [Xd,kn]
def B6:FS:=(jh (jr 3 (jn AQ (J0 (jb 2) (J0 (jn Wc (J0 (dC (.int 0)) (J0 (ji xk (jn jL (J0 (jb 0) jc)) (jb 1)) jc))) jc)))) (jz (Ql [none,some 0,some 1,some 2] (yM (J0 (jb 3) jc)) (.one 0) (jn zB (J0 (vB (jb 1) (W3 (ji j3 (jb 2) (jb 0))) W2 (W3 (jb 3))) jc)))))
def B7:YG->Res D:=qd 4 3 B6
def cU {ns:Yh}(h:ns.length<=63){a most:Int}(f:0<=a)(g:a<=100)(j:1<=most)(l:most<=60):∃b:Yh,(b.length:Int)<=most/\B7 [.scr ns,.int a,.int most]=.ok (.lst (b.map .int)):=by
 have ⟨m,hm,em⟩:∃m:Nat,(m:Int)<=most/\(if(if a<(ns.length:Int) then(ns.length:Int)-a else 0)<most then(if a<(ns.length:Int) then(ns.length:Int)-a else 0) else most)=(m:Int):=by
  refine⟨(if(if a<(ns.length:Int) then(ns.length:Int)-a else 0)<most then(if a<(ns.length:Int) then(ns.length:Int)-a else 0) else most).toNat,?_,?_⟩<;>(lia)<;>lia
 have n:KU [.int (m:Int)]=.ok (Qc 0 m):=by
  rw[W1 () (),VE]
 have e:jT (.one 0) (jn zB (J0 (vB (jb 1) (W3 (ji j3 (jb 2) (jb 0))) W2 (W3 (jb 3))) jc)) [none,~~~(.scr ns),~~~(.int a),~~~(.int most)] (Qc 0 m)=.ok ((List.range m).map λk:Nat=>.int (Qm ns (some (a+(k:Int))) none (some most)).sum):=X9 λi o=>by
  simp[(Rn (c:=most) ())]
 refine⟨(List.range m).map λk:Nat=>(Qm ns (some (a+(k:Int))) none (some most)).sum,(),?_⟩;have p:=JU (show m<=1000 from ())
 simp_all [B7,B6,Wd]
def ZM:FS:=(jh (jr 2 (J7 B7 (J0 (jb 0) (J0 (jb 1) (J0 (dC (.int 24)) jc))))) (jh (qi (JB (ji qS (jb 2) (jR jc))) (jz (jR (J0 (jn jL (J0 (jb 0) jc)) jc))) JJ) (jz (jb 2))))
def ZN:YG->Res D:=jA 3 2 ZM
def gJ {ns:Yh}(h:ns.length<=63):∃pool:Yh,ZN [.scr ns,.int 1]=.ok (.lst (pool.map .int))/\1<=pool.length/\pool.length<=24:=by
 obtain⟨e,g,f⟩:=cU h (a:=1) (most:=24) () () () ();have b:=dw (tM e);cases c:e.isEmpty with
 |true =>
  rw[c] at b;exact⟨[(ns.length:Int)],by simp[ZN,ZM,f,b],(),()⟩
 |false =>
  rw[c] at b;refine⟨e,by simp[ZN,ZM,f,b],?_,()⟩
  grind
def ZO:FS:=(jh (jr 1 (J7 W8 (J0 (jb 0) (J0 (dC (.int 0)) jc)))) (jh (jr 2 (J7 ZN (J0 (jb 0) (J0 (dC (.int 1)) jc)))) (jh (jr 3 (ji j3 (dC (.int 1)) (ji jC (jb 1) (dC (.int 4))))) (jh (jr 4 (Ql [none] (yM (J0 (jb 3) jc)) (.one 0) (ji j3 (dC (.str "g")) (jn yO (J0 (jb 0) jc))))) (jh (jr 5 (Ql [none,some 2] (yM (J0 (jb 3) jc)) (.one 0) (ji jC (J7 K0 (J0 (ji jE (jb 1) (ji jC (jb 0) (jn jL (J0 (jb 1) jc)))) (J0 (ji j3 (dC (.int 67)) (jb 0)) jc))) (dC (.int 5))))) (jh (jr 6 (Ql [none,some 5] (yM (J0 (jb 3) jc)) (.one 0) (ql (J0 (jb 0) (J0 (ji jE (jR (J0 (dC (.int 0)) (J0 (dC (.int 0)) (J0 (dC (.int 0)) (J0 (dC (.int 1)) (J0 (jS qY (dC (.int 1))) jc)))))) (ji jE (jb 1) (jb 0))) jc))))) (jh (qB 7 (jR (J0 (ql (J0 (dC (.str "r0")) (J0 (dC (.str "a1")) (J0 (jn Wy (J0 (jb 6) jc)) jc)))) jc))) (jh (qi (JB (ji qS (ji jC (ji Qd (jb 1) (dC (.int 4))) (dC (.int 2))) (dC (.int 1)))) (jh (jr 8 (ql (J0 (ql (J0 (jb 3) (J0 (dC (.int 0)) jc))) (J0 (ql (J0 (ji jC (ji Qd (jb 1) (dC (.int 8))) (jb 3)) (J0 (J7 Wj (J0 (ji Qd (jb 1) (dC (.int 32))) (J0 (dC (.int 73)) jc))) jc))) jc)))) (Q9 7 (ql (J0 (dC (.str "r1")) (J0 (ji jE (jR (J0 (dC (.str "first")) (J0 (dC (.str "all")) jc))) (ji jC (ji Qd (jb 1) (dC (.int 16))) (dC (.int 2)))) (J0 (jb 8) jc)))))) JJ) (jh (qB 9 (jR (J0 (XG "Plan" ["name", "givens", "rows"] ZK (J0 (dC (.str "a1")) (J0 (jb 4) (J0 (J7 Xd (J0 (jb 2) (J0 (dC (.int 0)) (J0 (jb 3) (J0 (jR jc) jc))))) jc)))) jc))) (jh (Q9 9 (XG "Plan" ["name", "givens", "rows"] ZK (J0 (dC (.str "a2")) (J0 (jb 4) (J0 (J7 Xd (J0 (jb 2) (J0 (dC (.int 1)) (J0 (jb 3) (J0 (jR (J0 (dC (.str "a1")) jc)) jc))))) jc))))) (jh (λsd=>(Q9 9 (XG "Plan" ["name", "givens", "rows"] ZK (J0 (dC (.str "a3")) (J0 (jb 4) (J0 (jb 7) jc))))) (qz [7] sd)) (λsd=>(jz (XG "Book" ["plans"] DT (J0 (jb 9) jc))) (qz [9] sd)))))))))))))
def ZP:YG->Res D:=qd 10 1 ZO
def nt (v:Int)(a:0<=v)(b:v<5):∃w:Int,qr [D.int 0,.int 0,.int 0,.int 1,.int (-1)] v=some (.int w) /\ -1<=w/\w<=1:=by
 have:v=0\/v=1\/v=2\/v=3\/v=4:=()
 rcases this with e|e|e|e|e<;>subst e
 .exact⟨0,rfl,(),()⟩
 .exact⟨0,rfl,(),()⟩
 .exact⟨0,rfl,(),()⟩
 .exact⟨1,rfl,(),()⟩
 .exact⟨-1,rfl,(),()⟩
def cc {α: Type}{f:Nat -> α}{g k:Nat}(h:k<g):qr ((List.range g).map f) (k:Int)=some (f k):=by
 rw[WZ (by rwa [Zql,ZB]),Zv,List.getElem?_range h];rfl
structure BkT (ps:List Pl)(g:Nat):Prop where
 bk:BkP ps
 g1:1<=g
 g4:g<=4
 len:ps.length=3
 nm:∀(i:Nat) p,ps[i]? = some p->p.name = "a" ++ xW (i+1)/\p.givens.length=g
def gH {ns:Yh}(h:ns.length<=63):∃(ps:List Pl) (g:Nat),ZP [.scr ns]=.ok (JH ps)/\BkT ps g:=by
 have S:=IV ns 0;have S:W8 [.scr ns,.int 0]=.ok (.int (WY ns 0)):=S;generalize WY ns 0=c at S;obtain⟨pool,fp,p1,p2⟩:=gJ h;obtain⟨g,eg⟩:∃g:Nat,1+c % 4=(g:Int):=⟨(1+c % 4).toNat,()⟩;have J:1<=g/\g<=4:=()
 have r1:KU [.int (g:Nat)]=.ok (Qc 0 g):=by rw[W1 () ()];rfl
 have z1:=JU (show g<=1000 from ());have gl:jL [.lst (pool.map D.int)]=some (.int (pool.length:Nat)):=by rw[Ba,Zql]
 obtain⟨B,egs⟩:∃B:Yk,B=(List.range g).map λk => "g" ++ xW k:=⟨_,rfl⟩;have H:B.length=g:=by rw[egs,Zql,ZB]
 have k4:jT (.one 0) (ji j3 (dC (.str "g")) (jn yO (J0 (jb 0) jc))) [none] (Qc 0 g)=.ok (B.map .str):=by
  rw[egs,Zw];exact X9 λk t=>by
   obtain⟨dg,dt⟩:=DG (k:=k) ();have g3:=IL (B2 (n:=1) (x:= "g") (by decide +kernel)) dt ();simp[dg,g3]
 obtain⟨f,T⟩:=IE (n:=g) (P:=λk (v:Int)=>(∃(i:Int) (x:Int),jC (.int (k:Int)) (.int (pool.length:Nat))=some (.int i)/\qr (pool.map D.int) i=some (.int x)/\v=jK x (67+(k:Int)) % 5)/\0<=v/\v<5) λk _=>by
  obtain⟨i,x,a,b⟩:=DU p1 (k:Int);exact⟨_,⟨i,x,a,b,rfl⟩,(),()⟩
 have k5:jT (.one 0) (ji jC (J7 K0 (J0 (ji jE (jb 1) (ji jC (jb 0) (jn jL (J0 (jb 1) jc)))) (J0 (ji j3 (dC (.int 67)) (jb 0)) jc))) (dC (.int 5))) [none,~~~(.lst (pool.map .int))] (Qc 0 g)=.ok ((List.range g).map λk=>.int (f k)):=X9 λk t=>by
  obtain⟨⟨i,x,a,b,e⟩,_⟩:=T k t;generalize pool.map D.int=PL at *;simp[gl,a,b,<- e]
 obtain⟨w,hw⟩:=IE (n:=g) (P:=λk (v:Int)=>qr [D.int 0,.int 0,.int 0,.int 1,.int (-1)] (f k)=some (.int v) /\ -1<=v/\v<=1) λk t=>nt (f k) (T k t).2.1 (T k t).2.2;obtain⟨its,eits⟩:∃its:Jy,its=(List.range g).map λk:Nat=>((k:Int),w k):=⟨_,rfl⟩;have k6:jT (.one 0) (ql (J0 (jb 0) (J0 (ji jE (jR (J0 (dC (.int 0)) (J0 (dC (.int 0)) (J0 (dC (.int 0)) (J0 (dC (.int 1)) (J0 (jS qY (dC (.int 1))) jc)))))) (ji jE (jb 1) (jb 0))) jc))) [none,~~~(.lst ((List.range g).map λk=>.int (f k)))] (Qc 0 g)=.ok (its.map qc):=by
  rw[eits,Zw];exact X9 λk t=>by
   have a1:qr ((List.range g).map λk=>D.int (f k)) (k:Int)=some (.int (f k)):=cc t;have a2:=(hw k t).1;show _=Res.ok (D.tup [.int (k:Int),.int (w k)]);generalize (List.range g).map (λk=>D.int (f k))=FD at *;simp[a1,a2]
 have li:its.length=g:=by rw[eits,Zql,ZB]
 have ib:∀p∈its,(0<=p.1/\p.1<(g:Int)) /\ -1<=p.2/\p.2<=1:=by grind
 clear eits hw T;have ine:its ≠ []:=by grind
 obtain⟨u,U,b1,b2,R1⟩:=IX p1 (a:=0) (g:=g) (ps:=[]) () J.1 J.2 () ();obtain⟨C,eA1⟩:∃A:Pl,A=⟨"a1",B,u⟩:=⟨_,rfl⟩;have M:asc "a1" := by unfold asc;decide +kernel
 have N:asc "a2" := by unfold asc;decide +kernel
 have O:asc "a3" := by unfold asc;decide +kernel
 have K:C.name = "a1" := by rw[eA1]
 have Q:C.givens=B:=by rw[eA1]
 obtain⟨o,m2,b3,b4,R2⟩:=IX p1 (a:=1) (g:=g) (ps:=[C]) () J.1 J.2 () ();have U:Xd [.lst (pool.map .int),.int 0,.int g,.lst []]=.ok (.lst (u.map jD)):=U;have m2:Xd [.lst (pool.map .int),.int 1,.int g,.lst [.str "a1"]]=.ok (.lst (o.map jD)):=by rw[VQ,K] at m2;exact m2
 have ar0:asc "r0" := by unfold asc;decide +kernel
 have ar1:asc "r1" := by unfold asc;decide +kernel
 have last:∃m:List Rw,1<=m.length/\m.length<=2/\(∀(k:Nat) r,m[k]? = some r->RwP [C,⟨"a2",B,o⟩] ((g:Int)+k) r)/\∀u8 u9,∃L,(qi (JB (ji qS (ji jC (ji Qd (jb 1) (dC (.int 4))) (dC (.int 2))) (dC (.int 1)))) (jh (jr 8 (ql (J0 (ql (J0 (jb 3) (J0 (dC (.int 0)) jc))) (J0 (ql (J0 (ji jC (ji Qd (jb 1) (dC (.int 8))) (jb 3)) (J0 (J7 Wj (J0 (ji Qd (jb 1) (dC (.int 32))) (J0 (dC (.int 73)) jc))) jc))) jc)))) (Q9 7 (ql (J0 (dC (.str "r1")) (J0 (ji jE (jR (J0 (dC (.str "first")) (J0 (dC (.str "all")) jc))) (ji jC (ji Qd (jb 1) (dC (.int 16))) (dC (.int 2)))) (J0 (jb 8) jc)))))) JJ) [~~~(.scr ns),~~~(.int c),~~~(.lst (pool.map .int)),~~~(.int g),~~~(.lst (B.map .str)),~~~(.lst ((List.range g).map λk=>.int (f k))),~~~(.lst (its.map qc)),some (.own false (.lst [jD ("r0", "a1",its)])),u8,u9]=.ok (.next [~~~(.scr ns),~~~(.int c),~~~(.lst (pool.map .int)),~~~(.int g),~~~(.lst (B.map .str)),~~~(.lst ((List.range g).map λk=>.int (f k))),~~~(.lst (its.map qc)),some (.own false (.lst (m.map jD))),L,u9]):=by
  have R0:RwP [C,⟨"a2",B,o⟩] (g:Int) ("r0", "a1",its):=⟨ar0,.inr (.inr ⟨C,(),K.symm,by show its.length=_;rw[Q,li,H]⟩),ine,by show its.length<=10;lia,λp hp=>(ib p hp).1,()⟩;generalize pool.map D.int=PL at *;generalize B.map D.str=gd at *;generalize (List.range g).map (λk=>D.int (f k))=FD at *;by_cases c2:c / 4 % 2=1
  .obtain⟨F,fw,w3,w4⟩:=IW (c / 32) (s:=73) () ();have gf:Qd (.int c) (.int 32)=some (.int (c / 32)):=rfl;have gm:=AZ (i:=c / 8) (j:=(g:Int)) ();have m0:=Int.emod_nonneg (c / 8) (show(g:Int)≠0 by lia);have U:=Int.emod_lt_of_pos (c / 8) (show(0:Int)<(g:Int) by lia);obtain⟨E,a0,hh⟩:∃E:Str,qr [D.str "first",.str "all"] (c / 16 % 2)=some (.str E)/\(E = "all" \/ E = "first"):=by
    have:c / 16 % 2=0\/c / 16 % 2=1:=()
    rcases this with e|e
    .exact⟨"first",by rw[e];rfl,.inr rfl⟩
    .exact⟨"all",by rw[e];rfl,.inl rfl⟩
   generalize c / 8 % (g:Int)=x at *;have hn:E = "all" \/ E = "first" \/ ∃q ∈ [C,(⟨"a2",B,o⟩:Pl)],E=q.name/\([((g:Int),(0:Int)),(x,F)]:Jy).length=q.givens.length:=hh.elim .inl λz=>.inr (.inl z);refine⟨[("r0", "a1",its),("r1",E,[((g:Int),0),(x,F)])],(),(),λk r t=>?_,λu8 u9=>⟨~~~(jv [((g:Int),0),(x,F)]),?_⟩⟩
   .match k,t with
    | 0,t =>
     cases t;rw[show((0:Nat):Int)=0 from rfl,Int.add_zero];exact R0
    | 1,t =>
     cases t;refine⟨ar1,hn,(),(),λp hp=>?_,λp hp=>?_⟩
     .have:p=((g:Int),(0:Int))\/p=(x,F):=by simpa using hp
      rcases this with rfl|rfl
      .exact()
      .exact⟨m0,by show x<(g:Int)+((1:Nat):Int);lia⟩
     .have:p=((g:Int),(0:Int))\/p=(x,F):=by simpa using hp
      rcases this with rfl|rfl
      .exact()
      .exact⟨w3,w4⟩
    |k+2,t=>cases t
   .have e1:jD ("r1",E,[((g:Int),0),(x,F)])=.tup [.str "r1",.str E,.tup [.tup [.int g,.int 0],.tup [.int x,.int F]]]:=rfl;have e2:jv [((g:Int),0),(x,F)]=.tup [.tup [.int g,.int 0],.tup [.int x,.int F]]:=rfl;have lz:=JU (show 1<=1000 from ());rw[Zl,VQ,e1,e2];generalize jD ("r0", "a1",its)=rd;simp[c2,gf,gm,fw,a0,lz]
  .refine⟨[("r0", "a1",its)],(),(),λk r t=>?_,λu8 u9=>⟨u8,?_⟩⟩
   .match k,t with
    | 0,t =>
     cases t;rw[show((0:Nat):Int)=0 from rfl,Int.add_zero];exact R0
    |k+1,t=>cases t
   .simp[c2]
 obtain⟨m,b5,b6,R3,I⟩:=last;have ne:∀{x y:Str},x.cps.toList≠y.cps.toList->x≠y:=λh e=>h (by rw[e]);have P1:BkP [C]:=sV.snoc () ⟨by rw[Q];lia,by rw[Q];lia,by rw[eA1];exact b1,by rw[eA1];show u.length<=8;lia,λk r t=>by rw[Q,H];rw[eA1] at t;exact R1 k r t⟩ (by rw[K];exact⟨M,ne (by decide +kernel),ne (by decide +kernel)⟩) (λq R=>nomatch R);obtain⟨A2,eA2⟩:∃A:Pl,A=⟨"a2",B,o⟩:=⟨_,rfl⟩;rw[<- eA2] at R3;have X:A2.name = "a2" := by rw[eA2]
 have Y:A2.givens=B:=by rw[eA2]
 have P2:BkP [C,A2]:=P1.snoc (p:=A2) () ⟨by rw[Y];lia,by rw[Y];lia,by rw[eA2];exact b3,by rw[eA2];show o.length<=8;lia,λk r t=>by rw[Y,H];rw[eA2] at t;exact R2 k r t⟩ (by rw[X];exact⟨N,ne (by decide +kernel),ne (by decide +kernel)⟩) (λq R=>by rw[Jc.mp R,K,X];exact ne (by decide +kernel));obtain⟨A3,eA3⟩:∃A:Pl,A=⟨"a3",B,m⟩:=⟨_,rfl⟩;have Z:A3.name = "a3" := by rw[eA3]
 have v3:A3.givens=B:=by rw[eA3]
 have P3:BkP [C,A2,A3]:=P2.snoc (p:=A3) () ⟨by rw[v3];lia,by rw[v3];lia,by rw[eA3];exact b5,by rw[eA3];show m.length<=8;lia,λk r t=>by rw[v3,H];rw[eA3] at t;exact R3 k r t⟩ (by rw[Z];exact⟨O,ne (by decide +kernel),ne (by decide +kernel)⟩) (λq R=>by
  have:q=C\/q=A2:=by simpa using R
  rcases this with rfl|rfl
  .rw[K,Z];exact ne (by decide +kernel)
  .rw[X,Z];exact ne (by decide +kernel))
 refine⟨[C,A2,A3],g,?_,P3,J.1,J.2,rfl,λi p G=>?_⟩
 .have d1:JW C=.ins "Plan" ["name", "givens", "rows"] [.str "a1",.lst (B.map .str),.lst (u.map jD)]:=by rw[eA1];rfl
  have d2:JW A2=.ins "Plan" ["name", "givens", "rows"] [.str "a2",.lst (B.map .str),.lst (o.map jD)]:=by rw[eA2];rfl
  have d3:JW A3=.ins "Plan" ["name", "givens", "rows"] [.str "a3",.lst (B.map .str),.lst (m.map jD)]:=by rw[eA3];rfl
  have eb:JH [C,A2,A3]=.ins "Book" ["plans"] [.lst [JW C,JW A2,JW A3]]:=rfl;have mp:∀(x:Str) (l r:YG),ZK [.str x,.lst l,.lst r]=.ok [.str x,.lst l,.lst r]:=λ_ _ _=>rfl;have mb:∀l:YG,DT [.lst l]=.ok [.lst l]:=λ_=>rfl;rw[eb,d1,d2,d3];obtain⟨L,I⟩:=I none none;have er:jD ("r0", "a1",its)=.tup [.str "r0",.str "a1",.tup (its.map qc)]:=rfl;unfold ZP;rw[GB 10 1 _ [.scr ns] rfl];show(ZO [~~~(.scr ns),none,none,none,none,none,none,none,none,none]).bind _=_;generalize pool.map D.int=PL at *;generalize B.map D.str=gd at *;generalize (List.range g).map (λk=>D.int (f k))=FD at *;generalize u.map jD=rd1 at *;generalize o.map jD=rd2 at *;generalize m.map jD=rd3 at *;have run:∀{r:Res Out} {d:D},r=.ok (.ret d)->r.bind yg=.ok d:=λe=>by rw[e];rfl
  refine run ?_;unfold ZO;refine xN (sd':=[~~~(.scr ns),~~~(.int c),none,none,none,none,none,none,none,none]) (by simp[S]) ?_;refine xN (sd':=[~~~(.scr ns),~~~(.int c),~~~(.lst PL),none,none,none,none,none,none,none]) (by simp[fp]) ?_;refine xN (sd':=[~~~(.scr ns),~~~(.int c),~~~(.lst PL),~~~(.int g),none,none,none,none,none,none]) (by simp[eg]) ?_;refine xN (sd':=[~~~(.scr ns),~~~(.int c),~~~(.lst PL),~~~(.int g),~~~(.lst gd),none,none,none,none,none]) (by simp[r1,Wd,z1,k4]) ?_;refine xN (sd':=[~~~(.scr ns),~~~(.int c),~~~(.lst PL),~~~(.int g),~~~(.lst gd),~~~(.lst FD),none,none,none,none]) (by simp[r1,Wd,z1,k5]) ?_;refine xN (sd':=[~~~(.scr ns),~~~(.int c),~~~(.lst PL),~~~(.int g),~~~(.lst gd),~~~(.lst FD),~~~(.lst (its.map qc)),none,none,none]) (by simp[r1,Wd,z1,k6]) ?_;refine xN (sd':=[~~~(.scr ns),~~~(.int c),~~~(.lst PL),~~~(.int g),~~~(.lst gd),~~~(.lst FD),~~~(.lst (its.map qc)),some (.own false (.lst [jD ("r0", "a1",its)])),none,none]) (by rw[er];simp) ?_
  refine xN (sd':=[~~~(.scr ns),~~~(.int c),~~~(.lst PL),~~~(.int g),~~~(.lst gd),~~~(.lst FD),~~~(.lst (its.map qc)),some (.own false (.lst rd3)),L,none]) (I) ?_;refine xN (sd':=[~~~(.scr ns),~~~(.int c),~~~(.lst PL),~~~(.int g),~~~(.lst gd),~~~(.lst FD),~~~(.lst (its.map qc)),some (.own false (.lst rd3)),L,some (.own false (.lst [.ins "Plan" ["name", "givens", "rows"] [.str "a1",.lst gd,.lst rd1]]))]) (by simp[U,mp]) ?_;have z2:=JU (show 2<=1000 from ());have z3:=JU (show 1<=1000 from ());refine xN (sd':=[~~~(.scr ns),~~~(.int c),~~~(.lst PL),~~~(.int g),~~~(.lst gd),~~~(.lst FD),~~~(.lst (its.map qc)),some (.own false (.lst rd3)),L,some (.own false (.lst [.ins "Plan" ["name", "givens", "rows"] [.str "a1",.lst gd,.lst rd1],.ins "Plan" ["name", "givens", "rows"] [.str "a2",.lst gd,.lst rd2]]))]) (by simp[m2,mp,z2,z3]) ?_
  refine xN (sd':=[~~~(.scr ns),~~~(.int c),~~~(.lst PL),~~~(.int g),~~~(.lst gd),~~~(.lst FD),~~~(.lst (its.map qc)),~~~(.lst rd3),L,some (.own false (.lst [.ins "Plan" ["name", "givens", "rows"] [.str "a1",.lst gd,.lst rd1],.ins "Plan" ["name", "givens", "rows"] [.str "a2",.lst gd,.lst rd2],.ins "Plan" ["name", "givens", "rows"] [.str "a3",.lst gd,.lst rd3]]))]) (by simp[mp,z2,z3]) ?_;simp[mb]
 .match i,G with
  | 0,G=>cases G;exact⟨by rw[K];exact DJ (by decide +kernel),by rw[Q];exact H⟩
  | 1,G=>cases G;exact⟨by rw[X];exact DJ (by decide +kernel),by rw[Y];exact H⟩
  | 2,G=>cases G;exact⟨by rw[Z];exact DJ (by decide +kernel),by rw[v3];exact H⟩
  |k+3,G=>cases G
def B8:FS:=(jh (qB 3 (jR jc)) (jh (jr 4 (jn Wz (J0 (jb 0) jc))) (jh (jQ (yM (J0 (jb 2) jc)) (.one 5) (jh (jr 6 (dC (.int 0))) (jh (jQ (iS (jb 1)) (.one 7) (jQ (iS (jb 7)) (.tup [8,9]) (qi (JB (ji qS (jb 8) (jb 5))) (jr 6 (jn Wc (J0 (jb 6) (J0 (ji xk (dC (.int 1)) (jb 9)) jc)))) JJ))) (Q9 3 (jS qY (X4 (jb 4) (jb 5) (jS qY (jb 6)))))))) (Kh 3))))
def ZQ:YG->Res D:=qd 10 3 B8
structure FarHs (r:Jy)(rs:Jz)(n:Int)(hs:Yh):Prop where
 len:hs.length=n.toNat
 own:∀t w,0<=t->t<n->J5 r t=some w->jN hs t = -w
 oth:∀t,0<=t->t<n->J5 r t=none->∀o∈rs,∀p∈o,p.1=t->1-p.2<=jN hs t
def IY {hs:Yh}{x t:Int}(a:0<=t)(h:t<(hs.length:Int)):jN (hs++[x]) t=jN hs t:=by
 unfold jN;rw[Uq,Uq,UZ ()]
def IZ {hs:Yh}{x:Int}:jN (hs++[x]) (hs.length:Int)=x:=by
 simp_all [jN]
def gK {r:Jy}{rs:Jz}{n:Int}(o:j4 r)(K:r.length<=100)(R:0<=n)(S:n<=12):∃hs:Yh,FarHs r rs n hs/\ZQ [jv r,jj rs,.int n]=.ok (.lst (hs.map .int)):=by
 have L:KU [.int n]=.ok (Qc 0 n.toNat):=W1 () ();have M:=Bb K o;obtain⟨sd',e,hs,G,u6,u7,u8,u9,m,f,u,A⟩:=K8 (tg:=.one 5) (b:=jh (jr 6 (dC (.int 0))) (jh (jQ (iS (jb 1)) (.one 7) (jQ (iS (jb 7)) (.tup [8,9]) (qi (JB (ji qS (jb 8) (jb 5))) (jr 6 (jn Wc (J0 (jb 6) (J0 (ji xk (dC (.int 1)) (jb 9)) jc)))) JJ))) (Q9 3 (jS qY (X4 (jb 4) (jb 5) (jS qY (jb 6))))))) (ds:=Qc 0 n.toNat)
  (sd:=[~~~(jv r),~~~(jj rs),~~~(.int n),some (.own false (.lst [])),~~~(qZ r),none,none,none,none,none])
  (P:=λi sd=>∃(hs:Yh) (G u6 u7 u8 u9:Option SV),sd=[~~~(jv r),~~~(jj rs),~~~(.int n),some (.own false (.lst (hs.map .int))),~~~(qZ r),G,u6,u7,u8,u9]/\hs.length=i /\
   (∀t w,0<=t->t<(i:Int)->J5 r t=some w->jN hs t = -w)/\∀t,0<=t->t<(i:Int)->J5 r t=none->∀o∈rs,∀p∈o,p.1=t->1-p.2<=jN hs t) ⟨[],none,none,none,none,none,rfl,rfl,λt w a b=>(),λt a b=>()⟩ (by
   rintro i x sd C ⟨hs,G,u6,u7,u8,u9,rfl,f,u,A⟩;obtain⟨rfl,T⟩:=Bc C;obtain⟨sd',e,l,u7,u8,u9,m,v⟩:=K8 (tg:=.one 7) (b:=jQ (iS (jb 7)) (.tup [8,9]) (qi (JB (ji qS (jb 8) (jb 5))) (jr 6 (jn Wc (J0 (jb 6) (J0 (ji xk (dC (.int 1)) (jb 9)) jc)))) JJ)) (ds:=rs.map jv)
    (sd:=[~~~(jv r),~~~(jj rs),~~~(.int n),some (.own false (.lst (hs.map .int))),~~~(qZ r),~~~(.int i),~~~(.int 0),u7,u8,u9])
    (P:=λj sd=>∃(l:Int) (u7 u8 u9:Option SV),sd=[~~~(jv r),~~~(jj rs),~~~(.int n),some (.own false (.lst (hs.map .int))),~~~(qZ r),~~~(.int i),~~~(.int l),u7,u8,u9]/\∀o∈rs.take j,∀p∈o,p.1=(i:Int)->1-p.2<=l) ⟨0,u7,u8,u9,rfl,λ_ h=>by simp at h⟩ (by
     rintro j x sd C ⟨l,u7,u8,u9,rfl,v⟩;obtain⟨q,H,rfl⟩:=QQ C;obtain⟨sd',e,s,u8,u9,m,I,g⟩:=K8 (tg:=.tup [8,9]) (b:=qi (JB (ji qS (jb 8) (jb 5))) (jr 6 (jn Wc (J0 (jb 6) (J0 (ji xk (dC (.int 1)) (jb 9)) jc)))) JJ) (ds:=q.map qc)
      (sd:=[~~~(jv r),~~~(jj rs),~~~(.int n),some (.own false (.lst (hs.map .int))),~~~(qZ r),~~~(.int i),~~~(.int l),~~~(jv q),u8,u9])
      (P:=λk sd=>∃(s:Int) (u8 u9:Option SV),sd=[~~~(jv r),~~~(jj rs),~~~(.int n),some (.own false (.lst (hs.map .int))),~~~(qZ r),~~~(.int i),~~~(.int s),~~~(jv q),u8,u9]/\l<=s/\∀p∈q.take k,p.1=(i:Int)->1-p.2<=s) ⟨l,u8,u9,rfl,UW _,λ_ h=>by simp at h⟩ (by
       rintro k x sd C ⟨s,u8,u9,rfl,I,g⟩;obtain⟨p,hp,rfl⟩:=QQ C;obtain⟨B,e2,b1,b2⟩:∃B:Int,(if p.1=(i:Int) then(if 1-p.2 > s then 1-p.2 else s) else s)=B/\s<=B/\(p.1=(i:Int)->1-p.2<=B):=⟨_,rfl,by (repeat' split)<;>lia,λz=>by rw[Zd z];split<;>lia⟩;refine⟨[~~~(jv r),~~~(jj rs),~~~(.int n),some (.own false (.lst (hs.map .int))),~~~(qZ r),~~~(.int i),~~~(.int B),~~~(jv q),~~~(.int p.1),~~~(.int p.2)],?_,B,_,_,rfl,(),λz hz=>?_⟩
       .rw[<- e2];by_cases c:p.1=(i:Int)
        .simp[c]
        .simp[c]
       .rw[QV hp] at hz;rcases Jb.mp hz with y|y
        .intro w;have:=g z y w;lia
        .rw[Jc.mp y];exact b2)
     rw[Zql,U5] at g;refine⟨sd',by simp[e],s,_,u8,u9,m,λz hz=>?_⟩;rw[QV H] at hz;rcases Jb.mp hz with y|y
     .intro p hp w;have:=v z y p hp w;lia
     .rw[Jc.mp y];exact g)
   rw[Zql,U5] at v;have N:=X7 o (i:Int);have hz:=JU (show hs.length<=1000 from ());have O:((J5 r (i:Int)).map D.int).getD (.int (-l))=.int ((J5 r (i:Int)).getD (-l)):=by cases J5 r (i:Int)<;>rfl
   refine⟨[~~~(jv r),~~~(jj rs),~~~(.int n),some (.own false (.lst ((hs++[-((J5 r (i:Int)).getD (-l))]).map .int))),~~~(qZ r),~~~(.int i),~~~(.int l),u7,u8,u9],?_,hs++[-((J5 r (i:Int)).getD (-l))],_,_,_,_,_,rfl,by simp[f],λt w E Q F=>?_,λt E Q F=>?_⟩
   .subst m;simp[e];simp[qZ,N,O,hz]
   .by_cases c:t<(hs.length:Int)
    .rw[IY E c];exact u t w E () F
    .have J:t=(i:Int):=()
     subst J;rw[F];have:=IZ (hs:=hs) (x:=-((some w).getD (-l)));rw[f] at this;exact this
   .intro q H p hp ep;by_cases c:t<(hs.length:Int)
    .rw[IY E c];exact()
    .have J:t=(i:Int):=()
     subst J;rw[F];have:=IZ (hs:=hs) (x:=-((none:Option Int).getD (-l)));rw[f] at this;rw[this];have:=v q H p hp ep;show 1-p.2 <= - -l;lia)
 rw[Wd] at f u A;refine⟨hs,⟨f,λt w a b=>u t w a (),λt a b=>A t a ()⟩,?_⟩;subst m;simp[ZQ,B8,L,M,e]
def v1:FS:=(jh (jQ (iS (jb 0)) (.tup [2,3]) (qi (yP (JB (ji (zZ true) (jb 2) (jb 1))) (JB (ji vr (jb 3) (ji jE (jb 1) (jb 2))))) (jz (dC (.bl false))) JJ)) (jz (dC (.bl true))))
def v4:YG->Res D:=jA 4 2 v1
def n0 {r o:Jy}(b:j4 o):v4 [jv r,qZ o]=.ok (.bl (JE r o)):=by
 refine X8 (R:=λz=>(z.bind (xr (jz (dC (.bl true))))).bind xx=.ok (.bl (JE r o))) (P:=λi sd=>(∃u v,sd=[~~~(jv r),~~~(qZ o),u,v])/\JE (r.take i) o=true) ⟨⟨none,none,rfl⟩,rfl⟩ ?_ ?_
 .simp
 .rintro i x sd e ⟨⟨u,v,rfl⟩,hu⟩;obtain⟨p,hp,rfl⟩:=QQ e;have a:=X7 b p.1;cases q:J5 o p.1 with
  |none =>
   rw[q] at a;have z:xR o p=false:=by unfold xR;rw[q]
   rw[Fc hp z];exact .inr (.inr ⟨.bl false,by simp[qZ,a],()⟩)
  |some w =>
   rw[q] at a;by_cases c:w<p.2
   .have z:xR o p=false:=by unfold xR;exact by grind
    rw[Fc hp z];exact .inr (.inr ⟨.bl false,by simp[qZ,a,c],()⟩)
   .have z:xR o p=true:=by unfold xR;exact by grind
    exact .inl ⟨[~~~(jv r),~~~(qZ o),~~~(.int p.1),~~~(.int p.2)],.inl (by simp[qZ,a,c]),⟨_,_,rfl⟩,Ow hp hu z⟩
def B9:FS:=(jh (jr 2 (jn Wz (J0 (jb 0) jc))) (jh (jQ (iS (jb 1)) (.one 3) (qi (JB (J7 v4 (J0 (jb 3) (J0 (jb 2) jc)))) (jz (dC (.bl true))) JJ)) (jz (dC (.bl false)))))
def Ko:YG->Res D:=jA 4 2 B9
def La {r:Jy}{ks:Jz}(a:j4 r)(c:r.length<=100):Ko [jv r,jj ks]=.ok (.bl (ks.any λo=>JE o r)):=by
 simp[Ko,B9,(Bb c a)];refine X8 (R:=λz=>(z.bind (xr (jz (dC (.bl false))))).bind xx=.ok (.bl (ks.any λo=>JE o r))) (P:=λi sd=>(∃u,sd=[~~~(jv r),~~~(jj ks),~~~(qZ r),u])/\∀o∈ks.take i,JE o r=false) () ?_ ?_
 .simp
 .rintro i x sd f ⟨⟨u,rfl⟩,hu⟩;obtain⟨o,hp,rfl⟩:=QQ f;have b:=n0 (r:=o) a;cases q:JE o r with
  |true =>
   have e:ks.any (λo=>JE o r)=true:=by grind
   simp_all
  |false =>
   rw[q] at b;refine .inl ⟨[~~~(jv r),~~~(jj ks),~~~(qZ r),~~~(jv o)],.inl (by simp[b]),⟨_,rfl⟩,λy g=>?_⟩;rw[QV hp] at g
   grind
def wJ:FS:=(jh (qB 2 (jn Wz (J0 (jb 0) jc))) (jh (jQ (iS (jb 1)) (.tup [3,4]) (YW 2 (jb 3) (jn Wc (J0 (jb 4) (J0 (yj [2] (X4 (jb 2) (jb 3) (jb 4))) jc))))) (λsd=>(jz (jn Wy (J0 (Dd (jb 2)) jc))) (qz [2] sd))))
def zh:YG->Res D:=jA 5 2 wJ
def Q4 (r o:Jy):Jy:=JS jW (Qr r o)
def ny {r o:Jy}(c:r ≠ [])(or:j4 r)(f:j4 o)(q:r.length<=20)(lo:o.length<=20):zh [jv r,jv o]=.ok (jv (Q4 r o)):=by
 have g:Wz [.tup (r.map qc)]=some (qZ r):=Bb () or;simp[zh,wJ,g,jv];generalize h:YW 2 _ _=b;obtain⟨sd',e,u,v,a⟩:=K8 (tg:=.tup [3,4]) (b:=b) (ds:=o.map qc) (sd:=[~~~(.tup (r.map qc)),~~~(.tup (o.map qc)),some (.own false (qZ r)),none,none])
  (P:=λi sd=>∃u v,sd=[~~~(.tup (r.map qc)),~~~(.tup (o.map qc)),some (.own false (qZ (Qr r (o.take i)))),u,v]) ⟨none,none,rfl⟩ (by
   rintro i x sd j ⟨u,v,rfl⟩;obtain⟨p,hp,rfl⟩:=QQ j;have l:Qr r (o.take (i+1))=V3 (Qr r (o.take i)) p:=by
    rw[QV hp];unfold Qr;rw[Vq];rfl
   have m:=CD (o.take i) r;have s:(o.take i).length<=o.length:=by rw[Uw];lia
   have hz:=JU (show(Qr r (o.take i)).length<=1000 by lia);have n:=X7 (A9 (o.take i) r or) p.1;subst h;have es:V3 (Qr r (o.take i)) p=qL (Qr r (o.take i)) p.1 (if(J5 (Qr r (o.take i)) p.1).getD p.2 > p.2 then(J5 (Qr r (o.take i)) p.1).getD p.2 else p.2):=rfl;rw[l,es,<- (Rf (Qr r (o.take i)) p.1 (if(J5 (Qr r (o.take i)) p.1).getD p.2 > p.2 then(J5 (Qr r (o.take i)) p.1).getD p.2 else p.2))];simp[qZ,n,hz])
 rw[e];subst a;have m:=CD o r;simp[(Rg (FR c f) ()),Q4]
def BA:FS:=(jh (qB 2 (ji D2 (WS [none,some 1] (iS (jb 0)) (.one 0) (JB (J7 Ko (J0 (jb 0) (J0 (jb 1) jc)))) (jb 0)) (WS [none,some 0] (iS (jb 1)) (.one 0) (JB (J7 Ko (J0 (jb 0) (J0 (jb 1) jc)))) (jb 0)))) (jh (jr 3 (WS [none,some 0] (iS (jb 1)) (.one 0) (QX (JB (J7 Ko (J0 (jb 0) (J0 (jb 1) jc))))) (jb 0))) (jh (jQ (iS (jb 0)) (.one 4) (qi (QX (JB (J7 Ko (J0 (jb 4) (J0 (jb 1) jc))))) (Xw 2 (Ql [none,some 4] (iS (jb 3)) (.one 0) (J7 zh (J0 (jb 1) (J0 (jb 0) jc))))) JJ)) (Kh 2))))
def ZR:YG->Res D:=qd 5 2 BA
def Wl (f g:Jz):Jz:=f.flatMap λr=>g.map (Q4 r)
def wd {f g:Jz}{q:Jy}:q∈Wl f g↔∃r∈f,∃o∈g,Q4 r o=q:=by
 simp_all [Wl]
def cB (f g:Jz):(Wl f g).length=f.length*g.length:=by
 unfold Wl
 induction f with
 |nil=>simp
 |cons r f a=>grind
def cE {a b:Jy}(c:j4 a)(p:b.Perm a)(t:Int):J5 b t=J5 a t:=by
 cases h:J5 a t with
 |some w=>exact(FU (((p.map λz:Int×Int=>z.1).nodup_iff).mpr c)).mp (p.mem_iff.mpr (Qn h))
 |none =>
  cases e:J5 b t with
  |none=>rfl
  |some w =>
   have:=(FU c).mp (p.mem_iff.mp (Qn e))
   simp_all
def BB {r o:Jy}(or:j4 r)(a:j4 o)(t:Int):J5 (Q4 r o) t=jw (J5 r t) (J5 o t):=by
 rw[<- A8 t o r a];exact cE (A9 o r or) (Q1 _) t
theorem XM {r o:Jy}(a:JRow r)(b:JRow o):JRow (Q4 r o):=by
 have e:=A9 o r a.once;refine⟨λz=>(FR a.ne b.once) ?_,?_,λp hp=>?_⟩
 .have:=(Q1 (ltb:=jW) (Qr r o)).length_eq
  grind[Q4,List.length_nil]
 .unfold qI Q4;have i:(JS jW (Qr r o)).Pairwise λx y=>x.1≠y.1:=by
   grind[j4,List.Nodup,List.pairwise_map,Q1]
  rw[U4];refine(List.Pairwise.and (Pc e) i).imp λ{x y} h=>?_
  grind[WJ]
 .have c:=e.look ((Q1 (Qr r o)).mem_iff.mp hp);rw[A8 p.1 o r b.once] at c;cases f:J5 r p.1 with
  |some w=>exact a.bnd (p.1,w) (Qn f)
  |none =>
   cases g:J5 o p.1 with
   |some w=>exact b.bnd (p.1,w) (Qn g)
   |none=>rw[f,g] at c;cases c
def Lb {r o:Jy}(a:JRow r)(b:JRow o):JE r (Q4 r o)=true:=by
 rw[yH];intro p hp;rw[BB a.once b.once,(a.once.look hp)];cases J5 o p.1 with
 |none=>exact⟨p.2,rfl,UW _⟩
 |some y=>exact⟨_,rfl,by split<;>lia⟩
def Lc {r o:Jy}(b:JRow r)(a:JRow o):JE o (Q4 r o)=true:=by
 rw[yH];intro p hp;rw[BB b.once a.once,(a.once.look hp)];cases J5 r p.1 with
 |none=>exact⟨p.2,rfl,UW _⟩
 |some y=>exact⟨_,rfl,by split<;>lia⟩
def DV {r o q:Jy}(j:JRow r)(l:JRow o)(g:JE r q=true)(h:JE o q=true):JE (Q4 r o) q=true:=by
 rw[yH] at g h ⊢;intro p hp;have c:=(XM j l).once.look hp;rw[BB j.once l.once] at c;cases f:J5 r p.1 with
 |none =>
  rw[f] at c;exact h p (Qn c)
 |some x =>
  cases i:J5 o p.1 with
  |none =>
   rw[f,i] at c;cases c;exact g (p.1,p.2) (Qn f)
  |some y =>
   rw[f,i] at c;obtain⟨w,n,a⟩:=g (p.1,x) (Qn f);obtain⟨s,m,b⟩:=h (p.1,y) (Qn i);have e:=Zqi c
   grind
def jM (g:Jz)(r:Jy):Bool:=g.any λo=>JE o r
def ro {g:Jz}{r:Jy}:jM g r=true↔∃o∈g,JE o r=true:=Vo
def QZ (f g:Jz)(l:Jz):Jz:=(l.filter λr => !jM g r).flatMap λr=>(g.filter λo => !jM f o).map (Q4 r)
def KB (f g:Jz):Jz:=(f.filter (jM g)++g.filter (jM f))++QZ f g f
def Ld (f g l:Jz):(QZ f g l).length=(l.filter λr => !jM g r).length*(g.filter λo => !jM f o).length:=by
 unfold QZ;generalize l.filter (λr => !jM g r)=a
 induction a with
 |nil=>simp
 |cons r a b=>grind
theorem BC {α: Type}(p:α -> Bool):∀l:List α,(l.filter p).length+(l.filter λx => !p x).length=l.length
 | []=>rfl
 |x::l=>by
  have:=BC p l
  grind
def Le {f g:Jz}(a:∀r∈f,JRow r)(b:∀r∈g,JRow r):∀q∈KB f g,JRow q:=λq hq=>by
 rcases Jb.mp hq with hq|hq
 .grind
 .obtain⟨r,c,hq⟩:=List.mem_flatMap.mp hq
  grind[XM]
def dP {f g:Jz}(e:∀r∈f,JRow r)(h:∀r∈g,JRow r)(q:Jy):(∃x∈KB f g,JE x q=true)↔(∃x∈Wl f g,JE x q=true):=by
 constructor
 .rintro⟨x,hx,a⟩;rcases Jb.mp hx with hx|hx
  .rcases Jb.mp hx with hx|hx
   .obtain⟨hx,i⟩:=Jg.mp hx;obtain⟨o,b,c⟩:=ro.mp i;exact⟨Q4 x o,wd.mpr (),DV (e x hx) (h o b) a (QY c a)⟩
   .obtain⟨hx,i⟩:=Jg.mp hx;obtain⟨o,b,c⟩:=ro.mp i;exact⟨Q4 o x,wd.mpr ⟨o,b,x,hx,rfl⟩,DV (e o b) (h x hx) (QY c a) a⟩
  .obtain⟨r,j,hx⟩:=List.mem_flatMap.mp hx;exact⟨_,wd.mpr (),a⟩
 .rintro⟨x,hx,a⟩;obtain⟨r,j,o,b,rfl⟩:=wd.mp hx;have l:=QY (Lb (e r j) (h o b)) a;have m:=QY (Lc (e r j) (h o b)) a
  grind[KB,QZ]
def gN {f g:Jz}(l:∀r∈f,JRow r)(t:∀r∈g,JRow r)(F:f.length+g.length+f.length*g.length<=1000):ZR [jj f,jj g]=.ok (jj (KB f g)):=by
 have m:∀(ks:Jz) (r:Jy),JRow r->Ko [jv r,jj ks]=.ok (.bl (jM ks r)):=λks r h=>La h.once (by have:=h.len;lia);have z:KS (.one 0) (JB (J7 Ko (J0 (jb 0) (J0 (jb 1) jc)))) (jb 0) [none,~~~(jj g)] (f.map jv)=.ok ((f.filter (jM g)).map jv):=
  Dg (s:=λr=>[~~~(jv r),~~~(jj g)]) (λr _=>rfl) (λr j=>by simp[m g r (l r j)]) ()
 have m2:KS (.one 0) (JB (J7 Ko (J0 (jb 0) (J0 (jb 1) jc)))) (jb 0) [none,~~~(jj f)] (g.map jv)=.ok ((g.filter (jM f)).map jv):=
  Dg (s:=λr=>[~~~(jv r),~~~(jj f)]) (λr _=>rfl) (λr j=>by simp[m f r (t r j)]) ()
 have u:KS (.one 0) (QX (JB (J7 Ko (J0 (jb 0) (J0 (jb 1) jc))))) (jb 0) [none,~~~(jj f)] (g.map jv)=.ok ((g.filter λo => !jM f o).map jv):=
  Dg (s:=λr=>[~~~(jv r),~~~(jj f)]) (λr _=>rfl) (λr j=>by simp[m f r (t r j)]) ()
 have Q:=BC (jM g) f;have G:=BC (jM f) g;have a:∀o∈g.filter (λo => !jM f o),JRow o:=λo n=>t o (Jg.mp n).1;have B:KB f g=(f.filter (jM g)++g.filter (jM f))++QZ f g f:=rfl;have bl:∀i,(QZ f g (f.take i)).length<=min i f.length*g.length:=λi=>by
  rw[Ld];refine VD ?_ (VG _ _);have:=VG (λr => !jM g r) (f.take i);rw[Uw] at this;exact this
 have C:∀(i:Nat) (r:Jy),f[i]? = some r->QZ f g (f.take (i+1))=QZ f g (f.take i)++(if jM g r=true then[] else(g.filter λo => !jM f o).map (Q4 r)):=λi r j=>by
  unfold QZ;rw[QV j,List.filter_append,List.flatMap_append];cases c:jM g r with
  |true=>rw[List.filter_cons_of_neg (by rw[c];simp),Zd rfl];rfl
  |false=>rw[List.filter_cons_of_pos (by rw[c];rfl),Ze Zj];simp
 generalize R:(g.filter λo => !jM f o)=rest at u a C G;have S:rest.length<=g.length:=()
 generalize E:f.filter (jM g)++g.filter (jM f)=A at B;have T:A.length<=f.length+g.length:=by rw[<- E,Ub];lia
 have H:(f.filter (jM g)).length+(g.filter (jM f)).length<=sizeLine:=Ke ();have I:(f.filter (jM g)).map jv++(g.filter (jM f)).map jv=A.map jv:=by rw[<- E,Uc]
 obtain⟨sd',e,v,w⟩:=K8 (tg:=.one 4) (b:=(qi (QX (JB (J7 Ko (J0 (jb 4) (J0 (jb 1) jc))))) (Xw 2 (Ql [none,some 4] (iS (jb 3)) (.one 0) (J7 zh (J0 (jb 1) (J0 (jb 0) jc))))) JJ)) (ds:=f.map jv) (sd:=[~~~(jj f),~~~(jj g),some (.own false (.lst (A.map jv))),~~~(.lst (rest.map jv)),none])
  (P:=λi sd=>∃(v:Option SV),sd=[~~~(jj f),~~~(jj g),some (.own false (.lst ((A++QZ f g (f.take i)).map jv))),~~~(.lst (rest.map jv)),v]) ⟨none,by rw[List.take_zero];simp[QZ]⟩ (by
   rintro i x sd J ⟨v,rfl⟩;obtain⟨r,j,rfl⟩:=QQ J;have U:=(Je.mp j).1;have p:=Uf j;have q:=m g r (l r p);have X:=bl i;have K:(min i f.length+1)*g.length<=f.length*g.length:=VD () (Zf _);rw[Nat.succ_mul] at K;rw[C i r j];cases c:jM g r with
   |true =>
    rw[c] at q;rw[Zd rfl,ZA];exact⟨[~~~(jj f),~~~(jj g),some (.own false (.lst ((A++QZ f g (f.take i)).map jv))),~~~(.lst (rest.map jv)),~~~(jv r)],by simp[q],_,rfl⟩
   |false =>
    rw[c] at q;rw[Ze Zj];have y:jT (.one 0) (J7 zh (J0 (jb 1) (J0 (jb 0) jc))) [none,~~~(jv r)] (rest.map jv)=.ok (rest.map λo=>jv (Q4 r o)):=Ku λo n=>by
     have F:=(l r p).len;have Y:=(a o n).len;simp[ny (l r p).ne (l r p).once (a o n).once () ()]
    have L:(rest.map (Q4 r)).map jv=rest.map λo=>jv (Q4 r o):=by rw[Zw];rfl
    have sz:(A++QZ f g (f.take i)).length+rest.length<=sizeLine:=Ke (by rw[Ub];lia);have M:=JU (show rest.length<=1000 from ());refine⟨[~~~(jj f),~~~(jj g),some (.own false (.lst ((A++(QZ f g (f.take i)++rest.map (Q4 r))).map jv))),~~~(.lst (rest.map jv)),~~~(jv r)],?_,_,rfl⟩;rw[<- Ug];generalize A++QZ f g (f.take i)=acc at sz ⊢;rw[Uc,L];simp[q,y,M,sz])
 subst w;rw[Zql,U5] at e;have N:=JU (show f.length<=1000 from ());have O:=JU (show g.length<=1000 from ());rw[B];simp[jj] at z m2 u e ⊢;simp[ZR,BA,z,m2,u,N,O,H,I,e]
def BD:FS:=(jh (qB 2 (jR jc)) (jh (jQ (iS (jn Z7 (J0 (jn Z5 (J0 (jb 0) jc)) jc))) (.one 3) (jh (qi (JB (ji qS (yj [2] (jn jL (J0 (jb 2) jc))) (jb 1))) vk JJ) (qi (QX (JB (yj [2] (J7 Ko (J0 (jb 3) (J0 (jb 2) jc)))))) (Q9 2 (jb 3)) JJ))) (Kh 2)))
def BE:YG->Res D:=qd 4 2 BD
def pf (rs):(JS j7 (qT rs)).Pairwise λa b=>j7 a b=true:=ZJ xM (HK rs)
def cY {rs:Jz}{en:Int}(ne:∀r∈rs,r ≠ [])(l:∀r∈rs,qI r)(m:∀r∈rs,r.length<=100)(t:rs.length<1000)(H:0<=en):BE [jj rs,.int en]=.ok (jj ((xF rs).take en.toNat)):=by
 have dl:=HM rs;have v:Z5 [jj rs]=some (.lst ((JS j7 (qT rs)).map jv)):=Te ne () ();have I:(JS j7 (qT rs)).length=(qT rs).length:=(Q1 (ltb:=j7) _).length_eq;have w:Z7 [.lst ((JS j7 (qT rs)).map jv)]=some (.lst ((qX rs).map jv)):=Tr (pf rs) () λr y=>by
  have:=m r (bS.mp ((Q1 (ltb:=j7) _).mem_iff.mp y));lia
 have c:=IJ l;have n:∀r,r∈qX rs->r∈rs:=λr h=>fT.mp h;have A:=II rs;have B:xF rs=(qX rs).filter (qj rs):=rfl;rw[B];simp[BE,BD,v,w];generalize qX rs=L at c n A;refine X8 (R:=λz=>(z.bind (xr (Kh 2))).bind yg=.ok (jj ((L.filter (qj rs)).take en.toNat))) (P:=λi sd=>i<=L.length/\(((L.take i).filter (qj rs)).length:Int)<=en/\∃u,sd=[~~~(jj rs),~~~(.int en),some (.own false (.lst (((L.take i).filter (qj rs)).map jv))),u]) ⟨Ua _,(),none,rfl⟩ ?_ ?_
 .rintro sd ⟨_,le,u,rfl⟩;rw[Zql,U5] at le ⊢;rw[Uv ()];rfl
 .rintro i x sd C ⟨_,le,u,rfl⟩;obtain⟨r,hp,rfl⟩:=QQ C;have J:=(Je.mp hp).1;have j:=c (i+1) ();rw[QV hp,Vq,c i (),<- QV hp] at j;have j:yY ((L.take i).filter (qj rs)) r=(L.take (i+1)).filter (qj rs):=j;have E:((L.take i).filter (qj rs)).length<=i:=by
   have a:=VG (qj rs) (L.take i);rw[Uw] at a;lia
  rw[<- j];have p:=n r (Uf hp);have f:=La (r:=r) (ks:=(L.take i).filter (qj rs)) (B0 (l r p)) (m r p);have e:L.filter (qj rs)=(L.take i).filter (qj rs)++(L.drop i).filter (qj rs):=by rw[<- List.filter_append,UM]
  generalize (L.take i).filter (qj rs)=ks at E f le e;have f:Ko [jv r,.lst (ks.map jv)]=.ok (.bl (ks.any λo=>JE o r)):=f;have hz:=JU (show ks.length<=1000 from ());by_cases g:(ks.length:Int)=en
  .have F:(L.filter (qj rs)).take en.toNat=ks:=by
    rw[e,List.take_left' ()]
   refine .inr (.inl ⟨[~~~(jj rs),~~~(.int en),some (.own false (.lst (ks.map jv))),~~~(jv r)],by simp[g],?_⟩);rw[F];simp[jj]
  .have s:∀b,(ks.any λo=>JE o r)=b->yY ks r=if b=true then ks else ks++[r]:=λb G=>by unfold yY;rw[G]
   cases q:ks.any λo=>JE o r with
   |true =>
    rw[q] at f;rw[s true q,Zd rfl];exact .inl ⟨[~~~(jj rs),~~~(.int en),some (.own false (.lst (ks.map jv))),~~~(jv r)],.inl (by simp[g,f]),(),le,_,rfl⟩
   |false =>
    rw[q] at f;rw[s false q,Ze Zj];exact .inl ⟨[~~~(jj rs),~~~(.int en),some (.own false (.lst ((ks++[r]).map jv))),~~~(jv r)],.inl (by simp[g,f,hz]),(),(by rw[Ub,Uu];lia),_,rfl⟩
def ZS:FS:=(jh (jr 2 (Km BE (J0 (jb 0) (J0 (ji j3 (jb 1) (dC (.int 1))) jc)))) (jh (qi (JB (ji vr (jn jL (J0 (jb 2) jc)) (jb 1))) (Bn "TooMany" (jS (wy "more than ") (jb 1))) JJ) (jz (jn XA (J0 (jb 2) jc)))))
def QB:YG->Res D:=qd 3 2 ZS
def d9 (rs:Jz):(xF rs).length=(JQ rs).length:=by
 rw[<- IK,(Q1 _).length_eq]
def jU (most:Int)(t:Jz):Option Jz:=if(t.length:Int)<=most then some t else none
def xt:Option Jz->Res D
 |some t=>.ok (jj t)
 |none=>.ex "TooMany" []
def DW {rs:Jz}{most:Int}(ne:∀r∈rs,r ≠ [])(h:∀r∈rs,qI r)(i:∀r∈rs,r.length<=100)(e:rs.length<1000)(m:0<=most)(j:most<=1000):QB [jj rs,.int most]=xt (jU most (JQ rs)):=by
 have f:=cY (en:=most+1) ne h i e ();have n:(xF rs).length<=rs.length:=Zh (VG _ _) (II rs);have o:=d9 rs;unfold jU;by_cases c:((JQ rs).length:Int)<=most
 .rw[Zd c];rw[Uv ()] at f;have b:XA [jj (xF rs)]=some (.lst ((JS j7 (xF rs)).map jv)):=pe (λr l=>ne r (fT.mp (Jg.mp l).1)) ();rw[IK] at b;have b:XA [jj (xF rs)]=some (jj (JQ rs)):=b;have g:¬most<((xF rs).length:Int):=()
  show _=Res.ok (jj (JQ rs));simp[QB,ZS,f,g,b]
 .rw[Ze c];have g:most<(((xF rs).take (most+1).toNat).length:Int):=by
   grind
  have ⟨z,hz⟩:=TB (x:= "more than ") (a:=most) () ();show _=Res.ex "TooMany" []
  simp_all [QB,ZS]
def ZT:FS:=(jh (jr 2 (J7 QB (J0 (ji jE (jb 0) (dC (.int 0))) (J0 (jb 1) jc)))) (jh (jQ (iS (vB (jb 0) (W3 (dC (.int 1))) W2 W2)) (.one 3) (jr 2 (J7 QB (J0 (Km ZR (J0 (jb 2) (J0 (jb 3) jc))) (J0 (jb 1) jc))))) (jz (jb 2))))
def KI:YG->Res D:=jA 4 2 ZT
def KC (t f:Jz):Jz:=JQ (Wl t f)
structure AllOk (fs:List Jz)(t:Jz):Prop where
 row:∀r∈t,JRow r
 abv:∀r∈t,∀f∈fs,∃s∈f,JE s r=true
 least:∀q:Jy,(∀f∈fs,∃s∈f,JE s q=true)->∃r∈t,JE r q=true
 anti:∀r∈t,∀s∈t,JE r s=true->r=s
 strict:t.Pairwise λa b=>j7 a b=true
def DX {r:Jy}(o:j4 r):JE r r=true:=yH.mpr λp hp=>⟨p.2,o.look hp,UW _⟩
def DY {rs:Jz}:∀r∈JQ rs,∀s∈JQ rs,JE r s=true->r=s:=λr a s hs b=>zW.mp (xg.mp hs).2 r (xg.mp a).1 b
def Lf {f:Jz}(h:∀r∈f,JRow r):AllOk [f] (JQ f):=by
 refine⟨λr a=>h r (xg.mp a).1,λr a g c=>?_,λq e=>?_,DY,KZ f⟩
 .rw[Jc.mp c];exact⟨r,(xg.mp a).1,DX (h r (xg.mp a).1).once⟩
 .obtain⟨s,hs,i⟩:=e f ();obtain⟨r,a,b⟩:=Xa (λr a=>⟨(h r a).once,(h r a).rise⟩) hs;exact⟨r,a,QY b i⟩
def Lg {fs:List Jz}{t f:Jz}(A:AllOk fs t)(h:∀r∈f,JRow r):AllOk (fs++[f]) (KC t f):=by
 have b:∀q∈Wl t f,JRow q:=λq e=>by
  obtain⟨r,a,o,c,rfl⟩:=wd.mp e;exact XM (A.row r a) (h o c)
 refine⟨λr a=>b r (xg.mp a).1,λq e g m=>?_,λq e=>?_,DY,KZ _⟩
 .obtain⟨r,a,o,c,rfl⟩:=wd.mp (xg.mp e).1;rcases Jb.mp m with z|z
  .obtain⟨s,hs,i⟩:=A.abv r a g z;exact⟨s,hs,QY i (Lb (A.row r a) (h o c))⟩
  .rw[Jc.mp z];exact⟨o,c,Lc (A.row r a) (h o c)⟩
 .obtain⟨r,a,i⟩:=A.least q λg m=>e g ();obtain⟨o,c,j⟩:=e f ();obtain⟨s,hs,l⟩:=Xa (λr a=>⟨(b r a).once,(b r a).rise⟩) (wd.mpr ⟨r,a,o,c,rfl⟩);exact⟨s,hs,QY l (DV (A.row r a) (h o c) i j)⟩
def DZ {rs:Jz}(h:∀r∈rs,JRow r)(b:rs ≠ []):JQ rs ≠ []:=λz=>by
 cases rs with
 |nil=>exact b rfl
 |cons r rs =>
  obtain⟨s,hs,_⟩:=Xa (λr a=>⟨(h r a).once,(h r a).rise⟩) (Zqs)
  simp_all
def dN {f g:Jz}(a:f ≠ [])(b:g ≠ []):Wl f g ≠ []:=λz=>by
 have:=cB f g;rw[z,ZC] at this;have:=Nat.mul_pos (List.length_pos_iff.mpr a) (List.length_pos_iff.mpr b);lia
def Ea {a b:Jz}(i:∀r∈a,JRow r)(e:∀r∈b,JRow r)(h:∀q,(∃x∈a,JE x q=true)↔∃x∈b,JE x q=true):JQ a=JQ b:=by
 have f:∀{a b:Jz},(∀r∈a,JRow r)->(∀r∈b,JRow r)->(∀q,(∃x∈a,JE x q=true)↔∃x∈b,JE x q=true)->∀r,r∈JQ a->r∈JQ b:=by
  intro a b i e h r l;obtain⟨m,s⟩:=xg.mp l;obtain⟨y,t,u⟩:=(h r).mp ⟨r,m,DX (i r m).once⟩;obtain⟨j,n,o⟩:=Xa (λr l=>⟨(e r l).once,(e r l).rise⟩) t;have c:=(xg.mp n).1;have p:=QY o u;obtain⟨x,v,g⟩:=(h j).mpr ⟨j,c,DX (e j c).once⟩;rw[(zW.mp s x v (QY g p))] at g
  rwa [IB (i r m).once (e j c).once (i r m).rise (e j c).rise g p]
 exact WM xM (KZ a) (KZ b) λr=>⟨f i e h r,f e i (λq=>(h q).symm) r⟩
def Lh {f g:Jz}(a:∀r∈f,JRow r)(b:∀r∈g,JRow r):∀q∈Wl f g,JRow q:=λq c=>by
 obtain⟨r,e,o,h,rfl⟩:=wd.mp c;exact XM (a r e) (b o h)
def cf {t g:Jz}(a:∀r∈t,JRow r)(b:∀r∈g,JRow r):JQ (KB t g)=KC t g:=Ea (Le a b) (Lh a b) (dP a b)
def x5 (most:Int):Jz->List Jz->Option Jz
 |t,[]=>some t
 |t,g::gs=>(jU most (KC t g)).bind λt'=>x5 most t' gs
def Li (most)(t g)(gs):x5 most t (g::gs)=(jU most (KC t g)).bind λt'=>x5 most t' gs:=rfl
def xY (most:Int)(f:Jz)(fs:List Jz):Option Jz:=(jU most (JQ f)).bind λt=>x5 most t fs
def Xe {most:Int}{t t':Jz}(h:jU most t=some t'):t'=t/\(t.length:Int)<=most:=by
 grind[jU]
def ca {t g:Jz}(a:∀r∈t,JRow r)(b:∀r∈g,JRow r)(c:t ≠ [])(e:g ≠ []):KC t g ≠ []:=DZ (Lh a b) (dN c e)
theorem Lj {most:Int}:∀{a fs:List Jz} {t t':Jz},AllOk fs t->(t.length:Int)<=most->t ≠ []->(∀g∈a,g ≠ []/\∀r∈g,JRow r)->x5 most t a=some t'->AllOk (fs++a) t'/\(t'.length:Int)<=most/\t' ≠ []
 | [],fs,t,t',A,hl,hn,_,h=>by
  cases h
  simp_all
 |g::a,fs,t,t',A,hl,hn,hg,h=>by
  unfold x5 at h;cases q:jU most (KC t g) with
  |none=>simp_all
  |some i =>
   rw[q] at h;obtain⟨e,c⟩:=Xe q;have b:=hg g Zqs;have:=Lj (Lg A b.2) c (ca A.row b.2 hn b.1) (λx f=>hg x (Zqm _ f)) (by rwa [<- e])
   simp_all
def Io (a:f ≠ []/\∀r∈f,JRow r)(b:∀g∈fs,g ≠ []/\∀r∈g,JRow r)(h:xY most f fs=some t):AllOk (f::fs) t/\(t.length:Int)<=most/\t ≠ []:=by
 unfold xY at h;cases q:jU most (JQ f) with
 |none=>simp_all
 |some i =>
  rw[q] at h;obtain⟨e,c⟩:=Xe q;exact Lj (Lf a.2) c (DZ a.2 a.1) b (by rwa [<- e])
def cX {f:Jz}{fs:List Jz}{most:Int}(o:f ≠ []/\∀r∈f,JRow r)(c:∀g∈fs,g ≠ []/\∀r∈g,JRow r)(u:f.length<1000)(B:0<=most)(m2:most<=1000)(M:fs.length<=900)
 (sz:∀(i:Nat) (t g:Jz),AllOk (f::fs.take i) t->(t.length:Int)<=most->fs[i]? = some g->(KB t g).length<1000/\t.length+g.length+t.length*g.length<=1000):
 KI [.lst ((f::fs).map jj),.int most]=xt (xY most f fs):=by
 have h:=DW (rs:=f) (most:=most) (λr a=>(o.2 r a).ne) (λr a=>(o.2 r a).rise) (λr a=>by have:=(o.2 r a).len;lia) u B m2;have p:qr ((f::fs).map jj) 0=some (jj f):=by
  rw[show((0:Int))=((0:Nat):Int) from rfl,WZ ()];rfl
 have G:Qm (jj f::fs.map jj) (some 1) none none=fs.map jj:=by
  rw[ID _ ()];rfl
 unfold xY;cases q:jU most (JQ f) with
 |none =>
  rw[q] at h;have h:QB [jj f,.int most]=.ex "TooMany" []:=h;show _=Res.ex "TooMany" [];simp[KI,ZT] at p ⊢;simp[p,h]
 |some l =>
  rw[q] at h;obtain⟨H,N⟩:=Xe q;have h:QB [jj f,.int most]=.ok (jj l):=h;show _=xt (x5 most l fs);have O:AllOk [f] l:=by rw[H];exact Lf o.2
  have n:((qM (.one 3) (jr 2 (J7 QB (J0 (Km ZR (J0 (jb 2) (J0 (jb 3) jc))) (J0 (jb 1) jc)))) (fs.map jj) [~~~(.lst ((f::fs).map jj)),~~~(.int most),~~~(jj l),none]).bind (xr (jz (jb 2)))).bind xx=xt (x5 most l fs):=by
   refine HY (R:=λz=>(z.bind (xr (jz (jb 2)))).bind xx=xt (x5 most l fs)) (P:=λi sd=>∃(t:Jz) (v:Option SV),sd=[~~~(.lst ((f::fs).map jj)),~~~(.int most),~~~(jj t),v]/\AllOk (f::fs.take i) t/\(t.length:Int)<=most/\x5 most t (fs.drop i)=x5 most l fs) () ?_ ?_
   .rintro sd ⟨t,v,rfl,A,lt,j⟩;rw[Zql,Ve] at j;rw[<- j];simp[xt,x5]
   .rintro i x sd I ⟨t,v,rfl,A,lt,j⟩;obtain⟨g,m,rfl⟩:=QQ I;have C:=(Je.mp m).1;have s:=Uf m;obtain⟨J,K⟩:=sz i t g A lt m;have E:=gN (f:=t) (g:=g) A.row (c g s).2 K;have b:=Le A.row (c g s).2;have e:=DW (rs:=KB t g) (most:=most) (λr a=>(b r a).ne) (λr a=>(b r a).rise) (λr a=>by have:=(b r a).len;lia) J B m2;rw[cf A.row (c g s).2] at e;have L:fs.drop i=g::fs.drop (i+1):=by
     rw[Ur C];rw[Zqg C] at m;rw[Zqi m]
    rw[L,Li] at j;cases y:jU most (KC t g) with
    |none =>
     rw[y] at e j;have e:QB [jj (KB t g),.int most]=.ex "TooMany" []:=e;refine .inr ⟨"TooMany",[],by simp[E,e],?_⟩;rw[<- j];rfl
    |some w =>
     rw[y] at e j;obtain⟨F,u⟩:=Xe y;have e:QB [jj (KB t g),.int most]=.ok (jj w):=e;refine .inl ⟨[~~~(.lst ((f::fs).map jj)),~~~(.int most),~~~(jj w),~~~(jj g)],by simp[E,e],w,_,rfl,?_,by rw[F];exact u,j⟩;rw[QV m,F];exact Lg A (c g s).2
  simp[KI,ZT] at p n ⊢;simp[p,h,G,n]
def dO {f g:Jz}(b:g ≠ []):(KB f g).length<=f.length*g.length+g.length:=by
 unfold KB;rw[Ub,Ub,Ld];have a:=BC (jM g) f;have p:0<g.length:=by grind
 have d:=VD (Zf (f.filter λr => !jM g r).length) (VG (λo => !jM f o) g);have e:=Nat.le_mul_of_pos_right (f.filter (jM g)).length p
 grind[Nat.add_mul]
def ZU:FS:=(jh (qB 2 (J7 QB (J0 (ji jE (jb 0) (dC (.int 0))) (J0 (jb 1) jc)))) (jh (jQ (iS (vB (jb 0) (W3 (dC (.int 1))) W2 W2)) (.one 3) (λsd=>(qB 2 (J7 QB (J0 (ji j3 (jb 2) (jb 3)) (J0 (jb 1) jc)))) (qz [2] sd))) (Kh 2)))
def Uk:YG->Res D:=qd 4 2 ZU
def yV (most:Int):Jz->List Jz->Option Jz
 |t,[]=>jU most t
 |t,g::gs=>(jU most t).bind λ_=>yV most (xi t g) gs
def Lk {most:Int}{t:Jz}(h:jU most t=none)(a):yV most t a=none:=by
 cases a with
 |nil=>exact h
 |cons g a=>show(jU most t).bind _=none;rw[h];rfl
def BF {most:Int}{t:Jz}(h:(t.length:Int)<=most):jU most t=some t:=Zd h
def Ll {most:Int}{t:Jz}(h:most<(t.length:Int)):jU most t=none:=Ze ()
def wI:FS:=(jz (jn Wy (J0 (Ql [none,none,some 1] (iS (jb 0)) (.tup [0,1]) (ql (J0 (jb 0) (J0 (ji j3 (jb 1) (jb 2)) jc)))) jc)))
def zQ:YG->Res D:=jA 2 2 wI
def Qz (r:Jy)(w:Int):Jy:=r.map λp=>(p.1,p.2+w)
def nv {r:Jy}{w:Int}(b:r.length<=1000):zQ [jv r,.int w]=.ok (jv (Qz r w)):=by
 have a:jT (.tup [0,1]) (ql (J0 (jb 0) (J0 (ji j3 (jb 1) (jb 2)) jc))) [none,none,~~~(.int w)] (r.map qc)=.ok (r.map λp=>qc (p.1,p.2+w)):=Ku λp hp=>by
  rfl
 simp[zQ,wI,jv,a,JU b,Qz]
def BG:FS:=(jz (Ql [none,some 1] (iS (jb 0)) (.one 0) (J7 zQ (J0 (jb 0) (J0 (jb 1) jc)))))
def W9:YG->Res D:=qd 2 2 BG
def Qq (f:Jz)(w:Int):Jz:=f.map λr=>Qz r w
def Lm {f:Jz}{w:Int}(b:f.length<=1000)(c:∀r∈f,r.length<=1000):W9 [jj f,.int w]=.ok (jj (Qq f w)):=by
 have a:jT (.one 0) (J7 zQ (J0 (jb 0) (J0 (jb 1) jc))) [none,~~~(.int w)] (f.map jv)=.ok (f.map λr=>jv (Qz r w)):=Ku λr h=>by
  simp[nv (c r h)]
 have e:(Qq f w).map jv=f.map λr=>jv (Qz r w):=by unfold Qq;simp
 simp[W9,BG,jj,a,JU b,e]
def BH:FS:=(jz (J7 KI (J0 (Ql [none,none,some 1] (iS (jb 0)) (.tup [0,1]) (Km W9 (J0 (ji jE (jb 2) (jb 0)) (J0 (jb 1) jc)))) (J0 (jb 2) jc))))
def Kp:YG->Res D:=jA 3 3 BH
def qD (fs:List Jz)(t:Int):Jz:=fs.getD t.toNat []
def BI {fs:List Jz}{t:Int}(a:0<=t)(b:t<(fs.length:Int)):qD fs t∈fs:=by
 simp_all [qD]
def Ln {fs:List Jz}{t:Int}(a:0<=t)(b:t<(fs.length:Int)):qr (fs.map jj) t=some (jj (qD fs t)):=by
 grind[Zql,List.getElem?_map,qD,WZ]
def cM {r:Jy}{fs:List Jz}(c:∀p∈r,0<=p.1/\p.1<(fs.length:Int))(e:∀f∈fs,f.length<=1000/\∀r∈f,r.length<=1000):
 jT (.tup [0,1]) (Km W9 (J0 (ji jE (jb 2) (jb 0)) (J0 (jb 1) jc))) [none,none,~~~(.lst (fs.map jj))] (r.map qc)=.ok ((r.map λp=>Qq (qD fs p.1) p.2).map jj):=by
 rw[Zw];exact Ku λp hp=>by
  obtain⟨a,b⟩:=c p hp;obtain⟨g,h⟩:=e _ (BI a b);simp[(Ln a b),(Lm g h)]
def XN:FS:=(jz (J7 Uk (J0 (Ql [none,some 1,some 2] (iS (jb 0)) (.one 0) (J7 Kp (J0 (jb 0) (J0 (jb 1) (J0 (jb 2) jc))))) (J0 (jb 2) jc))))
def KD:YG->Res D:=qd 3 3 XN
def gO {a:Jz}{fs:List Jz}{most:Int}{g:Jy->Jz}{d:D}(c:a.length<=100)
 (e:∀r∈a,Kp [jv r,.lst (fs.map jj),.int most]=.ok (jj (g r))) (h:Uk [.lst ((a.map g).map jj),.int most]=.ok d):KD [jj a,.lst (fs.map jj),.int most]=.ok d:=by
 have b:jT (.one 0) (J7 Kp (J0 (jb 0) (J0 (jb 1) (J0 (jb 2) jc)))) [none,~~~(.lst (fs.map jj)),~~~(.int most)] (a.map jv)=.ok ((a.map g).map jj):=by
  rw[Zw];exact Ku λr h=>by
   simp_all
 have hz:=JU (show a.length<=1000 from ())
 simp_all [KD,XN]
def Wm (a:YG->HP->Res (D×HP)):qG:=(bH (zt (JB (ji qS (jb 1) (dC (.str "all"))))) (zl (J7 KI (J0 (jb 2) (J0 (jb 3) jc)))) (bH (zt (JB (ji qS (jb 1) (dC (.str "first"))))) (zl (J7 Uk (J0 (jb 2) (J0 (jb 3) jc)))) (y9 (zy (wm [4] (JB (ji (zZ true) (jb 1) (jb 4)))) (Bx (jb 4) (jb 1) (zr wx (Wg a (J0 (jb 0) (J0 (jb 1) (J0 (jb 3) (J0 (jb 4) jc))))) (zl (jS qY (dC (.int 1)))))) D5) (Bw KD (W6 (zu (jb 4) (jb 1)) (W6 (zl (jb 2)) (W6 (zl (jb 3)) Bt)))))))
def wK:FS:=(jh (jQ (iS (jS (qy "Book" "plans") (jb 0))) (.one 2) (qi (JB (ji qS (jS (qy "Plan" "name") (jb 2)) (jb 1))) (jz (jb 2)) JJ)) rG)
def zR:YG->Res D:=jA 3 2 wK
def gE {ps:List Pl}{x:Str}{p:Pl}(j:asc x)(hp:∀p∈ps,asc p.name)(g:ps.find? (λp=>decide (p.name=x))=some p):zR [JH ps,.str x]=.ok (JW p):=by
 have l:qM (.one 2) (qi (JB (ji qS (jS (qy "Plan" "name") (jb 2)) (jb 1))) (jz (jb 2)) JJ) (ps.map JW) [~~~(JH ps),~~~(.str x),none]=.ok (.ret (JW p)):=by
  refine X8 (R:=λr=>r=.ok (.ret (JW p))) (P:=λi sd=>(∀q∈ps.take i,decide (q.name=x)=false)/\∃u,sd=[~~~(JH ps),~~~(.str x),u]) () (λsd ⟨e,f⟩=>?_) λi d sd m ⟨e,u,f⟩=>?_
  .grind
  .obtain⟨q,a,rfl⟩:=QQ m;have n:q∈ps:=by grind
   have b:=(λp o=>K9 (hp p o) j) q n;have tk:ps.take (i+1)=ps.take i++[q]:=by rw[Vu,a];rfl
   cases c:decide (q.name=x) with
   |true =>
    rw[c] at b;refine .inr (.inr ⟨JW q,?_,?_⟩)
    .subst f;simp[b]
    .rw[DE e a c] at g;cases g;rfl
   |false =>
    rw[c] at b;refine .inl ⟨[~~~(JH ps),~~~(.str x),~~~(JW q)],.inl ?_,λy h=>?_,_,rfl⟩
    .subst f;simp[b]
    .rw[tk] at h;rcases Jb.mp h with z|z
     .exact e y z
     .rwa [Jc.mp z]
 simp[zR,wK,l]
def Eb:FS:=(jz (jR (J0 (ql (J0 (ql (J0 (jb 0) (J0 (dC (.int 0)) jc))) jc)) jc)))
def BJ:YG->Res D:=qd 1 1 Eb
@[simp]def rZ (t:Int):BJ [.int t]=.ok (jj [[(t,0)]]):=by
 rfl
def XO (a:YG->HP->Res (D×HP)):qG:=(y9 (vm (jr 4 (Km zR (J0 (jb 0) (J0 (jb 1) jc))))) (y9 (vm (qB 5 (Ql [none] (yM (J0 (jn jL (J0 (jS (qy "Plan" "givens") (jb 4)) jc)) jc)) (.one 0) (Km BJ (J0 (jb 0) jc))))) (y9 (Br (iS (jS (qy "Plan" "rows") (jb 4))) (.tup [6,7,8]) (Bq (vm (jr 9 (ZF [none,none,some 5] 2 (iS (jb 8)) (.tup [0,1]) (Km W9 (J0 (WT 2 (jb 0)) (J0 (jb 1) jc)))))) (Wf 5 (Wg a (J0 (jb 0) (J0 (jb 7) (J0 (jb 9) (J0 (jb 2) (J0 (jb 3) jc))))))))) (w6 5 (zl (jb 5))))))
def QJ:Nat->YG->HP->Res (D×HP)
 | 0=>λ_ _=>.no
 |n+1=>Ky 10 4 (XO (Ky 5 5 (Wm (QJ n))))
def Qu (n:Nat):YG->HP->Res (D×HP):=Ky 5 5 (Wm (QJ n))
def rx (f:Jz)(q:Jy):Prop:=∃x∈f,JE x q=true
structure Cn (f:Jz):Prop where
 ne:f ≠ []
 rows:∀r∈f,JRow r
 thin:JQ f=f
def Cn.anti {f:Jz}(C:Cn f):∀r∈f,∀s∈f,JE r s=true->r=s:=by
 have h:=DY (rs:=f)
 rwa [C.thin] at h
def Cn.strict {f:Jz}(C:Cn f):f.Pairwise λa b=>j7 a b=true:=by
 have h:=KZ f
 rwa [C.thin] at h
def dy {l:Jz}(h:∀r∈l,JRow r)(q):rx (JQ l) q↔rx l q:=by
 constructor
 .rintro⟨x,a,b⟩;exact⟨x,(xg.mp a).1,b⟩
 .rintro⟨x,a,b⟩;obtain⟨s,hs,c⟩:=Xa (λr e=>⟨(h r e).once,(h r e).rise⟩) a;exact⟨s,hs,QY c b⟩
def di {l:Jz}(h:∀r∈l,JRow r)(b:l ≠ []):Cn (JQ l):=⟨DZ h b,λr a=>h r (xg.mp a).1,Ea (λr a=>h r (xg.mp a).1) h (dy h)⟩
theorem Ec (w:Int):∀(r:Jy) (t:Int),J5 (Qz r w) t=(J5 r t).map (· + w)
 | [],_=>rfl
 |p::r,t=>by
  have a:=Ec w r t;show(match J5 (Qz r w) t with|some v=>some v|none=>if p.1=t then some (p.2+w) else none)=Option.map _ (match J5 r t with|some v=>some v|none=>if p.1=t then some p.2 else none)
  grind
def c8 (r:Jy)(w:Int):Qz (Qz r w) (-w)=r:=by
 unfold Qz;rw[Zw];refine(U0 λp _=>?_).trans (List.map_id r)
 grind
def cO {r q:Jy}{w:Int}:JE (Qz r w) q=true↔JE r (Qz q (-w))=true:=by
 rw[yH,yH];constructor
 .intro h p hp;obtain⟨u,a,l⟩:=h (p.1,p.2+w) (Ja.mpr ⟨p,hp,rfl⟩)
  grind[Ec]
 .intro h p hp;obtain⟨b,hp',rfl⟩:=Ja.mp hp;obtain⟨u,a,l⟩:=h b hp';rw[Ec] at a;cases e:J5 q b.1 with
  |none=>simp_all
  |some v =>
   grind
def cz {r:Jy}(h:JRow r)(w):JRow (Qz r w):=by
 refine⟨λz=>h.ne (Jd.mp z),?_,λp hp=>?_⟩
 .have e:(Qz r w).map (·.1)=r.map (·.1):=by
   unfold Qz;simp
  unfold qI;rw[e];exact h.rise
 .obtain⟨a,hp',rfl⟩:=Ja.mp hp;exact h.bnd a hp'
theorem Lo (w:Int):∀a b:Jy,j7 (Qz a w) (Qz b w)=j7 a b
 | [],[]=>rfl
 | [],_::_=>rfl
 |_::_,[]=>rfl
 |p::a,q::b=>by
  show j7 ((p.1,p.2+w)::Qz a w) ((q.1,q.2+w)::Qz b w)=_;rw[V2,V2,Lo w a b];by_cases h:p=q
  .rw[Zd h,h,Zd rfl]
  .rw[Ze h,Ze λz=>h ?_]
   .simp_all [jW]
   grind
def sY {f:Jz}(C:Cn f)(w:Int):Cn (Qq f w):=by
 refine⟨λz=>C.ne (Jd.mp z),λr j=>?_,WM xM (KZ _) ?_ λr=>⟨λh=>(xg.mp h).1,λh=>xg.mpr ⟨h,zW.mpr λo l e=>?_⟩⟩⟩
 .obtain⟨g,c,rfl⟩:=Ja.mp j;exact cz (C.rows g c) w
 .unfold Qq;rw[U4];exact C.strict.imp λ{a b} h=>by rwa [Lo]
 .obtain⟨m,i,rfl⟩:=Ja.mp l;obtain⟨g,c,rfl⟩:=Ja.mp h;have e:=cO.mp e;rw[c8] at e;rw[C.anti m i g c e]
def cF {r:Jy}(h:r ≠ [])(w:Int)(hs:Yh):Qt (Qz r w) hs=Qt r hs+w:=by
 unfold Qt Qz;rw[<- dD (λz=>h (Jd.mp z)),Zw,Zw]
 congr 1
 refine U0 λp _=>?_
 grind
def cN {f:Jz}(b:f ≠ [])(a:∀r∈f,r ≠ [])(w)(hs):JA (Qq f w) hs=JA f hs+w:=by
 unfold JA Qq;rw[<- cm (λz=>b (Jd.mp z)),Zw,Zw]
 congr 1
 exact U0 λr c=>cF (a r c) w hs
def cu {n:Int}{fs:List Jz}{t:Jz}{hs:Yh}(A:AllOk fs t)(E:t ≠ [])(F:fs ≠ [])(u:∀f∈fs,f ≠ []/\∀r∈f,r ≠ []/\j4 r/\∀p∈r,0<=p.1/\p.1<12):JA t hs=qp (fs.map λf=>JA f hs):=by
 have g:∀{r:Jy},r ≠ []->∀p∈r,jN hs p.1+p.2<=Qt r hs:=λ{r} i p hp=>(Kq (l:=r.map λp=>jN hs p.1+p.2) (λz=>i (Jd.mp z))).2 _ (Ja.mpr ⟨p,hp,rfl⟩);have j:∀{r:Jy} {M:Int},r ≠ []->(∀p∈r,jN hs p.1+p.2<=M)->Qt r hs<=M:=λ{r M} i h=>by
  obtain⟨m,_⟩:=Kq (l:=r.map λp=>jN hs p.1+p.2) (λz=>i (Jd.mp z));obtain⟨p,hp,e⟩:=Ja.mp m;have:=h p hp;have e:jN hs p.1+p.2=Qt r hs:=e;lia
 obtain⟨G,m2⟩:=Kq (l:=fs.map λf=>JA f hs) (λz=>F (Jd.mp z));have m2:∀f∈fs,JA f hs<=qp (fs.map λf=>JA f hs):=λf h=>m2 _ (Ja.mpr ⟨f,h,rfl⟩);obtain⟨v,o,x⟩:=Ja.mp G;have x:JA v hs=qp (fs.map λf=>JA f hs):=x;generalize qp (fs.map λf=>JA f hs)=M at m2 x;obtain⟨r,i,O⟩:=Wh (hs:=hs) E;have lo:M<=JA t hs:=by
  obtain⟨s,c,y⟩:=A.abv r i v o;have H:=KY (hs:=hs) c;have I:Qt s hs<=Qt r hs:=j ((u v o).2 s c).1 λp hp=>by
   obtain⟨w,B,J⟩:=yH.mp y p hp;have:=g (A.row r i).ne (p.1,w) (Qn B);have this:jN hs p.1+w<=Qt r hs:=this;lia
  lia
 obtain⟨q,C,y⟩:=A.least ((List.range 12).map λk:Nat=>((k:Int),M-jN hs (k:Int))) λf h=>by
  obtain⟨s,c,es⟩:=Wh (hs:=hs) (u f h).1;obtain⟨K,P,L⟩:=(u f h).2 s c;refine⟨s,c,yH.mpr λp hp=>⟨M-jN hs p.1,?_,?_⟩⟩
  .have N:j4 ((List.range 12).map λk:Nat=>((k:Int),M-jN hs (k:Int))):=by
    unfold j4;rw[Zw];unfold List.Nodup;rw[U4];exact(List.nodup_range (n:=12)).imp λ{a b} h e=>h (by have e:(a:Int)=(b:Int):=e;lia)
   have b:=L p hp;exact N.look (Ja.mpr ⟨p.1.toNat,Jh.mpr (),by rw[show((p.1.toNat:Nat):Int)=p.1 by lia]⟩)
  .have a:=g K p hp;have b:=m2 f h;lia
 have H:=KY (hs:=hs) C;have I:Qt q hs<=M:=j (A.row q C).ne λp hp=>by
  obtain⟨w,B,J⟩:=yH.mp y p hp;obtain⟨k,Q,R⟩:=Ja.mp (Qn B)
  grind
 lia
theorem Lp {α: Type}{tg:Tg}{f:FE}{c:SD}{k:α -> D}{n:Str}{b:YG}:∀{a:List α},(∀x∈a,(∃v,(JO tg (k x) c).bind f=.ok v)\/(JO tg (k x) c).bind f=.ex n b)->(∃x∈a,(JO tg (k x) c).bind f=.ex n b)->jT tg f c (a.map k)=.ex n b
 | [],_,⟨_,h,_⟩=>nomatch h
 |x::a,h,⟨y,hy,e⟩=>by
  have nx:jT tg f c ((x::a).map k)=((JO tg (k x) c).bind f).bind λv=>(jT tg f c (a.map k)).bind λg=>.ok (v::g):=rfl;rw[nx];rcases h x Zqs with ⟨v,q⟩|q
  .rw[q,Lp (λz hz=>h z (Zqm _ hz)) ?_]
   .rfl
   grind
  simp_all
def cQ {f:Jz}{fs:List Jz}{most:Int}(p:Cn f/\f.length<=64)(q:∀g∈fs,Cn g/\g.length<=64)(A:0<=most)(m2:most<=60)(F:fs.length<=900):
 Uk [.lst ((f::fs).map jj),.int most]=xt (yV most f fs):=by
 have u:∀{rs:Jz},(∀r∈rs,JRow r)->rs.length<=200->QB [jj rs,.int most]=xt (jU most (JQ rs)):=λ{rs} h l=>DW (λr e=>(h r e).ne) (λr e=>(h r e).rise) (λr e=>by have:=(h r e).len;lia) () A ();have j:=u (rs:=f) p.1.rows ();rw[p.1.thin] at j;have n:qr ((f::fs).map jj) 0=some (jj f):=by
  rw[show((0:Int))=((0:Nat):Int) from rfl,WZ ()];rfl
 have B:Qm (jj f::fs.map jj) (some 1) none none=fs.map jj:=by
  rw[ID _ ()];rfl
 by_cases v:(f.length:Int)<=most
 .rw[BF v] at j;have j:QB [jj f,.int most]=.ok (jj f):=j;have m:((qM (.one 3) (λsd=>(qB 2 (J7 QB (J0 (ji j3 (jb 2) (jb 3)) (J0 (jb 1) jc)))) (qz [2] sd)) (fs.map jj) [~~~(.lst ((f::fs).map jj)),~~~(.int most),some (.own false (jj f)),none]).bind (xr (Kh 2))).bind yg=xt (yV most f fs):=by
   refine HY (R:=λz=>(z.bind (xr (Kh 2))).bind yg=xt (yV most f fs)) (P:=λi sd=>∃(t:Jz) (s:Option SV),sd=[~~~(.lst ((f::fs).map jj)),~~~(.int most),some (.own false (jj t)),s]/\(∀r∈t,JRow r)/\(t.length:Int)<=most/\yV most t (fs.drop i)=yV most f fs) ⟨f,none,rfl,p.1.rows,v,rfl⟩ ?_ ?_
   .rintro sd ⟨t,s,rfl,T,lt,b⟩;rw[Zql,Ve] at b;rw[<- b];show _=xt (jU most t);rw[BF lt];rfl
   .rintro i x sd C ⟨t,s,rfl,T,lt,b⟩;obtain⟨g,o,rfl⟩:=QQ C;have w:=(Je.mp o).1;obtain⟨G,H⟩:=q g (Uf o);have y:=de (f:=t) (g:=g) ();have tg:∀r∈t++g,JRow r:=λr e=>(Jb.mp e).elim (λz=>T r z) λz=>G.rows r z;have a:=u (rs:=t++g) tg (by rw[Ub];lia);have E:fs.drop i=g::fs.drop (i+1):=by
     rw[Ur w];rw[Zqg w] at o;rw[Zqi o]
    rw[E] at b;have b:(jU most t).bind (λ_=>yV most (xi t g) (fs.drop (i+1)))=yV most f fs:=b;rw[BF lt] at b;have b:yV most (xi t g) (fs.drop (i+1))=yV most f fs:=b;by_cases c:((xi t g).length:Int)<=most
    .have a:QB [jj (t++g),.int most]=.ok (jj (xi t g)):=by
      rw[a];show xt (jU most (xi t g))=_;rw[BF c];rfl
     exact .inl ⟨[~~~(.lst ((f::fs).map jj)),~~~(.int most),some (.own false (jj (xi t g))),~~~(jj g)],by simp[y,a],xi t g,_,rfl,λr e=>tg r (xg.mp e).1,c,b⟩
    .have no:jU most (xi t g)=none:=Ze c;have a:QB [jj (t++g),.int most]=.ex "TooMany" []:=by
      rw[a];show xt (jU most (xi t g))=_;rw[no];rfl
     refine .inr ⟨"TooMany",[],by simp[y,a],?_⟩;rw[<- b,Lk no];rfl
  simp[Uk,ZU] at n m ⊢;simp[n,j,B,m]
 .rw[Ll ()] at j;have j:QB [jj f,.int most]=.ex "TooMany" []:=j;rw[Lk (Ll ())];show _=Res.ex "TooMany" [];simp[Uk,ZU] at n ⊢;simp[n,j]
def dF {a b:Jz}(A:Cn a)(B:Cn b)(hs:Yh):Cn (xi a b)/\JA (xi a b) hs<=JA a hs/\JA (xi a b) hs<=JA b hs/\(JA (xi a b) hs=JA a hs\/JA (xi a b) hs=JA b hs):=by
 have c:=λr e=>(Jb.mp e).elim (A.rows r) (B.rows r);have ne:a++b ≠ []:=λz=>A.ne (Jx.mp z).1;refine⟨di c ne,?_⟩;unfold xi;rw[cI ne λr e=>⟨(c r e).ne,(c r e).once,(c r e).rise⟩];exact cv A.ne B.ne
theorem Lq (hs:Yh):∀(a:List Jz) (t:Jz),Cn t->(∀g∈a,Cn g)->Cn (a.foldl xi t)/\(JA (a.foldl xi t) hs=JA t hs\/∃g∈a,JA (a.foldl xi t) hs=JA g hs)/\JA (a.foldl xi t) hs<=JA t hs/\∀g∈a,JA (a.foldl xi t) hs<=JA g hs
 | [],t,T,_=>⟨T,.inl rfl,UW _,λ_ h=>nomatch h⟩
 |g::a,t,T,G=>by
  obtain⟨b,e,f,i⟩:=dF T (G g Zqs) hs;obtain⟨c,j,l,m⟩:=Lq hs a (xi t g) b ()
  grind
theorem Lr {P:Jy->Prop}:∀(a:List Jz) (t:Jz),(∀r∈t,P r)->(∀g∈a,∀r∈g,P r)->∀r∈a.foldl xi t,P r
 | [],_,h,_=>h
 |g::a,t,h,k=>Lr a (xi t g) (λr b=>(Jb.mp (xg.mp b).1).elim (h r) ()) ()
theorem Ls {most:Int}:∀(a:List Jz) (t t':Jz),x5 most t a=some t'->t'=a.foldl KC t
 | [],_,_,h=>(Zqi h).symm
 |g::a,t,t',h=>by
  rw[Li] at h;cases q:jU most (KC t g) with
  |none=>simp_all
  |some b =>
   rw[q] at h;rw[U7,<- ((Xe q).1)];exact Ls a b t' h
def tT {most:Int}{f:Jz}{fs:List Jz}{t:Jz}(h:xY most f fs=some t):t=fs.foldl KC (JQ f):=by
 unfold xY at h;cases q:jU most (JQ f) with
 |none=>simp_all
 |some a =>
  rw[q] at h;rw[<- (Xe q).1];exact Ls fs a t h
theorem Lu {most:Int}:∀(a:List Jz) (t t':Jz),yV most t a=some t'->t'=a.foldl xi t/\(t'.length:Int)<=most
 | [],t,t',h=>by
  obtain⟨e,l⟩:=Xe (h)
  simp_all
 |g::a,t,t',h=>by
  have h:(jU most t).bind (λ_=>yV most (xi t g) a)=some t':=h;cases q:jU most t with
  |none=>simp_all
  |some b =>
   rw[q] at h;exact Lu a (xi t g) t' h
def dB {a b:Jy}(g:JRow a)(h:JRow b):∀p∈Q4 a b,p∈a\/p∈b:=λp hp=>by
 have c:=(XM g h).once.look hp;rw[BB g.once h.once] at c;cases f:J5 a p.1 with
 |some w =>
  cases e:J5 b p.1 with
  |some v =>
   rw[f,e] at c;have i:=Qn f;have m2:=Qn e;have c:some (if w > v then w else v)=some p.2:=c
   grind
  |none =>
   rw[f,e] at c;have i:=Qn f;rw[Zqi c] at i
   simp_all
 |none =>
  cases e:J5 b p.1 with
  |some v =>
   rw[f,e] at c;have m2:=Qn e;rw[Zqi c] at m2
   simp_all
  |none=>rw[f,e] at c;cases c
theorem Lv {Q:Int×Int->Prop}:∀(c:List Jz) t,(∀r∈t,JRow r/\∀p∈r,Q p)->(∀g∈c,∀r∈g,JRow r/\∀p∈r,Q p)->∀r∈c.foldl KC t,∀p∈r,Q p
 | [],t,ht,_=>λr e=>(ht r e).2
 |g::c,t,ht,hg=>Lv c (KC t g) (λr e=>by
  obtain⟨a,i,b,j,rfl⟩:=wd.mp (xg.mp e).1;obtain⟨f,l⟩:=ht a i;obtain⟨h,m⟩:=hg g Zqs b j;exact⟨XM f h,λp hp=>(dB f h p hp).elim (l p) (m p)⟩) λx n=>hg x (Zqm _ n)
structure Tf (n:Nat)(W:Int)(t:Jz):Prop where
 cn:Cn t
 len:t.length<=24
 th:∀r∈t,∀p∈r,p.1<(n:Int) /\ -W<=p.2/\p.2<=W
def Tf.row {n:Nat}{W:Int}{t:Jz}(T:Tf n W t):∀r∈t,JRow r/\∀p∈r,p.1<(n:Int) /\ -W<=p.2/\p.2<=W:=λr a=>⟨T.cn.rows r a,T.th r a⟩
def Tf.mono {n:Nat}{W V:Int}{t:Jz}(T:Tf n W t)(h:W<=V):Tf n V t:=⟨T.cn,T.len,λr a p hp=>by have:=T.th r a p hp;lia⟩
def Tf.wait {n:Nat}{W V:Int}{t:Jz}(T:Tf n W t){w:Int}(f: -V<=w/\w<=V):Tf n (W+V) (Qq t w):=by
 refine⟨sY T.cn w,?_,λr b p hp=>?_⟩
 .unfold Qq;rw[Zql];exact T.len
 .obtain⟨c,a,rfl⟩:=Ja.mp b;obtain⟨e,hp',rfl⟩:=Ja.mp hp;have:=T.th c a e hp';lia
def Tf.comes {n:Nat}{W:Int}{t:Jz}(T:Tf n W t)(w)(hs):JA (Qq t w) hs=JA t hs+w:=cN T.cn.ne (λr a=>(T.cn.rows r a).ne) w hs
def K2:Res D:=.ex "TooMany" []
def Lw {n:Nat}{W:Int}{fs:List Jz}(ne:fs ≠ [])(h:∀g∈fs,Tf n W g)(l:fs.length<=100):KI [.lst (fs.map jj),.int 24]=K2\/∃t,KI [.lst (fs.map jj),.int 24]=.ok (jj t)/\Tf n W t/\∀hs,JA t hs=qp (fs.map λg=>JA g hs):=by
 cases fs with
 |nil=>exact Zn rfl ne
 |cons f fs =>
  have c:=h f Zqs;have b:=λg a=>h g (Zqm _ a);have l:fs.length+1<=100:=l;have w:=c.len;have A:=cX (most:=24) ⟨c.cn.ne,c.cn.rows⟩ (λg a=>⟨(b g a).cn.ne,(b g a).cn.rows⟩) () () () () λi t g _ lt a=>by
   have G:=b g (Uf a);have s:=G.len;have e:=dO (f:=t) G.cn.ne;have lt:t.length<=24:=()
   have m:=VD lt s;lia
  rw[A];cases q:xY 24 f fs with
  |none=>exact .inl rfl
  |some t =>
   refine .inr ⟨t,rfl,?_⟩;have ⟨A,lt,p⟩:=Io ⟨c.cn.ne,c.cn.rows⟩ (λg a=>⟨(b g a).cn.ne,(b g a).cn.rows⟩) q;have e:=tT q;rw[c.cn.thin] at e;refine⟨⟨⟨p,A.row,WM xM (KZ _) A.strict λr=>⟨λh=>(xg.mp h).1,λh=>xg.mpr ⟨h,zW.mpr λo u v=>A.anti o u r h v⟩⟩⟩,(),?_⟩,λhs=>cu (n:=0) A p () λg a=>⟨(h g a).cn.ne,λr j=>⟨((h g a).cn.rows r j).ne,((h g a).cn.rows r j).once,((h g a).cn.rows r j).bnd⟩⟩⟩;rw[e];exact Lv fs f c.row λg a=>(b g a).row
def Lx {n:Nat}{W:Int}{fs:List Jz}(ne:fs ≠ [])(h:∀g∈fs,Tf n W g)(l:fs.length<=100):Uk [.lst (fs.map jj),.int 24]=K2\/∃t,Uk [.lst (fs.map jj),.int 24]=.ok (jj t)/\Tf n W t/\∀hs,JA t hs=qx (fs.map λg=>JA g hs):=by
 cases fs with
 |nil=>exact Zn rfl ne
 |cons f fs =>
  have c:=h f Zqs;have b:=λg a=>h g (Zqm _ a);have l:fs.length+1<=100:=l;have o:=c.len;rw[cQ ⟨c.cn,()⟩ (λg a=>⟨(b g a).cn,by have:=(b g a).len;lia⟩) () () ()];cases q:yV 24 f fs with
  |none=>exact .inl rfl
  |some t =>
   refine .inr ⟨t,rfl,?_⟩;have ⟨e,lt⟩:=Lu fs f t q;have C:=λhs=>Lq hs fs f c.cn λg a=>(b g a).cn;rw[<- e] at C;refine⟨⟨(C []).1,(),?_⟩,λhs=>?_⟩
   .rw[e];exact Lr fs f c.th λg a=>(b g a).th
   .have ⟨_,i,p,j⟩:=C hs;refine Ct ?_ λy m=>?_
    .rcases i with z|⟨g,a,z⟩
     .exact Ja.mpr ⟨f,Zqs,z.symm⟩
     .exact Ja.mpr ⟨g,Zqm _ a,z.symm⟩
    .obtain⟨g,a,rfl⟩:=Ja.mp m;rcases UI.mp a with z|z
     .rwa [z]
     .exact j g z
def dM {fs:List Jz}{t:Int}(a:0<=t)(b:t<(fs.length:Int))(hs:Yh):jN (fs.map λg=>JA g hs) t=JA (qD fs t) hs:=by
 simp_all [jN,qD]
def Ly {n:Nat}{W V:Int}{T:List Jz}(c:∀g∈T,Tf n W g){its:Jy}(e:∀p∈its,0<=p.1/\p.1<(T.length:Int))(f:∀p∈its,-V<=p.2/\p.2<=V):(∀g∈its.map λp=>Qq (qD T p.1) p.2,Tf n (W+V) g)/\∀hs,(its.map λp=>Qq (qD T p.1) p.2).map (λg=>JA g hs)=xq (T.map λg=>JA g hs) its:=by
 refine⟨λg h=>?_,λhs=>?_⟩
 .obtain⟨p,hp,rfl⟩:=Ja.mp h;obtain⟨a,b⟩:=e p hp;exact(c _ (BI a b)).wait (f p hp)
 .rw[Zw];refine U0 λp hp=>?_;obtain⟨a,b⟩:=e p hp;show JA (Qq (qD T p.1) p.2) hs=_;rw[(c _ (BI a b)).comes,dM a b]
def cL {n:Nat}{W V:Int}{fs:List Jz}{r:Jy}(a:JRow r)(b:∀p∈r,p.1<(fs.length:Int) /\ -V<=p.2/\p.2<=V)(h:∀g∈fs,Tf n W g):Kp [jv r,.lst (fs.map jj),.int 24]=K2\/∃t,Kp [jv r,.lst (fs.map jj),.int 24]=.ok (jj t)/\Tf n (W+V) t/\∀hs,JA t hs=Qt r (fs.map λg=>JA g hs):=by
 have j:=λp hp=>(b p hp).2;have b:∀p∈r,0<=p.1/\p.1<(fs.length:Int):=λp hp=>⟨(a.bnd p hp).1,(b p hp).1⟩;have q:=a.len;obtain⟨l,m⟩:=Ly h b j;have o:∀f∈fs,f.length<=1000/\∀r∈f,r.length<=1000:=λf i=>⟨by have:=(h f i).len;lia,λr a=>by have:=((h f i).cn.rows r a).len;lia⟩;have c:=cM b o;have e:Kp [jv r,.lst (fs.map jj),.int 24]=KI [.lst ((r.map λp=>Qq (qD fs p.1) p.2).map jj),.int 24]:=by
  generalize (r.map λp=>Qq (qD fs p.1) p.2).map jj=ds at c;simp[Kp,BH,c,(JU (show r.length<=1000 from ()))];cases KI [D.lst ds,D.int 24]<;>rfl
 rw[e];rcases Lw (λz=>a.ne (Jd.mp z)) l () with z|⟨t,z1,z2,z3⟩
 .exact .inl z
 .refine .inr ⟨t,z1,z2,λhs=>?_⟩;rw[z3,m];rfl
def Lz {n m:Nat}{W V:Int}{a:Jz}{fs:List Jz}(F:Tf m V a)(j:fs.length=m)(h:∀g∈fs,Tf n W g):KD [jj a,.lst (fs.map jj),.int 24]=K2\/∃t,KD [jj a,.lst (fs.map jj),.int 24]=.ok (jj t)/\Tf n (W+V) t/\∀hs,JA t hs=JA a (fs.map λg=>JA g hs):=by
 have R:∀r∈a,_:=λr b=>cL (n:=n) (fs:=fs) (V:=V) (F.cn.rows r b) (by rw[j];exact F.th r b) h;have s:=F.len;have i:∀r,(JO (.one 0) (jv r) [none,~~~(.lst (fs.map jj)),~~~(.int 24)]).bind (J7 Kp (J0 (jb 0) (J0 (jb 1) (J0 (jb 2) jc))))=Kp [jv r,.lst (fs.map jj),.int 24]:=λr=>by
  simp
 by_cases c:∃r∈a,Kp [jv r,.lst (fs.map jj),.int 24]=K2
 .left;have e:jT (.one 0) (J7 Kp (J0 (jb 0) (J0 (jb 1) (J0 (jb 2) jc)))) [none,~~~(.lst (fs.map jj)),~~~(.int 24)] (a.map jv)=.ex "TooMany" []:=by
   refine Lp (λr b=>?_) ?_
   .rw[i];rcases R r b with z|⟨t,z,_⟩
    .exact .inr z
    .exact .inl ⟨_,z⟩
   .obtain⟨r,b,z⟩:=c;exact⟨r,b,by rw[i];exact z⟩
  have hz:=JU (show a.length<=1000 from ());simp[KD,XN,e,hz,K2]
 .have l:∀r,∃t,r∈a->Kp [jv r,.lst (fs.map jj),.int 24]=.ok (jj t)/\Tf n (W+V) t/\∀hs,JA t hs=Qt r (fs.map λg=>JA g hs):=λr=>by
   by_cases b:r∈a
   .rcases R r b with z|⟨t,z⟩
    .exact Zn ⟨r,b,z⟩ c
    .exact⟨t,λ_=>z⟩
   .exact⟨[],λz=>Zn z b⟩
  have ⟨G,f⟩:=Classical.axiomOfChoice l;have p:=λd=>gO (d:=d) () λr b=>(f r b).1;have o:∀g∈a.map G,Tf n (W+V) g:=λg q=>by
   obtain⟨r,b,rfl⟩:=Ja.mp q;exact(f r b).2.1
  have e:jT (.one 0) (J7 Kp (J0 (jb 0) (J0 (jb 1) (J0 (jb 2) jc)))) [none,~~~(.lst (fs.map jj)),~~~(.int 24)] (a.map jv)=.ok ((a.map G).map jj):=by
   rw[Zw];exact Ku λr h=>by
    exact(f r h).1
  rcases Lx (λz=>F.cn.ne (Jd.mp z)) o (by rw[Zql];lia) with z|⟨t,z1,z2,z3⟩
  .left;generalize (a.map G).map jj=ds at e z;simp[KD,XN,e,(JU (show a.length<=1000 from ())),z,K2]
  .refine .inr ⟨t,p _ z1,z2,λhs=>?_⟩;rw[z3,Zw]
   congr 1
   exact U0 λr b=>((f r b).2.2 hs)
def Wn {f:FT}{sd:SD}{hp:HP}{b:Bool}(h:f sd=.ok b):zt f sd hp=.ok (b,hp):=by
 simp_all [zt]
def BK {n ar:Nat}{g:qG}{ds:YG}{a:Addr}{d:D}{x:Res D}{e:D}(h:ds.length=ar)(b:g (Q2 n ds) [(a,d)]=x.bind λt=>.ok (t,[(a,e)])):Ky n ar g ds [(a,d)]=x.bind λt=>.ok (t,[(a,e)]):=by
 unfold Ky;rw[Zd h,b];cases x with
 |ok t=>exact Zd rfl
 |ex c es=>rfl
 |no=>rfl
def L0 {n ar:Nat}{g:qG}{ds:YG}{hp:HP}{c:Str}{a:YG}(h:ds.length=ar)(b:g (Q2 n ds) hp=.ex c a):Ky n ar g ds hp=.ex c a:=by
 simp_all [Ky]
def wn (a b c d e):Q2 5 [a,b,c,d,e]=[~~~a,~~~b,~~~c,~~~d,~~~e]:=rfl
def L1 {n:Nat}(bk d e:D)(a:Addr):Qu n [bk,.str "all",d,.int 24,.adr a] [(a,e)]=(KI [d,.int 24]).bind λt=>.ok (t,[(a,e)]):=by
 refine BK rfl ?_;rw[wn];unfold Wm;rw[Wi,Wn (b:=true) (by simp[IR]),jt,Zd rfl];simp
def L4 {n:Nat}(bk d e:D)(a:Addr):Qu n [bk,.str "first",d,.int 24,.adr a] [(a,e)]=(Uk [d,.int 24]).bind λt=>.ok (t,[(a,e)]):=by
 refine BK rfl ?_;rw[wn];unfold Wm;rw[Wi,Wn (b:=false) (by simp[IS]),jt,Ze (),Wi,Wn (b:=true) (by simp[IT]),jt,Zd rfl];simp
theorem L5 {q:j6}:∀{ks:List j6},q∉ks->y7 q ks=false
 | [],_=>rfl
 |k::ks,h=>by
  show(decide (k=q)||y7 q ks)=false;rw[L5 λz=>h (Zqm _ z),Zo λz=>h ()];rfl
theorem L6 {q:j6}{d:D}:∀{ks:List j6} {ds:YG},ks.length=ds.length->q∉ks->jF (ks++[q]) (ds++[d]) q=some d
 | [],[],_,_=>Zd rfl
 | [],_::_,h,_=>by cases h
 |_::_,[],h,_=>by cases h
 |k::ks,e::ds,h,hq=>by
  show(if k=q then some e else jF (ks++[q]) (ds++[d]) q)=_;rw[Ze λz=>hq ()];exact L6 (UN h) ()
def db {b c:FE}{sd:SD}{a:Addr}{how:Str}{ks:List j6}{ds:YG}{z:D}(e:b sd=.ok (.adr a))(f:c sd=.ok (.str how))(hz:jF ks ds (.inr how)=some z):zu b c sd [(a,.dct ks ds)]=.ok (z,[(a,.dct ks ds)]):=by
 simp_all [zu,DN]
def L8 {bk d:D}{how:Str}{a:Addr}{ks:List j6}{ds:YG}{z:D}(hz:jF ks ds (.inr how)=some z):Bw KD (W6 (zu (jb 4) (jb 1)) (W6 (zl (jb 2)) (W6 (zl (jb 3)) Bt))) [~~~bk,~~~(.str how),~~~d,~~~(.int 24),~~~(.adr a)] [(a,.dct ks ds)]=(KD [z,d,.int 24]).bind λt=>.ok (t,[(a,.dct ks ds)]):=by
 unfold Bw;rw[c0,db rfl rfl hz,jt];simp
def Ed {bk d:D}{how:Str}{a:Addr}{ks:List j6}{ds:YG}:wm [4] (JB (ji (zZ true) (jb 1) (jb 4))) [~~~bk,~~~(.str how),~~~d,~~~(.int 24),~~~(.adr a)] [(a,.dct ks ds)]=.ok (!(jF ks ds (.inr how)).isSome):=by
 have e:derI [(a,.dct ks ds)] [4] [~~~bk,~~~(.str how),~~~d,~~~(.int 24),~~~(.adr a)]=[~~~bk,~~~(.str how),~~~d,~~~(.int 24),~~~(.dct ks ds)]:=by
  show[some (SV.val bk),~~~(.str how),~~~d,~~~(.int 24),~~~(der [(a,.dct ks ds)] (.adr a))]=_;have q:der [(a,D.dct ks ds)] (.adr a)=.dct ks ds:=by
   unfold der;rw[DN]
  rw[q]
 unfold wm;rw[e];rfl
def kr {n:Nat}{bk d:D}{how:Str}(c:asc how)(e:how ≠ "all")(f:how ≠ "first"){a:Addr}{ks:List j6}{ds:YG}{z:D}(hz:jF ks ds (.inr how)=some z):Qu n [bk,.str how,d,.int 24,.adr a] [(a,.dct ks ds)]=(KD [z,d,.int 24]).bind λt=>.ok (t,[(a,.dct ks ds)]):=by
 refine BK rfl ?_;rw[wn];unfold Wm;rw[Wi,Wn (b:=false) (by simp[(K9 c Xb),e]),jt,Ze (),Wi,Wn (b:=false) (by simp[(K9 c Xc),f]),jt,Ze ()];exact hB (kC (by rw[Ed,hz];rfl) rfl) (L8 hz)
def sE {n:Nat}{bk d:D}{how:Str}(g:asc how)(j:how ≠ "all")(m:how ≠ "first"){a:Addr}{ks ks':List j6}{ds ds':YG}(hz:jF ks ds (.inr how)=none){ys:List Jz}{t:Jz}(h:QJ n [bk,.str how,.int 24,.adr a] [(a,.dct ks ds)]=.ok (.lst ((ys++[t]).map jj),[(a,.dct ks' ds')]))(o:ks'.length=ds'.length)(i: .inr how∉ks')(l:ks'.length<=1000):
 Qu n [bk,.str how,d,.int 24,.adr a] [(a,.dct ks ds)]=(KD [jj t,d,.int 24]).bind λz=>.ok (z,[(a,.dct (ks'++[.inr how]) (ds'++[jj t]))]):=by
 have p:=K9 g Xb;have q:=K9 g Xc;have c:=DO (f:=jj) ys t;have e:=L6 (d:=jj t) o i;have r:=JU l;have s:=L5 i;refine BK rfl ?_;rw[wn];unfold Wm;rw[Wi,Wn (b:=false) (by simp[p,j]),jt,Ze (),Wi,Wn (b:=false) (by simp[q,m]),jt,Ze ()];refine hB (sd':=[~~~bk,~~~(.str how),~~~d,~~~(.int 24),~~~(.adr a)]) (kB (by rw[Ed,hz];rfl) ?_) (L8 e);unfold Bx;have u:zr wx (Wg (QJ n) (J0 (jb 0) (J0 (jb 1) (J0 (jb 3) (J0 (jb 4) jc))))) (zl (jS qY (dC (.int 1)))) [~~~bk,~~~(.str how),~~~d,~~~(.int 24),~~~(.adr a)] [(a,.dct ks ds)]=.ok (jj t,[(a,.dct ks' ds')]):=by
  generalize (ys++[t]).map jj=es at h c;have c:wx (.lst es) (.int (-1))=some (jj t):=c;simp[h,c]
 simp_all [Iu,Wb,Wv,jt,DN,dr]
def kt {n:Nat}{bk d:D}{how:Str}(e:asc how)(g:how ≠ "all")(h:how ≠ "first"){a:Addr}{ks:List j6}{ds:YG}(hz:jF ks ds (.inr how)=none){c:Str}{f:YG}(i:QJ n [bk,.str how,.int 24,.adr a] [(a,.dct ks ds)]=.ex c f):
 Qu n [bk,.str how,d,.int 24,.adr a] [(a,.dct ks ds)]=.ex c f:=by
 refine L0 rfl ?_;rw[wn];unfold Wm;rw[Wi,Wn (b:=false) (by simp[(K9 e Xb),g]),jt,Ze (),Wi,Wn (b:=false) (by simp[(K9 e Xc),h]),jt,Ze (),IP]
 simp_all [Bx,Ed]
theorem L9 {rc b:Str->List Int->Int}:∀{a:List Rw},(∀r∈a,∀f,xD rc f r=xD b f r)->∀hs,qg rc a hs=qg b a hs
 | [],_,_=>rfl
 |r::a,h,hs=>by
  show qg rc a (hs++[xD rc hs r])=qg b a (hs++[xD b hs r]);rw[h r Zqs];exact L9 () _
def BkP.fuel {ps:List Pl}(B:BkP ps):∀j n q,ps[j]? = some q->j<n->∀hs,qW ps n q hs=qW ps (j+1) q hs:=by
 intro j
 induction j using Nat.strongRecOn with
 |ind j b =>
  intro n q c h hs;obtain⟨a,rfl⟩:∃a,n=a+1:=⟨n-1,()⟩;rw[DR,DR];refine L9 (λr e f=>?_) hs;obtain⟨k,g⟩:=Jn.mp e;unfold xD;rcases B.how c g with z|z|⟨_,z1,z2,j2,q2,z3,z4,z5,_⟩
  .simp_all
  .simp_all
  .rw[Ze z1,Ze z2,Ze z1,Ze z2,z5];unfold xE;rw[B.find z4];show(qW ps a q2 _).getLastD 0=(qW ps j q2 _).getLastD 0;rw[b j2 z3 a q2 z4 (),b j2 z3 j q2 z4 ()]
def BkP.rc {ps:List Pl}(B:BkP ps){j n:Nat}{q:Pl}(a:ps[j]? = some q)(h:j<n)(ts):xE ps n q.name ts=xE ps (j+1) q.name ts:=by
 unfold xE;rw[B.find a];show(qW ps n q _).getLastD 0=(qW ps (j+1) q _).getLastD 0;rw[B.fuel j n q a h]
abbrev Kn:=List (Str×Jz)
def kD (K:Kn):D:=.dct (K.map λx=>.inr x.1) (K.map λx=>jj x.2)
theorem k9 (x:Str):∀K:Kn,(jF (K.map λx=>.inr x.1) (K.map λx=>jj x.2) (.inr x)=none/\x∉K.map (·.1))\/∃f,(x,f)∈K/\jF (K.map λx=>.inr x.1) (K.map λx=>jj x.2) (.inr x)=some (jj f)
 | []=>.inl ⟨rfl,λz=>nomatch z⟩
 |y::K=>by
  rw[Zl,Zl,CN];by_cases c:y.1=x
  .grind
  .rcases k9 x K with ⟨a,b⟩|⟨f,a,b⟩
   .grind
   grind
def wB:Nat->Int
 | 0=>1000000000000000000000000000000
 |j+1=>16*wB j
theorem ZV:∀j,1000000000000000000000000000000<=wB j
 | 0=>UW _
 |j+1=>by have:=ZV j;show _<=16*wB j;lia
theorem LA:∀{i j:Nat},i<=j->wB i<=wB j
 |i,0,h=>by simp_all
 |i,j+1,h=>by
  have p:=ZV j;rcases Vs j i with z|z
  .grind
  .have:=LA z;show _<=16*wB j;lia
structure KOk (ps:List Pl)(K:Kn):Prop where
 nd:(K.map (·.1)).Nodup
 ok:∀x∈K,∃j q,ps[j]? = some q/\x.1=q.name/\Tf q.givens.length (wB (j+1)) x.2/\∀hs:Yh,hs.length=q.givens.length->JA x.2 hs=xE ps (j+1) q.name hs
def zN (ps:List Pl)(j:Nat)(K b:Kn):Prop:=∀x∈b.map (·.1),x∈K.map (·.1)\/∃a q,a<j/\ps[a]? = some q/\x=q.name
theorem LB:∀(ps:List Pl) (l:Yk),l.Nodup->(∀x∈l,∃q∈ps,x=q.name)->l.length<=ps.length
 | [],l,_,h=>by
  cases l with
  |nil=>exact Zf _
  |cons x l =>
   have ⟨q,a,_⟩:=h x Zqs;cases a
 |p::ps,l,nd,h=>by
  have b:=LB ps (l.erase p.name) (nd.erase _) λx c=>by
   grind
  grind
theorem KOk.len {ps:List Pl}{K:Kn}(h:KOk ps K)(B:BkP ps):K.length<=4:=by
 have:=LB ps (K.map (·.1)) h.nd λx a=>by
  obtain⟨y,b,rfl⟩:=Ja.mp a;obtain⟨j,q,c,e,_⟩:=h.ok y b;exact⟨q,Uf c,e⟩
 rw[Zql] at this;have:=B.len;lia
def vx (ps:List Pl)(n:Nat)(p:Pl)(j:Nat)(K:Kn):Prop:=(∀a,QJ n [JH ps,.str p.name,.int 24,.adr a] [(a,kD K)]=.ex "TooMany" [])\/∃T b,KOk ps b/\zN ps j K b/\(∀g∈T,Tf p.givens.length (wB (j+1)) g)/\(∀hs:Yh,hs.length=p.givens.length->(T.map λg=>JA g hs)=qW ps (j+1) p hs)/\T ≠ []/\∀a,QJ n [JH ps,.str p.name,.int 24,.adr a] [(a,kD K)]=.ok (.lst (T.map jj),[(a,kD b)])
def wq {x:Res D}{f:D->Res (D×HP)}(h:x=K2):x.bind f=.ex "TooMany" []:=by rw[h];rfl
def dH {ps:List Pl}(B:BkP ps){n j:Nat}{p:Pl}(hp:ps[j]? = some p)(X:∀c q K,c<j->ps[c]? = some q->KOk ps K->vx ps n q c K){k:Nat}{r:Rw}(M:p.rows[k]? = some r){W:Int}{T:List Jz}(Y:∀g∈T,Tf p.givens.length W g)(lT:T.length=p.givens.length+k){K:Kn}(A:KOk ps K):
 (∀a,Qu n [JH ps,.str r.2.1,.lst ((r.2.2.map λp=>Qq (qD T p.1) p.2).map jj),.int 24,.adr a] [(a,kD K)]=.ex "TooMany" [])\/∃t i,KOk ps i/\zN ps j K i/\Tf p.givens.length (W+2*wB j) t/\(∀hs:Yh,JA t hs=xD (xE ps j) (T.map λg=>JA g hs) r)/\∀a,Qu n [JH ps,.str r.2.1,.lst ((r.2.2.map λp=>Qq (qD T p.1) p.2).map jj),.int 24,.adr a] [(a,kD K)]=.ok (jj t,[(a,kD i)]):=by
 have R:=(B.ok j p hp).row k r M;have sh:=R.sh;obtain⟨C,E⟩:=Ly Y (its:=r.2.2) (V:=1000000000000000000000000000000) (λy Z=>by have:=R.rng y Z;lia) R.wt;have pj:=ZV j;have ne:(r.2.2.map λp=>Qq (qD T p.1) p.2) ≠ []:=λz=>R.ne (Jd.mp z);have N:(r.2.2.map λp=>Qq (qD T p.1) p.2).length=r.2.2.length:=Zql _;have same:zN ps j K K:=λx v=>.inl v;unfold xD;generalize (r.2.2.map λp=>Qq (qD T p.1) p.2)=fs at C E ne N;rcases B.how hp M with z|z|⟨z0,z1,z2,c,q,z3,z4,z5,z6⟩
 .rw[z];simp only[if_true];rcases Lw ne C () with y|⟨t,m,o,s⟩
  .exact .inl λa=>by rw[L1];exact wq y
  .refine .inr ⟨t,K,A,same,o.mono (),λhs=>?_,λa=>?_⟩
   .rw[s,E]
   .rw[L1,m];rfl
 .rw[z];have d:¬("first" : Str) = "all" := by decide +kernel
  simp only[if_true,Ze d];rcases Lx ne C () with y|⟨t,m,o,s⟩
  .exact .inl λa=>by rw[L4];exact wq y
  .refine .inr ⟨t,K,A,same,o.mono (),λhs=>?_,λa=>?_⟩
   .rw[s,E]
   .rw[L4,m];rfl
 .simp only[Ze z1,Ze z2];have rc:∀H,xE ps j r.2.1 H=xE ps (c+1) q.name H:=λH=>by rw[z5];exact B.rc z4 z3 H
  have J:fs.length=q.givens.length:=N.trans z6;have wj:=LA (show c+1<=j from ());have O:∀hs,(fs.map λg=>JA g hs).length=q.givens.length:=λhs=>(Zql _).trans J;rcases k9 r.2.1 K with ⟨I,L⟩|⟨f,I,L⟩
  .rcases X c q K z3 z4 A with y|⟨U,i,k1,k2,k3,k4,k5,k6⟩
   .exact .inl λa=>kt z0 z1 z2 I (by have:=y a;rw[<- z5] at this;exact this)
   .obtain⟨ys,t,rfl⟩:=DP k5;have P:Tf q.givens.length (wB (c+1)) t:=k3 t (Ut _ Zqs);have ct:∀hs:Yh,hs.length=q.givens.length->JA t hs=xE ps (c+1) q.name hs:=λhs h=>by
     have e:=k4 hs h;obtain⟨zs,ez⟩:=B.part (n:=c) z4 hs;rw[ez,Uc] at e;have e:=Zt (λl=>l.getLastD 0) e;have e:((ys.map λg=>JA g hs)++[JA t hs]).getLastD 0=(zs++[xE ps (c+1) q.name hs]).getLastD 0:=e;rw[List.getLastD_concat,List.getLastD_concat] at e;exact e
    have Q:r.2.1∉i.map (·.1):=λy=>by
     rcases k2 _ y with y|⟨F,w,m,o,s⟩
     .exact L y
     .have e:q.name=w.name:=z5.symm.trans s;have:=B.inj c F q w z4 o e;lia
    have nk:(UP r.2.1:j6)∉i.map λx=>UP x.1:=λy=>by
     obtain⟨x,v,e⟩:=Ja.mp y;injection e with e
     exact Q (Ja.mpr ⟨x,v,e⟩)
    have l4:=k1.len B;have G:=λa=>sE (n:=n) (bk:=JH ps) (d:=.lst (fs.map jj)) z0 z1 z2 (a:=a) I (ys:=ys) (t:=t) (ks':=i.map λx=>.inr x.1) (ds':=i.map λx=>jj x.2) (by have:=k6 a;rw[<- z5] at this;exact this) (by rw[Zql,Zql]) nk (by rw[Zql];lia);have kd:∀a:Addr,[(a,D.dct ((i.map λx=>UP x.1)++[.inr r.2.1]) ((i.map λx=>jj x.2)++[jj t]))]=[(a,kD (i++[(r.2.1,t)]))]:=λa=>by
     unfold kD;rw[Uc,Uc];rfl
    have ko:KOk ps (i++[(r.2.1,t)]):=⟨by
     rw[Uc];refine List.nodup_append.mpr ⟨k1.nd,VW _ _,λa S b hb e=>?_⟩;rw[e,Jc.mp hb] at S;exact Q S,λx v=>by
     rcases Jb.mp v with y|y
     .exact k1.ok x y
     .rw[Jc.mp y];exact⟨c,q,z4,z5,P,ct⟩⟩
    have nw:zN ps j K (i++[(r.2.1,t)]):=λx v=>by
     rw[Uc] at v;rcases Jb.mp v with y|y
     .rcases k2 x y with y|⟨F,w,m,o,s⟩
      .exact .inl y
      .exact .inr ⟨F,w,(),o,s⟩
     .exact .inr ⟨c,q,z3,z4,(Jc.mp y).trans z5⟩
    rcases Lz P J C with y|⟨u,m,o,s⟩
    .exact .inl λa=>by
      show Qu n _ [(a,D.dct _ _)]=_;rw[G a];exact wq y
    .refine .inr ⟨u,_,ko,nw,o.mono (),λhs=>?_,λa=>?_⟩
     .rw[s,ct _ (O hs),rc,E]
     .show Qu n _ [(a,D.dct _ _)]=_;rw[G a,m,kd];rfl
  .obtain⟨F,w,m,o,s,y4⟩:=A.ok _ I;have e:q.name=w.name:=z5.symm.trans o;have e:=B.inj c F q w z4 m e;subst e;rw[z4] at m;cases m;have G:=λa=>kr (n:=n) (bk:=JH ps) (d:=.lst (fs.map jj)) z0 z1 z2 (a:=a) L;rcases Lz s J C with y|⟨u,x1,x2,x3⟩
   .exact .inl λa=>by
     show Qu n _ [(a,D.dct _ _)]=_;rw[G a];exact wq y
   .refine .inr ⟨u,K,A,same,x2.mono (),λhs=>?_,λa=>?_⟩
    .rw[x3,y4 _ (O hs),rc,E]
    .show Qu n _ [(a,D.dct _ _)]=_;rw[G a,x1];rfl
def cr {T:List Jz}{its:Jy}(h:∀p∈its,0<=p.1/\p.1<(T.length:Int))(hs:∀g∈T,g.length<=1000/\∀r∈g,r.length<=1000):jT (.tup [0,1]) (Km W9 (J0 (WT 2 (jb 0)) (J0 (jb 1) jc))) [none,none,some (.own false (.lst (T.map jj)))] (its.map qc)=.ok ((its.map λp=>Qq (qD T p.1) p.2).map jj):=by
 rw[Zw];exact Ku λp hp=>by
  obtain⟨b,c⟩:=h p hp;have a:=Ln b c;obtain⟨e,f⟩:=hs _ (BI b c);have i:=Lm (w:=p.2) e f
  simp_all
def XP (n:Nat):qV:=(Bq (vm (jr 9 (ZF [none,none,some 5] 2 (iS (jb 8)) (.tup [0,1]) (Km W9 (J0 (WT 2 (jb 0)) (J0 (jb 1) jc)))))) (Wf 5 (Wg (Qu n) (J0 (jb 0) (J0 (jb 7) (J0 (jb 9) (J0 (jb 2) (J0 (jb 3) jc))))))))
def yx (bk nm pl:D)(a:Addr)(T:YG)(u6 u7 u8 u9:Option SV):SD:=[~~~bk,~~~nm,~~~(.int 24),~~~(.adr a),~~~pl,some (.own false (.lst T)),u6,u7,u8,u9]
def dk {n:Nat}{bk nm pl:D}{a:Addr}{T:List Jz}{u6 u7 u8 u9:Option SV}{hp:HP}{r:Rw}(f:∀p∈r.2.2,0<=p.1/\p.1<(T.length:Int))(hs:∀g∈T,g.length<=1000/\∀r∈g,r.length<=1000)(l:r.2.2.length<=1000):
 KW (.tup [6,7,8]) (XP n) (jD r) (yx bk nm pl a (T.map jj) u6 u7 u8 u9) hp=Wf 5 (Wg (Qu n) (J0 (jb 0) (J0 (jb 7) (J0 (jb 9) (J0 (jb 2) (J0 (jb 3) jc)))))) (yx bk nm pl a (T.map jj) (~~~(.str r.1)) (~~~(.str r.2.1)) (~~~(jv r.2.2)) (~~~(.lst ((r.2.2.map λp=>Qq (qD T p.1) p.2).map jj)))) hp:=by
 have h:=cr f hs;have i:=JU l;have j:∀a b c d e u6 u7 u8 u9,capO [none,none,some 5] 2 [a,b,c,d,e,some (.own false (.lst (T.map jj))),u6,u7,u8,u9]=[none,none,some (.own false (.lst (T.map jj)))]:=λ_ _ _ _ _ _ _ _ _=>rfl
 simp_all [yx,XP]
def sF {n:Nat}{bk nm pl d:D}{a:Addr}{T:YG}{u6:Option SV}{b:Option SV}{how fs:D}{hp hp':HP}(h:Qu n [bk,how,fs,.int 24,.adr a] hp=.ok (d,hp'))(l:T.length<=1000):
 Wf 5 (Wg (Qu n) (J0 (jb 0) (J0 (jb 7) (J0 (jb 9) (J0 (jb 2) (J0 (jb 3) jc)))))) (yx bk nm pl a T u6 (~~~how) b (~~~fs)) hp=.ok (.next (yx bk nm pl a (T++[d]) u6 (~~~how) b (~~~fs)) hp'):=by
 have z:=JU l
 simp_all [yx,Wf]
def t6 {n:Nat}{bk nm pl:D}{a:Addr}{T:YG}{u6:Option SV}{e:Option SV}{how fs:D}{hp:HP}{c:Str}{b:YG}(h:Qu n [bk,how,fs,.int 24,.adr a] hp=.ex c b):
 Wf 5 (Wg (Qu n) (J0 (jb 0) (J0 (jb 7) (J0 (jb 9) (J0 (jb 2) (J0 (jb 3) jc)))))) (yx bk nm pl a T u6 (~~~how) e (~~~fs)) hp=.ex c b:=by
 simp_all [yx,Wf]
def tP {b:D->qV}{x:D}{e:YG}{sd:SD}{hp:HP}{c:Str}{a:YG}(h:b x sd hp=.ex c a):xl b (x::e) sd hp=.ex c a:=by
 simp_all [xl]
def LC {b:D->qV}{x:D}{a:YG}{sd sd':SD}{hp hp':HP}(h:b x sd hp=.ok (.next sd' hp')):xl b (x::a) sd hp=xl b a sd' hp':=by
 rw[xl,h];rfl
theorem LD {ps:List Pl}(B:BkP ps){n j:Nat}{p:Pl}(hp:ps[j]? = some p)(G:∀u q K,u<j->ps[u]? = some q->KOk ps K->vx ps n q u K):∀(b:List Rw) i,p.rows.drop i=b->i<=p.rows.length->∀(T:List Jz) (K:Kn),(∀g∈T,Tf p.givens.length ((i:Int)*(2*wB j)) g)->T.length=p.givens.length+i->(∀hs:Yh,hs.length=p.givens.length->(T.map λg=>JA g hs)=qg (xE ps j) (p.rows.take i) hs)->KOk ps K ->
 (∀nm pl a u6 u7 u8 u9,xl (KW (.tup [6,7,8]) (XP n)) (b.map jD) (yx (JH ps) nm pl a (T.map jj) u6 u7 u8 u9) [(a,kD K)]=.ex "TooMany" [])\/∃(f:List Jz) (l:Kn),KOk ps l/\zN ps j K l/\(∀g∈f,Tf p.givens.length ((p.rows.length:Int)*(2*wB j)) g)/\f.length=p.givens.length+p.rows.length/\(∀hs:Yh,hs.length=p.givens.length->(f.map λg=>JA g hs)=qg (xE ps j) p.rows hs)/\∀nm pl a u6 u7 u8 u9,∃v A C E,xl (KW (.tup [6,7,8]) (XP n)) (b.map jD) (yx (JH ps) nm pl a (T.map jj) u6 u7 u8 u9) [(a,kD K)]=.ok (.next (yx (JH ps) nm pl a (f.map jj) v A C E) [(a,kD l)])
 | [],i,hd,hi,T,K,hT,lT,cT,hK=>by
  have e:i=p.rows.length:=by
   have:=List.drop_eq_nil_iff.mp hd;lia
  subst e;rw[U5] at cT;exact .inr ⟨T,K,hK,λx m=>.inl m,hT,lT,cT,λnm pl a u6 u7 u8 u9=>⟨u6,u7,u8,u9,rfl⟩⟩
 |r::b,i,hd,hi,T,K,hT,lT,cT,hK=>by
  have c:i<p.rows.length:=by
   rcases Vs i p.rows.length with z|z
   .exact z
   .rw[List.drop_eq_nil_iff.mpr z] at hd;cases hd
  rw[Ur c] at hd;injection hd with h1 h2
  have F:p.rows[i]? = some r:=by rw[Zqg c,h1]
  have P:=B.ok j p hp;have R:=P.row i r F;have J:=P.g2;have L:=P.r2;have M:=R.sh;have rs:=λ(nm pl:D) (a:Addr) u6 u7 u8 u9=>dk (n:=n) (bk:=JH ps) (nm:=nm) (pl:=pl) (a:=a) (T:=T) (u6:=u6) (u7:=u7) (u8:=u8) (u9:=u9) (hp:=[(a,kD K)]) (r:=r) (λy H=>by have:=R.rng y H;lia) (λg s=>⟨by have:=(hT g s).len;lia,λx m=>by have:=((hT g s).cn.rows x m).len;lia⟩) ();rcases dH B hp G F hT lT hK with z|⟨t,K1,k1,k2,k3,k4,k5⟩
  .exact .inl λnm pl a u6 u7 u8 u9=>tP (by rw[rs];exact t6 (z a))
  .have st:∀(nm pl:D) a u6 u7 u8 u9,KW (.tup [6,7,8]) (XP n) (jD r) (yx (JH ps) nm pl a (T.map jj) u6 u7 u8 u9) [(a,kD K)]=.ok (.next (yx (JH ps) nm pl a ((T++[t]).map jj) (~~~(.str r.1)) (~~~(.str r.2.1)) (~~~(jv r.2.2)) (~~~(.lst ((r.2.2.map λp=>Qq (qD T p.1) p.2).map jj)))) [(a,kD K1)]):=λnm pl a u6 u7 u8 u9=>by
    rw[rs,sF (k5 a) (by rw[Zql];lia),Uc];rfl
   have N:=ZV j;have o:((i+1:Nat):Int)*(2*wB j)=(i:Int)*(2*wB j)+2*wB j:=by rw[Int.natCast_add,Int.add_mul];lia
   have I:=LD B hp G b (i+1) h2 c (T++[t]) K1 (λg s=>by
    rcases Jb.mp s with y|y
    .exact(hT g y).mono (by rw[o];lia)
    .rw[Jc.mp y];exact k3.mono (by rw[o];lia)) (by rw[Ub,Uu];lia) (λhs h=>by
    rw[Uc,cT hs h,IU F,<- cT hs h];show _++[JA t hs]=_;rw[k4]) k1
   rcases I with y|⟨f,l,y1,y2,y3,y4,y5,y6⟩
   .exact .inl λnm pl a u6 u7 u8 u9=>(LC (st nm pl a u6 u7 u8 u9)).trans (y nm pl a _ _ _ _)
   .refine .inr ⟨f,l,y1,λx m=>?_,y3,y4,y5,λnm pl a u6 u7 u8 u9=>?_⟩
    .rcases y2 x m with w|w
     .exact k2 x w
     .exact .inr w
    .obtain⟨v,A,C,E,e⟩:=y6 nm pl a _ _ _ _;exact⟨v,A,C,E,(LC (st nm pl a u6 u7 u8 u9)).trans e⟩
theorem sH {g t:Nat}(h:t<g)(a:g<=12):Tf g 0 [[((t:Int),0)]]:=by
 have b:JRow [((t:Int),(0:Int))]:=⟨List.cons_ne_nil _ _,VW _ _,()⟩;refine⟨⟨List.cons_ne_nil _ _,(),WM xM (KZ _) () λr=>⟨λh=>(xg.mp h).1,λh=>xg.mpr ⟨h,zW.mpr ()⟩⟩⟩,(),λr c p hp=>?_⟩
 simp_all
def y8 (g:Nat):List Jz:=(List.range g).map λt:Nat=>[[((t:Int),(0:Int))]]
def cy {g:Nat}{hs:Yh}(h:hs.length=g):((y8 g).map λf=>JA f hs)=hs:=by
 unfold y8;apply VF;intro i;rcases Vs i g with z|z
 .have e:JA [[((i:Int),(0:Int))]] hs=jN hs (i:Int)+0:=rfl
  simp_all [jN]
 simp_all
theorem LF {ps:List Pl}(B:BkP ps):∀(n j:Nat) (p:Pl) (K:Kn),ps[j]? = some p->j<n->KOk ps K->vx ps n p j K
 | 0,_,_,_,_,h,_=>Zn h (US _)
 |n+1,j,p,K,hp,hj,hK=>by
  have P:=B.ok j p hp;have u:=P.g1;have v:=P.g2;have l:=gE (B.at hp).2.2.1 B.ascs (B.find hp);have w:KU [.int (p.givens.length:Nat)]=.ok (Qc 0 p.givens.length):=by rw[W1 () ()];rfl
  have x:jT (.one 0) (Km BJ (J0 (jb 0) jc)) [none] (Qc 0 p.givens.length)=.ok ((y8 p.givens.length).map jj):=by
   unfold y8;rw[Zw];exact X9 λi y=>by simp
  have A:qy "Plan" "givens" (JW p)=some (.lst (p.givens.map .str)):=rfl;have C:qy "Plan" "rows" (JW p)=some (.lst (p.rows.map jD)):=rfl;have m:(p.givens.map D.str).length=p.givens.length:=Zql _;have E:=JU (show p.givens.length<=1000 from ());have st:∀a,Q2 10 [JH ps,.str p.name,.int 24,.adr a]=[~~~(JH ps),~~~(.str p.name),~~~(.int 24),~~~(.adr a),none,none,none,none,none,none]:=λa=>rfl;have b:∀a (X:Res (D×HP)),(y9 (Br (iS (jS (qy "Plan" "rows") (jb 4))) (.tup [6,7,8]) (XP n)) (w6 5 (zl (jb 5)))) (yx (JH ps) (.str p.name) (JW p) a ((y8 p.givens.length).map jj) none none none none) [(a,kD K)]=X->XO (Qu n) (Q2 10 [JH ps,.str p.name,.int 24,.adr a]) [(a,kD K)]=X:=λa X h=>by
   rw[st];unfold XO;refine hB (sd':=[~~~(JH ps),~~~(.str p.name),~~~(.int 24),~~~(.adr a),~~~(JW p),none,none,none,none,none]) (IQ (by simp[l])) ?_;refine hB (IQ (sd':=yx (JH ps) (.str p.name) (JW p) a ((y8 p.givens.length).map jj) none none none none) ?_) h
   simp_all [yx,Wd]
  have it:∀a T u6 u7 u8 u9,iS (jS (qy "Plan" "rows") (jb 4)) (yx (JH ps) (.str p.name) (JW p) a T u6 u7 u8 u9)=.ok (p.rows.map jD):=λa T u6 u7 u8 u9=>by
   rfl
  have go:=LD B hp (n:=n) (λo q K F r s=>LF B n o q K r () s) p.rows 0 rfl (Ua _) (y8 p.givens.length) K (λg c=>by
   obtain⟨t,G,rfl⟩:=Ja.mp c
   grind[sH]) (by unfold y8;rw[Zql,ZB];rfl) (λhs h=>by rw[cy h];rfl) hK
  rcases go with z|⟨T,K',k1,k2,k3,f,k5,k6⟩
  .refine .inl λa=>?_;show Ky 10 4 (XO (Qu n)) _ _=_;refine L0 rfl (b a _ ?_)
   simp_all
  .refine .inr ⟨T,K',k1,k2,λg c=>(k3 g c).mono ?_,λhs h=>?_,λe=>?_,λa=>?_⟩
   .have H:=ZV j;have I:=P.r2;have:=Int.mul_le_mul_of_nonneg_right (show(p.rows.length:Int)<=8 by lia) (show 0<=2*wB j from ());show _<=16*wB j;lia
   .rw[k5 hs h];rfl
   .rw[e] at f;have f:0=p.givens.length+p.rows.length:=f;lia
   .refine dJ rfl (b a _ ?_);obtain⟨J,L,M,N,e⟩:=k6 (.str p.name) (JW p) a none none none none;rw[IP,dY,it,jt,e,jt];rfl
def BL:FS:=(jz (D8 (QJ 4) (.dct [] []) (J0 (jb 0) (J0 (jb 1) (J0 (jb 2) jc)))))
def BM:YG->Res D:=jA 3 3 BL
def ZW:FS:=(jz (ji jE (J7 BM (J0 (jb 0) (J0 (jb 1) (J0 (jb 2) jc)))) (jS qY (dC (.int 1)))))
def WA:YG->Res D:=jA 3 3 ZW
def dE {ps:List Pl}(B:BkP ps){j:Nat}{p:Pl}(hp:ps[j]? = some p):WA [JH ps,.str p.name,.int 24]=K2\/∃t,WA [JH ps,.str p.name,.int 24]=.ok (jj t)/\Tf p.givens.length (wB (j+1)) t/\∀hs:Yh,hs.length=p.givens.length->JA t hs=xE ps (j+1) p.name hs:=by
 have b:∀x:Res D,(∀a,(QJ 4 [JH ps,.str p.name,.int 24,.adr a] [(a,.dct [] [])]).bind (λq=>.ok q.1)=x)->BM [JH ps,.str p.name,.int 24]=x:=λx h=>by
  have c:D8 (QJ 4) (.dct [] []) (J0 (jb 0) (J0 (jb 1) (J0 (jb 2) jc))) [~~~(JH ps),~~~(.str p.name),~~~(.int 24)]=x:=tJ h;generalize JH ps=bk at c;simp[BM,BL,c];cases x<;>rfl
 rcases LF B 4 j p [] hp (B.at hp).2.1 ⟨VB,λx h=>nomatch h⟩ with z|⟨T,K',k1,k2,k3,k4,k5,k6⟩
 .left;have e:=b K2 λa=>by
   have:=z a;show Res.bind (QJ 4 [JH ps,.str p.name,.int 24,.adr a] [(a,kD [])]) _=_;rw[this];rfl
  generalize JH ps=bk at e;simp[WA,ZW,e,K2]
 .obtain⟨ys,t,rfl⟩:=DP k5;refine .inr ⟨t,?_,(),λhs h=>?_⟩
  .have e:=b (.ok (.lst ((ys++[t]).map jj))) λa=>by
    have:=k6 a;show Res.bind (QJ 4 [JH ps,.str p.name,.int 24,.adr a] [(a,kD [])]) _=_;rw[this];rfl
   have l:=DO (f:=jj) ys t
   simp_all [WA,ZW]
  .have e:=k4 hs h;obtain⟨i,g⟩:=B.part (n:=j) hp hs;rw[g,Uc] at e;have e:=Zt (λl=>l.getLastD 0) e
   grind
def ZX:FS:=(jh (jr 2 (dC .non)) (jh (zx 2 "TooMany" WA (J0 (jb 0) (J0 (jb 1) (J0 (dC (.int 24)) jc))) (jr 2 (dC .non))) (jz (jb 2))))
def KJ:YG->Res D:=jA 3 2 ZX
def pb {bk nm:D}(h:WA [bk,nm,.int 24]=K2):KJ [bk,nm]=.ok .non:=by
 simp_all [K2,KJ,ZX]
def gG {bk nm:D}{t:Jz}(h:WA [bk,nm,.int 24]=.ok (jj t)):KJ [bk,nm]=.ok (jj t):=by
 simp[KJ,ZX,h]
def XQ:FS:=(jh (jr 2 (J7 K0 (J0 (jb 0) (J0 (jb 1) jc)))) (jh (qi (JB (ji vr (ji jC (jb 2) (dC (.int 4))) (dC (.int 0)))) (jz (ji xk (ji jC (ji Qd (jb 2) (dC (.int 4))) (dC (.int 5))) (dC (.int 2)))) JJ) (jh (jr 3 (ji jC (ji xG (ji Qd (jb 0) (dC (.int 7))) (ji j3 (jb 1) (dC (.int 2)))) (ji zC (dC (.int 10)) (dC (.int 60))))) (jh (qi (JB (ji qS (ji jC (ji Qd (jb 2) (dC (.int 20))) (dC (.int 2))) (dC (.int 0)))) (jz (jb 3)) JJ) (jz (jS qY (jb 3)))))))
def Xf:YG->Res D:=jA 4 2 XQ
def gM {c s:Int}(g: -1000000<=s)(h:s<=1000000):Xf [.int c,.int s]=.ok (.int (ZG c s)):=by
 have b:Kt (c / 7) (s+2)=true:=AY () ();have e:zC (.int 10) (.int 60)=some (.int (10 ^ 60)):=rfl;unfold ZG;by_cases a:0<jK c s % 4
 .simp[Xf,XQ,a]
 .by_cases f:jK c s / 20 % 2=0
  .simp[Xf,XQ,a,f,X6 b,e]
  .simp[Xf,XQ,a,f,X6 b,e]
def BN:FS:=(jz (Ql [none,some 0,some 1] (yM (J0 (jb 2) jc)) (.one 0) (J7 Xf (J0 (ji j3 (ji Qd (J7 W8 (J0 (jb 1) (J0 (jb 0) jc))) (dC (.int 3))) (jb 0)) (J0 (ji j3 (jb 2) (jb 0)) jc)))))
def ZY:YG->Res D:=qd 3 3 BN
def gL (ns:Yh){s n:Int}(c:0<=s)(f:s<=1000)(g:0<=n)(h:n<=12):ZY [.scr ns,.int s,.int n]=.ok (.lst ((ZH ns s n.toNat).map .int)):=by
 have b:KU [.int n]=.ok (Qc 0 n.toNat):=W1 () ();have a:jT (.one 0) (J7 Xf (J0 (ji j3 (ji Qd (J7 W8 (J0 (jb 1) (J0 (jb 0) jc))) (dC (.int 3))) (jb 0)) (J0 (ji j3 (jb 2) (jb 0)) jc))) [none,~~~(.scr ns),~~~(.int s)] (Qc 0 n.toNat)=.ok ((List.range n.toNat).map λk:Nat=>.int (ZG (WY ns k / 3+k) (s+k))):=X9 λi j=>by
  simp[IV,(gM (s:=s+i) () ())]
 have e:(ZH ns s n.toNat).map D.int=(List.range n.toNat).map λk:Nat=>.int (ZG (WY ns k / 3+k) (s+k)):=by
  simp_all [ZH]
 simp[ZY,BN,b,a,Wd,JU (show n.toNat<=1000 from ()),e]
def Ee:FS:=(jz (V6 (jn xz (J0 (jb 0) (J0 (dC (.ty "int")) jc))) (FZ (jn xz (J0 (jb 0) (J0 (dC (.ty "bool")) jc))))))
def BO:YG->Res D:=jA 1 1 Ee
@[simp]def lQ (i):BO [.int i]=.ok (.bl true):=by
 rfl
def ZZ:FS:=(jh (qi (JB (jS (jI false) (jb 0))) (jz (dC (.bl true))) JJ) (jz (V6 (jn xz (J0 (jb 0) (J0 (dC (.ty "list")) jc))) (V6 (ji qS (jn jL (J0 (jb 0) jc)) (jb 1)) (jn w5 (J0 (Ql [none] (iS (jb 0)) (.one 0) (J7 BO (J0 (jb 0) jc))) jc))))))
def Xg:YG->Res D:=jA 2 2 ZZ
def pc (n:Int):Xg [.non,.int n]=.ok (.bl true):=by simp[Xg,ZZ,jI,K7]
def cW {hs:Yh}{n:Nat}(h:hs.length=n)(b:n<=1000):Xg [.lst (hs.map .int),.int n]=.ok (.bl true):=by
 have a:jT (.one 0) (J7 BO (J0 (jb 0) jc)) [none] (hs.map .int)=.ok ((hs.map λ_=>true).map .bl):=by
  rw[Zw];exact Ku λx _=>by simp
 have c:=Rx (hs.map λ_=>true);have e:(hs.map D.int).length<sizeLine:=by rw[Zql];exact JU ()
 simp_all [Xg,ZZ]
def Aa (a:YG->Res D):FS:=(jz (ji jE (J7 a (J0 (jb 0) (J0 (jb 1) (J0 (jb 2) jc)))) (jS qY (dC (.int 1)))))
def Xh (a:YG->Res D):FS:=(jh (qi (JB (ji qS (jb 1) (dC (.str "all")))) (jz (jn WR (J0 (jb 2) jc))) JJ) (jh (qi (JB (ji qS (jb 1) (dC (.str "first")))) (jz (jn Ww (J0 (jb 2) jc))) JJ) (jz (J7 a (J0 (jb 0) (J0 (jb 1) (J0 (jb 2) jc)))))))
def Ab (a:YG->Res D):FS:=(jh (qB 3 (jn QH (J0 (jb 2) jc))) (jh (jQ (iS (jS (qy "Plan" "rows") (J7 zR (J0 (jb 0) (J0 (jb 1) jc))))) (.tup [4,5,6]) (Q9 3 (yj [3] (J7 a (J0 (jb 0) (J0 (jb 5) (J0 (Ql [none,none,some 3] (iS (jb 6)) (.tup [0,1]) (ji j3 (ji jE (jb 2) (jb 0)) (jb 1))) jc))))))) (λsd=>(jz (jb 3)) (qz [3] sd))))
def Wo:Nat->YG->Res D
 | 0=>λ_=>.no
 |n+1=>jA 7 3 (Ab (jA 3 3 (Xh (jA 3 3 (Aa (Wo n))))))
def QC (n:Nat):YG->Res D:=jA 3 3 (Aa (Wo n))
def K3 (n:Nat):YG->Res D:=jA 3 3 (Xh (QC n))
def LG {n:Nat}{bk nm hs:D}{ys:Yh}{x:Int}(h:Wo n [bk,nm,hs]=.ok (.lst ((ys++[x]).map .int))):QC n [bk,nm,hs]=.ok (.int x):=by
 have l:=DO (f:=D.int) ys x
 simp_all [QC,Aa]
def cH (n:Nat)(b:D){hs:Yh}(a:hs ≠ []):K3 n [b,.str "all",.lst (hs.map .int)]=.ok (.int (qp hs)):=by
 simp[K3,Xh,IR,(GD a)]
def cZ (n:Nat)(b:D){hs:Yh}(a:hs ≠ []):K3 n [b,.str "first",.lst (hs.map .int)]=.ok (.int (qx hs)):=by
 simp[K3,Xh,IS,IT,(Df a)]
def cP {n:Nat}{b d:D}{how:Str}{z:D}(a:asc how)(c:how ≠ "all")(e:how ≠ "first")(h:QC n [b,.str how,d]=.ok z):K3 n [b,.str how,d]=.ok z:=by
 have f:=K9 a Xb;have g:=K9 a Xc
 simp_all [K3,Xh]
theorem LH {ps:List Pl}(B:BkP ps):∀(n i:Nat) (p:Pl) (hs:Yh),ps[i]? = some p->i<n->hs.length=p.givens.length->Wo n [JH ps,.str p.name,.lst (hs.map .int)]=.ok (.lst ((qW ps n p hs).map .int))
 | 0,i,p,hs,_,h,_=>()
 |n+1,i,p,hs,hp,hi,hl=>by
  have P:=B.ok i p hp;have G:=P.g2;have H:=P.r2;have I:=gE (B.at hp).2.2.1 B.ascs (B.find hp);show jA 7 3 (Ab (K3 n)) _=_;rw[DR];obtain⟨sd',e,u,v,w,o⟩:=K8 (tg:=.tup [4,5,6]) (b:=Q9 3 (yj [3] (J7 (K3 n) (J0 (jb 0) (J0 (jb 5) (J0 (Ql [none,none,some 3] (iS (jb 6)) (.tup [0,1]) (ji j3 (ji jE (jb 2) (jb 0)) (jb 1))) jc)))))) (ds:=p.rows.map jD) (sd:=[~~~(JH ps),~~~(.str p.name),~~~(.lst (hs.map .int)),some (.own false (.lst (hs.map .int))),none,none,none])
   (P:=λi sd=>∃u v w,sd=[~~~(JH ps),~~~(.str p.name),~~~(.lst (hs.map .int)),some (.own false (.lst ((qg (xE ps n) (p.rows.take i) hs).map .int))),u,v,w]) ⟨none,none,none,rfl⟩ (by
    rintro k x sd s ⟨u,v,w,rfl⟩;obtain⟨r,a,rfl⟩:=QQ s;obtain⟨t,J,K⟩:=P.at (rc:=xE ps n) hl a;have R:=P.row k r a;have y:=tH t;have A:=R.sh;have c:=sI (found:=qg (xE ps n) (p.rows.take k) hs) R.ne;have C:=tN (qg (xE ps n) (p.rows.take k) hs) r.2.2;have E:K3 n [JH ps,.str r.2.1,.lst ((xq (qg (xE ps n) (p.rows.take k) hs) r.2.2).map .int)]=.ok (.int (xD (xE ps n) (qg (xE ps n) (p.rows.take k) hs) r)):=by
     unfold xD;rcases B.how hp a with z|z|⟨z0,g,l,j,q,z3,z4,z5,z6⟩
     .rw[z,Zd rfl];exact cH n _ c
     .rw[z,Ze (by decide +kernel),Zd rfl];exact cZ n _ c
     .rw[Ze g,Ze l];refine cP z0 g l ?_;obtain⟨f,rfl⟩:∃f,n=f+1:=⟨n-1,()⟩;obtain⟨ys,F⟩:=B.part (n:=f) z4 (xq (qg (xE ps (f+1)) (p.rows.take k) hs) r.2.2);have m:=LH B (f+1) j q _ z4 () (C.trans z6);rw[F,<- z5] at m;exact LG m
    have g:=JU (show r.2.2.length<=1000 from ());have l:=JU (show(qg (xE ps n) (p.rows.take k) hs).length<=1000 by lia);rw[IU a,cq,jt];simp[y,E,g,l])
  simp_all [Ab]
def BP:FS:=(jh (jr 3 (J7 (QC 4) (J0 (jb 0) (J0 (dC (.str "a1")) (J0 (jn QH (J0 (jb 2) jc)) jc))))) (jh (jr 4 (J7 (QC 4) (J0 (jb 0) (J0 (jb 1) (J0 (jn QH (J0 (jb 2) jc)) jc))))) (jz (jR (J0 (ji kW (jb 3) (jb 4)) (J0 (ji vr (jb 3) (jb 4)) jc))))))
def WC:YG->Res D:=qd 5 3 BP
def LJ {bk:D}{x:Str}{c:YG}{a b:Int}(e:QC 4 [bk,.str "a1",.lst c]=.ok (.int a))(f:QC 4 [bk,.str x,.lst c]=.ok (.int b)):WC [bk,.str x,.lst c]=.ok (.lst [.bl (decide (a<b)),.bl (decide (b<a))]):=by
 simp[WC,BP,e,f]
def wM:FS:=(jh (qB 3 (ji ww (jR (J0 (jb 1) jc)) (jb 2))) (jh (jQ (iS (jb 0)) (.tup [4,5]) (YZ 3 (jb 4) (jS qY (jb 5)))) (Kh 3)))
def wS:YG->Res D:=qd 6 3 wM
def cK {r:Jy}{p:Int×Int}{late:Int}{n:Nat}(e:0<=p.1):Qh (r++[p]) late n=(Qh r late n).set p.1.toNat (0-p.2):=by
 apply VF;intro j;unfold Qh;rw[Zv];by_cases c:j<n
 .rw[List.getElem?_range c];show some (W7 (r++[p]) late (j:Int))=_;have a:J5 (r++[p]) (j:Int)=if p.1=(j:Int) then some p.2 else J5 r j:=by
   rw[Fa];show(match (if p.1=(j:Int) then some p.2 else none) with|some w=>some w|none=>J5 r j)=_;by_cases z:p.1=(j:Int)
   .rw[Zd z,Zd z]
   .rw[Ze z,Ze z]
  unfold W7;rw[a];by_cases z:p.1=(j:Int)
  .have b:p.1.toNat=j:=()
   rw[Zd z,b,UQ (by rwa [Zql,ZB])]
  .rw[Ze z,Zx (),Zv,List.getElem?_range c];rfl
 simp_all
def n8 {r:Jy}{late:Int}{n:Nat}(c:∀p∈r,0<=p.1/\p.1<(n:Int))(h:n<=1000):wS [jv r,.int late,.int n]=.ok (.lst ((Qh r late n).map .int)):=by
 have j:ww (.lst [.int late]) (.int n)=some (.lst ((Qh [] late n).map .int)):=by
  rw[RD () () ()];unfold Qh;rw[VE,Zw,show(D.int ∘ λi:Nat=>W7 [] late (i:Int))=λ_=>D.int late from rfl,List.map_const',ZB];simp
 obtain⟨sd',e,u,v,f⟩:=K8 (tg:=.tup [4,5]) (b:=YZ 3 (jb 4) (jS qY (jb 5))) (ds:=r.map qc)
  (P:=λi sd=>∃u v,sd=[~~~(jv r),~~~(.int late),~~~(.int n),some (.own false (.lst ((Qh (r.take i) late n).map .int))),u,v]) ⟨none,none,rfl⟩ (by
   rintro i x sd g ⟨u,v,rfl⟩;obtain⟨p,hp,rfl⟩:=QQ g;have ⟨a,l⟩:=c p (Uf hp);rw[QV hp,cK a,List.map_set];have ix:y0 ((Qh (r.take i) late n).map D.int).length p.1=some p.1.toNat:=by
    rw[Zql,IC];unfold y0;rw[Zd a];exact Zd ()
   generalize (Qh (r.take i) late n).map D.int=ds at ix;simp[ix])
 simp_all [wS,wM]
def wL:FS:=(jz (jn Ww (J0 (Ql [none] (iS (jb 0)) (.one 0) (jn Ww (J0 (Ql [none,none] (iS (jb 0)) (.tup [0,1]) (jb 1)) jc))) jc)))
def wR:YG->Res D:=jA 1 1 wL
def QK (f:Jz):Int:=qx (f.map λr=>qx (r.map (·.2)))
def cj {f:Jz}{r:Jy}{p:Int×Int}(a:r∈f)(hp:p∈r):QK f<=p.2:=by
 have b:=(Xn (l:=f.map λr=>qx (r.map (·.2))) (λz=>())).2 _ (Ja.mpr ⟨r,a,rfl⟩);have c:=(Xn (l:=r.map (·.2)) (λz=>())).2 _ (Ja.mpr ⟨p,hp,rfl⟩);exact Int.le_trans b c
def n7 {f:Jz}(g:f ≠ [])(i:f.length<=1000)(c:∀r∈f,r ≠ [])(j:∀r∈f,r.length<=1000):wR [jj f]=.ok (.int (QK f)):=by
 have a:jT (.one 0) (jn Ww (J0 (Ql [none,none] (iS (jb 0)) (.tup [0,1]) (jb 1)) jc)) [none] (f.map jv)=.ok (f.map λr=>.int (qx (r.map (·.2)))):=Ku λr h=>by
  have a:jT (.tup [0,1]) (jb 1) [none,none] (r.map qc)=.ok (r.map λp=>.int p.2):=Ku λp _=>by simp
  have e:r.map (λp=>D.int p.2)=(r.map (·.2)).map .int:=by simp
  have b:=Df (ns:=r.map (·.2)) (λz=>c r h (Jd.mp z));rw[<- e] at b;simp[a,JU (j r h),b]
 have e:f.map (λr=>D.int (qx (r.map (·.2))))=(f.map λr=>qx (r.map (·.2))).map .int:=by simp
 have b:=Df (ns:=f.map λr=>qx (r.map (·.2))) (λz=>g (Jd.mp z));rw[<- e] at b;simp[wR,wL,a,JU i,b,QK]
def wN:FS:=(jh (jr 2 (jn Wz (J0 (jb 1) jc))) (jh (jQ (iS (jb 0)) (.tup [3,4]) (qi (JB (ji (zZ true) (jb 3) (jb 2))) (jz (dC .non)) JJ)) (jz (jn WR (J0 (Ql [none,none,some 2] (iS (jb 0)) (.tup [0,1]) (ji xk (jb 1) (ji jE (jb 2) (jb 0)))) jc)))))
def wT:YG->Res D:=jA 5 2 wN
def jX (r o:Jy):Option Int:=if r.all (λp=>(J5 o p.1).isSome) then some (qp (r.map λp=>p.2-(J5 o p.1).getD 0)) else none
def yK:Option Int->D
 |none=>.non
 |some i=>.int i
def dQ {r o:Jy}{p:Int×Int}(hp:p∈r)(q:J5 o p.1=none):r.all (λp=>(J5 o p.1).isSome)=false:=()
def n9 {r o:Jy}(h:r ≠ [])(j:r.length<=1000)(b:o.length<=100)(c:j4 o):wT [jv r,jv o]=.ok (yK (jX r o)):=by
 simp[wT,wN,Bb b c];generalize l:jz (jn WR _)=K;refine X8 (R:=λz=>(z.bind (xr K)).bind xx=.ok (yK (jX r o))) (P:=λi sd=>(∃u v,sd=[~~~(jv r),~~~(jv o),~~~(qZ o),u,v])/\(r.take i).all (λp=>(J5 o p.1).isSome)=true) ⟨⟨none,none,rfl⟩,rfl⟩ ?_ ?_
 .rintro sd ⟨⟨u,v,rfl⟩,hu⟩;rw[Zql,U5] at hu;subst l;have f:jT (.tup [0,1]) (ji xk (jb 1) (ji jE (jb 2) (jb 0))) [none,none,~~~(qZ o)] (r.map qc)=.ok (r.map λp=>.int (p.2-(J5 o p.1).getD 0)):=Ku λp hp=>by
   have a:=X7 c p.1;cases q:J5 o p.1 with
   |none =>
    grind
   |some w =>
    simp_all [qZ]
  have e:r.map (λp=>D.int (p.2-(J5 o p.1).getD 0))=(r.map λp=>p.2-(J5 o p.1).getD 0).map .int:=by simp
  have g:=GD (ns:=r.map λp=>p.2-(J5 o p.1).getD 0) (λz=>h (Jd.mp z));rw[<- e] at g;simp[f,JU j,g,jX,hu,yK]
 .rintro i x sd m ⟨⟨u,v,rfl⟩,hu⟩;obtain⟨p,hp,rfl⟩:=QQ m;have a:=X7 c p.1;cases q:J5 o p.1 with
  |none =>
   rw[q] at a;have z:=dQ (Uf hp) q;exact .inr (.inr ⟨.non,by simp[qZ,a],by simp[jX,z,yK]⟩)
  |some w =>
   rw[q] at a;refine .inl ⟨[~~~(jv r),~~~(jv o),~~~(qZ o),~~~(.int p.1),~~~(.int p.2)],.inl (by simp[qZ,a]),⟨_,_,rfl⟩,?_⟩;rw[QV hp,List.all_append,hu];simp[q]
def wO:FS:=(jh (jr 2 (dC .non)) (jh (jQ (mV (J0 (jb 0) jc)) (.tup [3,4]) (jh (jr 5 (J7 wT (J0 (jb 4) (J0 (jb 1) jc)))) (qi (V5 (JB (jS (jI true) (jb 5))) (yP (JB (jS (jI false) (jb 2))) (JB (ji kW (jb 5) (ji jE (jb 2) (dC (.int 0))))))) (jr 2 (ql (J0 (jb 5) (J0 (jb 3) jc)))) JJ))) (jz (jb 2))))
def zS:YG->Res D:=jA 6 2 wO
def Xi (a:Option (Int×Int))(m:Option Int)(i:Int):Option (Int×Int):=match m with
 |none=>a
 |some m=>match a with
  |none=>some (m,i)
  |some t=>if m<t.1 then some (m,i) else some t
def Q5 (rs:Jz)(o:Jy):Nat->Option (Int×Int)
 | 0=>none
 |i+1=>Xi (Q5 rs o i) ((rs[i]?).bind λr=>jX r o) i
def QD (rs:Jz)(o:Jy):Option (Int×Int):=Q5 rs o rs.length
def yz:Option (Int×Int)->D
 |none=>.non
 |some p=>qc p
def nA {rs:Jz}{o:Jy}(l:∀r∈rs,r ≠ []/\r.length<=1000)(f:o.length<=100)(n:j4 o):zS [.lst (rs.map jv),jv o]=.ok (yz (QD rs o)):=by
 simp[zS,wO];generalize p:jh _ _=b;obtain⟨sd',e,u,v,w,s⟩:=K8 (tg:=.tup [3,4]) (b:=b) (ds:=W4 (rs.map jv)) (sd:=[~~~(.lst (rs.map jv)),~~~(jv o),~~~(.non),none,none,none])
  (P:=λi sd=>∃u v w,sd=[~~~(.lst (rs.map jv)),~~~(jv o),~~~(yz (Q5 rs o i)),u,v,w]) ⟨none,none,none,rfl⟩ (by
   rintro i x sd h ⟨u,v,w,rfl⟩;rw[GL] at h;obtain⟨y,z,rfl⟩:=Jj.mp h;obtain⟨r,hp,rfl⟩:=QQ z;have ⟨A,B⟩:=l r (Uf hp);have a:=n9 A B f n;have en:Q5 rs o (i+1)=Xi (Q5 rs o i) (jX r o) i:=by
    show Xi (Q5 rs o i) ((rs[i]?).bind λr=>jX r o) i=_;rw[hp];rfl
   subst p;cases q:jX r o with
   |none =>
    rw[q] at a en;refine⟨_,by simp[a];rfl,?_⟩;exact⟨_,_,_,by rw[en];rfl⟩
   |some m =>
    rw[q] at a en;cases t:Q5 rs o i with
    |none =>
     rw[t] at en;refine⟨_,by simp[a,yK];rfl,?_⟩;exact⟨_,_,_,by rw[en];rfl⟩
    |some t' =>
     rw[t] at en;have j:qr [D.int t'.1,D.int t'.2] 0=some (D.int t'.1):=rfl;by_cases c:m<t'.1
     .have g:Q5 rs o (i+1)=some (m,(i:Int)):=by rw[en];show(if m<t'.1 then _ else _)=_;rw[Zd c]
      exact⟨_,by simp[a,yK,yz,qc,j,c];rfl,⟨_,_,_,by rw[g];rfl⟩⟩
     .have g:Q5 rs o (i+1)=some t':=by rw[en];show(if m<t'.1 then _ else _)=_;rw[Ze c]
      exact⟨_,by simp[a,yK,yz,qc,j,c];rfl,⟨_,_,_,by rw[g];rfl⟩⟩)
 simp_all [GM,QD]
def Um (rs os:Jz):Option Int:=if os.all (λo=>(QD rs o).isSome) then some (qp (os.map λo=>((QD rs o).getD (0,0)).1)) else none
theorem BQ {rs:Jz}{o:Jy}:∀{i:Nat} {m:Int×Int},Q5 rs o i=some m->∃r∈rs,jX r o=some m.1
 | 0,m,h=>by cases h
 |i+1,m,h=>by
  have h:Xi (Q5 rs o i) ((rs[i]?).bind λr=>jX r o) i=some m:=h;cases q:(rs[i]?).bind λr=>jX r o with
  |none =>
   rw[q] at h;exact BQ h
  |some v =>
   rw[q] at h;obtain⟨r,a,b⟩:=Jf.mp q;have new:∀{j:Int},some (v,j)=some m->∃r∈rs,jX r o=some m.1:=λ{j} e=>by
    cases e;exact⟨r,Uf a,b⟩
   cases t:Q5 rs o i with
   |none=>rw[t] at h;exact new h
   |some t' =>
    rw[t] at h;have h:(if v<t'.1 then some (v,(i:Int)) else some t')=some m:=h
    split at h
    .exact new h
    .rw[h] at t;exact BQ t
def LK {r o:Jy}{m:Int}(h:jX r o=some m):∀p∈r,∃w,J5 o p.1=some w/\p.2-w<=m:=by
 unfold jX at h
 split at h
 .rename_i c;intro p hp;have hs:=UU.mp c p hp;cases q:J5 o p.1 with
  |none=>simp_all
  |some w =>
   have:=(Kq (l:=r.map λp=>p.2-(J5 o p.1).getD 0) (λz=>by rw[List.map_eq_nil_iff] at z;subst z;cases hp)).2 _ (Ja.mpr ⟨p,hp,rfl⟩)
   simp_all
 .cases h
def cs {f g:Jz}{L:Int}{hs:Yh}(h:Um f g=some L)(a:g ≠ [])(i:∀r∈f,r ≠ []):JA f hs-JA g hs<=L:=by
 obtain⟨o,b,t⟩:=Wh (hs:=hs) a;unfold Um at h
 split at h
 .rename_i c;have u:=UU.mp c o b;cases q:QD f o with
  |none=>simp_all
  |some m =>
   obtain⟨r,e,j⟩:=BQ q;have v:m.1<=qp (g.map λo=>((QD f o).getD (0,0)).1):=by
    have:=(Kq (l:=g.map λo=>((QD f o).getD (0,0)).1) (λz=>a (Jd.mp z))).2 _ (Ja.mpr ⟨o,b,rfl⟩)
    rwa [q] at this
   obtain⟨p,hp,ep⟩:=IF (hs:=hs) (i r e);obtain⟨w,n,s⟩:=LK j p hp;have x:=ZI (hs:=hs) (Qn n);have y:=KY (hs:=hs) e
   grind
 .cases h
theorem Ef {rs:Jz}{o:Jy}:∀{i:Nat},Q5 rs o i=none->∀r∈rs.take i,jX r o=none
 | 0,_,r,hr=>by cases hr
 |i+1,h,r,hr=>by
  have h:Xi (Q5 rs o i) ((rs[i]?).bind λr=>jX r o) i=none:=h;cases q:(rs[i]?).bind λr=>jX r o with
  |some v =>
   rw[q] at h;cases t:Q5 rs o i with
   |none=>rw[t] at h;cases h
   |some t' =>
    rw[t] at h;have h:(if v<t'.1 then some (v,(i:Int)) else some t')=none:=h
    split at h<;>cases h
  |none =>
   rw[q] at h;have a:=Ef h;cases z:rs[i]? with
   |none =>
    rw[Uv (by have:=Jo.mp z;lia)] at hr;rw[Uv (Jo.mp z)] at a;exact a r hr
   |some s =>
    rw[QV z] at hr
    grind
theorem Eg {rs:Jz}{o:Jy}:∀{i:Nat} {m:Int×Int},Q5 rs o i=some m->∀r∈rs.take i,∀v,jX r o=some v->m.1<=v
 | 0,m,h,r,hr,v,hv=>by cases hr
 |i+1,m,h,r,hr,v,hv=>by
  have h:Xi (Q5 rs o i) ((rs[i]?).bind λr=>jX r o) i=some m:=h;cases z:rs[i]? with
  |none =>
   rw[z] at h;have h:=h;refine Eg h r ?_ v hv;rw[Uv (by have:=Jo.mp z;lia)] at hr
   rwa [Uv (Jo.mp z)]
  |some s =>
   rw[z] at h;rw[QV z] at hr;have a:∀{b:Int×Int},Q5 rs o i=some b->∀r∈rs.take i,∀v,jX r o=some v->b.1<=v:=λe=>Eg e;have h:Xi (Q5 rs o i) (jX s o) i=some m:=h;cases q:jX s o with
   |none =>
    rw[q] at h;have h:=h;rcases Jb.mp hr with y|y
    .exact a h r y v hv
    .rw[Jc.mp y,q] at hv;cases hv
   |some w =>
    rw[q] at h;cases t:Q5 rs o i with
    |none =>
     rw[t] at h;cases h;rcases Jb.mp hr with y|y
     .rw[Ef t r y] at hv;cases hv
     .rw[Jc.mp y,q] at hv;cases hv;exact UW _
    |some t' =>
     rw[t] at h;have h:(if w<t'.1 then some (w,(i:Int)) else some t')=some m:=h
     split at h
     .cases h;rcases Jb.mp hr with y|y
      .have:=a t r y v hv;lia
      .rw[Jc.mp y,q] at hv;cases hv;exact UW _
     .cases h;rcases Jb.mp hr with y|y
      .exact a t r y v hv
      .rw[Jc.mp y,q] at hv;cases hv;lia
def dX {f g:Jz}{L:Int}(b:g ≠ [])(h:Um f g=some L):∀o∈g,∃r∈f,∃v,jX r o=some v/\v<=L:=λo a=>by
 unfold Um at h
 split at h
 .rename_i c;have j:=UU.mp c o a;cases q:QD f o with
  |none=>simp_all
  |some m =>
   obtain⟨r,e,i⟩:=BQ q;refine⟨r,e,m.1,i,?_⟩;have:=(Kq (l:=g.map λo=>((QD f o).getD (0,0)).1) (λz=>b (Jd.mp z))).2 _ (Ja.mpr ⟨o,a,rfl⟩)
   simp_all
 .cases h
def wQ:FS:=(jh (jQ (iS (jb 1)) (.one 4) (jh (jr 5 (J7 zS (J0 (jb 0) (J0 (jb 4) jc)))) (qi (yP (JB (jS (jI false) (jb 5))) (JB (ji nq (ji jE (jb 5) (dC (.int 0))) (jb 2)))) (jz (J7 wS (J0 (jb 4) (J0 (ji xk (jb 2) (J7 wR (J0 (jb 0) jc))) (J0 (jb 3) jc))))) JJ))) (jz (dC .non)))
def yS:YG->Res D:=jA 6 4 wQ
def qq (f:Jz)(t:Int)(o:Jy):Bool:=match QD f o with
 |none=>true
 |some m=>decide (t<=m.1)
def Ka (f g:Jz)(t:Int)(n:Nat):D:=match g.find? (qq f t) with
 |none=>.non
 |some o=>.lst ((Qh o (t-QK f) n).map .int)
def gP {f g:Jz}{t:Int}{n:Nat}(C:f ≠ [])(E:f.length<=1000)(j:∀r∈f,r ≠ []/\r.length<=1000)(A:∀o∈g,o.length<=100/\j4 o)(F:∀o∈g,∀p∈o,0<=p.1/\p.1<(n:Int))(G:n<=1000):yS [jj f,jj g,.int t,.int n]=.ok (Ka f g t n):=by
 have b:=n7 C E (λr h=>(j r h).1) λr h=>(j r h).2;have I:W0 (jj g)=some (g.map jv):=rfl;simp only[yS,wQ,Rb,Ra,Rh,gX];refine X8 (R:=λz=>(z.bind (xr (jz (dC .non)))).bind xx=.ok (Ka f g t n)) (tg:=.one 4) (ds:=g.map jv) (P:=λi sd=>(∃u v,sd=[~~~(jj f),~~~(jj g),~~~(.int t),~~~(.int n),u,v])/\∀o∈g.take i,qq f t o=false) () ?_ ?_
 .rintro sd ⟨⟨u,v,rfl⟩,hu⟩;rw[Zql,U5] at hu;have:g.find? (qq f t)=none:=by grind
  simp[Ka,this]
 .rintro i x sd H ⟨⟨u,v,rfl⟩,hu⟩;obtain⟨o,hp,rfl⟩:=QQ H;have l:=Uf hp;have e:zS [jj f,jv o]=.ok (yz (QD f o)):=nA j (A o l).1 (A o l).2;have s:=n8 (r:=o) (late:=t-QK f) (F o l) G;have B:∀p q:D,qr [p,q] 0=some p:=λ_ _=>rfl;have a:qq f t o=true->Ka f g t n=.lst ((Qh o (t-QK f) n).map .int):=λz=>by unfold Ka;rw[DE hu hp z]
  generalize (Qh o (t-QK f) n).map D.int=ds at s a;have no:qq f t o=false->∀w∈g.take (i+1),qq f t w=false:=λz w h'=>by
   rw[QV hp] at h';rcases Jb.mp h' with y|y
   .exact hu w y
   .rw[Jc.mp y];exact z
  cases q:QD f o with
  |none =>
   rw[q] at e;have z:qq f t o=true:=by unfold qq;rw[q]
   exact .inr (.inr ⟨.lst ds,by simp[e,yz,b,s],by rw[a z];simp⟩)
  |some m =>
   rw[q] at e;by_cases c:t<=m.1
   .have z:qq f t o=true:=by unfold qq;rw[q];exact Zp c
    exact .inr (.inr ⟨.lst ds,by simp[e,yz,qc,B,c,b,s],by rw[a z];simp⟩)
   .have z:qq f t o=false:=by unfold qq;rw[q];exact Zo c
    exact .inl ⟨[~~~(jj f),~~~(jj g),~~~(.int t),~~~(.int n),~~~(jv o),~~~(qc m)],.inl (by simp[e,yz,qc,B,c]),⟨_,_,rfl⟩,no z⟩
def cJ {f g:Jz}{t L:Int}(h:Um f g=some L)(b:g ≠ [])(e:L<t):g.find? (qq f t)=none:=by
 unfold Um at h
 split at h
 .rename_i c;refine List.find?_eq_none.mpr λo a z=>?_;have i:=UU.mp c o a;unfold qq at z;cases q:QD f o with
  |none=>simp_all
  |some m =>
   have:=(Kq (l:=g.map λo=>((QD f o).getD (0,0)).1) (λz=>b (Jd.mp z))).2 _ (Ja.mpr ⟨o,a,rfl⟩)
   grind
 .cases h
def c7 {f g:Jz}{t:Int}(i:g ≠ [])(h:∀L,Um f g=some L->t<=L):∃o,g.find? (qq f t)=some o/\o∈g/\qq f t o=true:=by
 have j:∃o∈g,qq f t o=true:=by
  by_cases c:g.all (λo=>(QD f o).isSome)=true
  .have e:Um f g=some (qp (g.map λo=>((QD f o).getD (0,0)).1)):=Zd c;have n:=h _ e;obtain⟨o,b,a⟩:=Ja.mp (Kq (l:=g.map λo=>((QD f o).getD (0,0)).1) (λz=>i (Jd.mp z))).1;refine⟨o,b,?_⟩;unfold qq;cases q:QD f o with
   |none=>rfl
   |some m =>
    rw[q] at a;have a:m.1=_:=a;exact()
  grind[qq]
 obtain⟨o,b,p⟩:=j;cases q:g.find? (qq f t) with
 |none=>simp_all
 |some r=>exact()
def dG {f g:Jz}{o:Jy}{t:Int}{n:Nat}(i:f ≠ [])(j:∀r∈f,r ≠ []/\∀p∈r,0<=p.1/\p.1<(n:Int))(s:o ≠ [])(u:j4 o)(x:∀p∈o,0<=p.1/\p.1<(n:Int))(y:o∈g)(b:qq f t o=true):
 t<=JA f (Qh o (t-QK f) n)-JA g (Qh o (t-QK f) n):=by
 have A:=dR (late:=t-QK f) s u x;have B:=KY (hs:=Qh o (t-QK f) n) y;rw[A] at B;obtain⟨r,h,H⟩:=Wh (hs:=Qh o (t-QK f) n) i;obtain⟨C,e⟩:=j r h;have E:t<=Qt r (Qh o (t-QK f) n):=by
  cases q:jX r o with
  |none =>
   have F:∃p∈r,J5 o p.1=none:=by
    apply Classical.byContradiction;intro G;have:r.all (λp=>(J5 o p.1).isSome)=true:=UU.mpr λp hp=>by
     cases z:J5 o p.1 with
     |none=>exact Zn ⟨p,hp,z⟩ G
     |some w=>rfl
    unfold jX at q;rw[Zd this] at q;cases q
   obtain⟨p,hp,z⟩:=F;have a:=ZI (hs:=Qh o (t-QK f) n) hp;rw[DC (e p hp).1 (e p hp).2] at a;unfold W7 at a;rw[z] at a;have:=cj h hp
   grind
  |some v =>
   have I:t<=v:=by
    unfold qq at b;cases z:QD f o with
    |none =>
     have:=Ef z r (by rw[U5];exact h);rw[q] at this;cases this
    |some m =>
     rw[z] at b;have b:t<=m.1:=of_decide_eq_true b;have:=Eg z r () v q;lia
   unfold jX at q
   split at q
   .rename_i c;cases q;obtain⟨p,hp,ep⟩:=Ja.mp (Kq (l:=r.map λp=>p.2-(J5 o p.1).getD 0) (λz=>C (Jd.mp z))).1;have a:=ZI (hs:=Qh o (t-QK f) n) hp;rw[DC (e p hp).1 (e p hp).2] at a;unfold W7 at a;have hs:=UU.mp c p hp;cases z:J5 o p.1 with
    |none=>rw[z] at hs;exact Zn hs Zj
    |some w =>
     rw[z] at a ep;have ep:p.2-w=_:=ep;have a:(0-w)+p.2<=Qt r (Qh o (t-QK f) n):=a;lia
   .cases q
 lia
def wP:FS:=(jz (ql (J0 (J7 yS (J0 (jb 1) (J0 (jb 0) (J0 (dC (.int 1)) (J0 (jb 2) jc))))) (J0 (J7 yS (J0 (jb 0) (J0 (jb 1) (J0 (dC (.int 1)) (J0 (jb 2) jc))))) jc))))
def zT:YG->Res D:=jA 3 3 wP
structure FmC (n:Nat)(f:Jz):Prop where
 cn:Cn f
 len:f.length<=1000
 bd:∀r∈f,∀p∈r,0<=p.1/\p.1<(n:Int)
def nB {f g:Jz}{n:Nat}(b:n<=1000)(F:FmC n f)(G:FmC n g):zT [jj f,jj g,.int n]=.ok (.tup [Ka g f 1 n,Ka f g 1 n]):=by
 have ok:∀{f:Jz},FmC n f->(∀r∈f,r ≠ []/\r.length<=1000)/\(∀r∈f,r.length<=100/\j4 r):=λ{f} F=>⟨λr a=>⟨(F.cn.rows r a).ne,by have:=(F.cn.rows r a).len;lia⟩,λr a=>⟨by have:=(F.cn.rows r a).len;lia,(F.cn.rows r a).once⟩⟩;have c:yS [jj f,jj g,.int 1,.int n]=.ok (Ka f g 1 n):=gP F.cn.ne F.len (ok F).1 (ok G).2 G.bd b;have e:yS [jj g,jj f,.int 1,.int n]=.ok (Ka g f 1 n):=gP G.cn.ne G.len (ok G).1 (ok F).2 F.bd b
 simp_all [zT,wP]
def sx (n:Nat)(f g:Jz)(d:D):Prop:=(d=.non/\(∀o∈g,∃r∈f,JE r o=true)/\∀hs:Yh,JA f hs<=JA g hs)\/∃hs:Yh,d=.lst (hs.map .int)/\hs.length=n/\JA g hs<JA f hs
def LL {f g:Jz}{n:Nat}(F:FmC n f)(G:FmC n g):sx n f g (Ka f g 1 n):=by
 have i:(∀L,Um f g=some L->1<=L)->sx n f g (Ka f g 1 n):=λh=>by
  obtain⟨o,e,a,j⟩:=c7 G.cn.ne h;have lo:=dG F.cn.ne (λr b=>⟨(F.cn.rows r b).ne,F.bd r b⟩) (G.cn.rows o a).ne (G.cn.rows o a).once (G.bd o a) a j;exact .inr ⟨Qh o (1-QK f) n,by grind[Ka],IC _ _ _,()⟩
 cases q:Um f g with
 |none=>simp_all
 |some L =>
  by_cases c:L<1
  .refine .inl ⟨by unfold Ka;rw[cJ q G.cn.ne c],λo a=>?_,λhs=>?_⟩
   .have ⟨r,b,v,l,s⟩:=dX G.cn.ne q o a;refine⟨r,b,yH.mpr λp hp=>?_⟩;have ⟨w,m,t⟩:=LK l p hp;exact⟨w,m,()⟩
   .have:=cs (hs:=hs) q G.cn.ne λr b=>(F.cn.rows r b).ne;lia
  simp_all
def cb {f g:Jz}(F:Cn f)(G:Cn g)(i:∀o∈g,∃r∈f,JE r o=true)(e:∀o∈f,∃r∈g,JE r o=true):f=g:=by
 rw[<- F.thin,<- G.thin];refine Ea F.rows G.rows λq=>⟨λ⟨x,b,c⟩=>?_,λ⟨x,b,c⟩=>?_⟩
 .have ⟨r,h,a⟩:=e x b;exact⟨r,h,QY a c⟩
 grind[QY]
def BR:FS:=(jh (jr 5 (jn jL (J0 (ji jE (jb 4) (dC (.int 0))) jc))) (jh (jr 6 (J7 zT (J0 (jn QH (J0 (jb 2) jc)) (J0 (jn QH (J0 (jb 3) jc)) (J0 (jb 5) jc))))) (jh (qi (yP (QX (JB (jn xz (J0 (jb 6) (J0 (dC (.ty "tuple")) jc))))) (JB (ji yt (jn jL (J0 (jb 6) jc)) (dC (.int 2))))) (jz (dC (.bl false))) JJ) (jh (qi (JB (ji yt (V6 (jS (jI false) (ji jE (jb 6) (dC (.int 0)))) (jS (jI false) (ji jE (jb 6) (dC (.int 1))))) (ji qS (jb 2) (jb 3)))) (jz (dC (.bl false))) JJ) (jh (jQ (yM (J0 (dC (.int 2)) jc)) (.one 7) (jh (qi (QX (JB (J7 Xg (J0 (ji jE (jb 6) (jb 7)) (J0 (jb 5) jc))))) (jz (dC (.bl false))) JJ) (jh (qi (V5 (JB (jS (jI true) (ji jE (jb 6) (jb 7)))) (QX (JB (ji jE (J7 WC (J0 (jb 0) (J0 (jb 1) (J0 (ji jE (jb 6) (jb 7)) jc)))) (jb 7))))) (jz (dC (.bl false))) JJ) (qi (JB (jS (jI false) (ji jE (jb 6) (jb 7)))) (qi (JB (jn zD (J0 (Ql [none,some 0,some 1,some 7] (iS (jb 4)) (.one 0) (ji jE (J7 WC (J0 (jb 1) (J0 (jb 2) (J0 (jb 0) jc)))) (jb 3))) jc))) (jz (dC (.bl false))) JJ) JJ)))) (jz (dC (.bl true))))))))
def Ac:YG->Res D:=jA 8 5 BR
def jB:FS:=(jh (qi (QX (JB (J7 Xg (J0 (ji jE (jb 6) (jb 7)) (J0 (jb 5) jc))))) (jz (dC (.bl false))) JJ) (jh (qi (V5 (JB (jS (jI true) (ji jE (jb 6) (jb 7)))) (QX (JB (ji jE (J7 WC (J0 (jb 0) (J0 (jb 1) (J0 (ji jE (jb 6) (jb 7)) jc)))) (jb 7))))) (jz (dC (.bl false))) JJ) (qi (JB (jS (jI false) (ji jE (jb 6) (jb 7)))) (qi (JB (jn zD (J0 (Ql [none,some 0,some 1,some 7] (iS (jb 4)) (.one 0) (ji jE (J7 WC (J0 (jb 1) (J0 (jb 2) (J0 (jb 0) jc)))) (jb 3))) jc))) (jz (dC (.bl false))) JJ) JJ)))
section
variable {bk:D}{x:Str}{f g:Jz}{n:Nat}{tried:List Yh}
def xO (hs:Yh):D:=.lst (hs.map .int)
def LM {d0 h dS:D}{i:Nat}{l m:Option SV}(s:n<=1000)(lt:tried.length<=1000)(t:∀hs∈tried,hs.length=n)(u:qr [d0,h] (i:Int)=some dS)(p:Int->Int->Bool)
 (hp:∀a b:Int,qr [D.bl (decide (a<b)),.bl (decide (b<a))] (i:Int)=some (.bl (p a b)))
 (o:∀hs:Yh,hs.length=n->QC 4 [bk,.str "a1",.lst (hs.map .int)]=.ok (.int (JA f hs))) (q:∀hs:Yh,hs.length=n->QC 4 [bk,.str x,.lst (hs.map .int)]=.ok (.int (JA g hs)))
 (H:(dS=.non/\∀hs:Yh,p (JA f hs) (JA g hs)=false)\/∃hs:Yh,dS=.lst (hs.map .int)/\hs.length=n/\p (JA f hs) (JA g hs)=true):
 jB [~~~bk,~~~(.str x),l,m,~~~(.lst (tried.map xO)),~~~(.int n),~~~(.tup [d0,h]),~~~(.int i)]=.ok (.next [~~~bk,~~~(.str x),l,m,~~~(.lst (tried.map xO)),~~~(.int n),~~~(.tup [d0,h]),~~~(.int i)]):=by
 unfold jB;rcases H with ⟨rfl,r⟩|⟨hs,rfl,c,r⟩
 .have j:=pc (n:Int);have v:jT (.one 0) (ji jE (J7 WC (J0 (jb 1) (J0 (jb 2) (J0 (jb 0) jc)))) (jb 3)) [none,~~~bk,~~~(.str x),~~~(.int i)] (tried.map xO)=.ok ((tried.map λ_=>false).map .bl):=by
   rw[Zw];exact Ku λhs w=>by
    have c:=t hs w;have fs:=LJ (x:=x) (o hs c) (q hs c);have hp:=hp (JA f hs) (JA g hs);rw[r hs] at hp;have e:xO hs=.lst (hs.map .int):=rfl;rw[e];generalize hs.map D.int=u at *;simp[fs,hp]
  have y:=Ry (tried.map λ_=>false);have z:(tried.map xO).length<sizeLine:=by rw[Zql];exact JU lt
  simp_all
 .have j:=cW c s;have fs:=LJ (x:=x) (o hs c) (q hs c)
  simp_all
def gF {c:Yh}{h:List Yh}(m:n<=1000)(lt:h.length<=900)(o:∀hs∈c::h,hs.length=n)(F:FmC n f)(G:FmC n g)
 (v:∀hs:Yh,hs.length=n->QC 4 [bk,.str "a1",.lst (hs.map .int)]=.ok (.int (JA f hs))) (w:∀hs:Yh,hs.length=n->QC 4 [bk,.str x,.lst (hs.map .int)]=.ok (.int (JA g hs))):
 Ac [bk,.str x,jj f,jj g,.lst ((c::h).map xO)]=.ok (.bl true):=by
 have J:=nB m F G;have y:=LL F G;have A:=LL G F;have p:jL [xO c]=some (.int (n:Nat)):=by
  show some (D.int ((c.map D.int).length:Nat))=_;rw[Zql,o c Zqs]
 have K:qr ((c::h).map xO) 0=some (xO c):=WZ (l:=(c::h).map xO) (k:=0) ();generalize Ka g f 1 n=d0 at *;generalize Ka f g 1 n=d1 at *;have eq:(K7 d0&&K7 d1)=decide (f=g):=by
  rcases A with ⟨rfl,L,_⟩|⟨hs,rfl,_,M⟩
  .rcases y with ⟨rfl,N,_⟩|⟨hs,rfl,_,O⟩
   .rw[Zp (cb F.cn G.cn N L)];rfl
   .rw[Zo λz=>by rw[z] at O;lia];rfl
  .rw[Zo λz=>by rw[z] at M;lia];rfl
 have B:=tz f g;have step:∀i:Nat,i<2->jB [~~~bk,~~~(.str x),~~~(jj f),~~~(jj g),~~~(.lst ((c::h).map xO)),~~~(.int n),~~~(.tup [d0,d1]),~~~(.int i)]=.ok (.next [~~~bk,~~~(.str x),~~~(jj f),~~~(jj g),~~~(.lst ((c::h).map xO)),~~~(.int n),~~~(.tup [d0,d1]),~~~(.int i)]):=λi C=>by
  have:i=0\/i=1:=()
  rcases this with rfl|rfl
  .refine LM m (by rw[Zu];lia) o (dS:=d0) rfl (λa b=>decide (a<b)) (λa b=>rfl) v w ?_;rcases A with ⟨z,_,l⟩|⟨hs,z,q,l⟩
   .exact .inl ⟨z,λhs=>Zo (by have:=l hs;lia)⟩
   .exact .inr ⟨hs,z,q,Zp l⟩
  .refine LM m (by rw[Zu];lia) o (dS:=d1) rfl (λa b=>decide (b<a)) (λa b=>rfl) v w ?_;rcases y with ⟨z,_,l⟩|⟨hs,z,q,l⟩
   .exact .inl ⟨z,λhs=>Zo (by have:=l hs;lia)⟩
   .exact .inr ⟨hs,z,q,Zp l⟩
 obtain⟨sd',e,u7,r⟩:=dW (tg:=.one 7) (b:=jB) (ds:=Qc 0 2) (sd:=[~~~bk,~~~(.str x),~~~(jj f),~~~(jj g),~~~(.lst ((c::h).map xO)),~~~(.int n),~~~(.tup [d0,d1]),none])
  (λsd=>∃u7,sd=[~~~bk,~~~(.str x),~~~(jj f),~~~(jj g),~~~(.lst ((c::h).map xO)),~~~(.int n),~~~(.tup [d0,d1]),u7]) ⟨none,rfl⟩ (by
   rintro i z sd P ⟨u7,rfl⟩;obtain⟨rfl,C⟩:=Bc P;rw[Int.zero_add];exact⟨_,step i C,_,rfl⟩)
 subst r;have Q:KU [.int 2]=.ok (Qc 0 2):=by rw[W1 () ()];rfl
 have R:BR=(jh (jr 5 (jn jL (J0 (ji jE (jb 4) (dC (.int 0))) jc))) (jh (jr 6 (J7 zT (J0 (jn QH (J0 (jb 2) jc)) (J0 (jn QH (J0 (jb 3) jc)) (J0 (jb 5) jc))))) (jh (qi (yP (QX (JB (jn xz (J0 (jb 6) (J0 (dC (.ty "tuple")) jc))))) (JB (ji yt (jn jL (J0 (jb 6) jc)) (dC (.int 2))))) (jz (dC (.bl false))) JJ) (jh (qi (JB (ji yt (V6 (jS (jI false) (ji jE (jb 6) (dC (.int 0)))) (jS (jI false) (ji jE (jb 6) (dC (.int 1))))) (ji qS (jb 2) (jb 3)))) (jz (dC (.bl false))) JJ) (jh (jQ (yM (J0 (dC (.int 2)) jc)) (.one 7) jB) (jz (dC (.bl true)))))))):=rfl;have E:∀f:Jz,QH [jj f]=some (jj f):=λ_=>rfl;have s:=E f;have u:=E g;have X:xz [.tup [d0,d1],.ty "tuple"]=some (.bl true):=rfl;have H:jI false d0=some (.bl (K7 d0)):=by cases d0<;>rfl
 have S:jI false d1=some (.bl (K7 d1)):=by cases d1<;>rfl
 have I:qr [d0,d1] 0=some d0:=rfl;have T:qr [d0,d1] 1=some d1:=rfl;have j:yt (.bl (K7 d0&&K7 d1)) (.bl (decide (f=g)))=some (.bl false):=by rw[eq];cases decide (f=g)<;>rfl
 unfold Ac;rw[R];generalize jB=b at *;generalize (c::h).map xO=TD at *;generalize xO c=h00 at *;generalize decide (f=g)=z at *;generalize jj f=fd at *;generalize jj g=gd at *;generalize K7 d0=q0 at *;generalize K7 d1=q1 at *;have U:ji yt (V6 (jS (jI false) (ji jE (jb 6) (dC (.int 0)))) (jS (jI false) (ji jE (jb 6) (dC (.int 1))))) (ji qS (jb 2) (jb 3)) [~~~bk,~~~(.str x),~~~fd,~~~gd,~~~(.lst TD),~~~(.int n),~~~(.tup [d0,d1]),none]=.ok (.bl false):=by
  cases q0
  .rw[Bool.false_and] at j;simp[I,H,B,j]
  .rw[Bool.true_and] at j;simp[I,T,H,S,B,j]
 generalize (ji yt (V6 (jS (jI false) (ji jE (jb 6) (dC (.int 0)))) (jS (jI false) (ji jE (jb 6) (dC (.int 1))))) (ji qS (jb 2) (jb 3)))=t at *;simp[K,p,s,u,J,U,Q,e]
end
def Ad:FS:=(jh (jr 1 (J7 ZP (J0 (jb 0) jc))) (jh (jr 2 (jn jL (J0 (jS (qy "Plan" "givens") (ji jE (jS (qy "Book" "plans") (jb 1)) (dC (.int 0)))) jc))) (jh (jr 3 (J7 KJ (J0 (jb 1) (J0 (dC (.str "a1")) jc)))) (jh (jr 4 (J7 ZY (J0 (jb 0) (J0 (dC (.int 79)) (J0 (jb 2) jc))))) (jh (jQ (iS (jR (J0 (dC (.str "a2")) (J0 (dC (.str "a3")) jc)))) (.one 5) (jh (jr 6 (J7 KJ (J0 (jb 1) (J0 (jb 5) jc)))) (qi (V5 (JB (jS (jI true) (jb 3))) (JB (jS (jI true) (jb 6)))) (jh (qB 7 (jR (J0 (jb 4) (J0 (jn Z8 (J0 (jb 4) jc)) jc)))) (jh (jQ (iS (ji j3 (jb 3) (jb 6))) (.one 8) (Q9 7 (J7 ZQ (J0 (jb 8) (J0 (ji j3 (jb 3) (jb 6)) (J0 (jb 2) jc)))))) (qi (QX (JB (yj [7] (J7 Ac (J0 (jb 1) (J0 (jb 5) (J0 (jb 3) (J0 (jb 6) (J0 (jb 7) jc))))))))) (jz (dC (.bl false))) JJ))) JJ))) (jz (dC (.bl true))))))))
def vg:YG->Res D:=jA 9 1 Ad
def sB (ps:List Pl)(p:Pl)(n:Nat)(d:D):Prop:=d=.non\/∃f,d=jj f/\FmC n f/\f.length<=24/\∀hs:Yh,hs.length=n->QC 4 [JH ps,.str p.name,.lst (hs.map .int)]=.ok (.int (JA f hs))
def Eh {ps:List Pl}(B:BkP ps){j:Nat}{p:Pl}(a:ps[j]? = some p):∃d,KJ [JH ps,.str p.name]=.ok d/\sB ps p p.givens.length d:=by
 have b:=(B.at a).2.1;rcases dE B a with z|⟨t,z1,z2,z3⟩
 .exact⟨.non,pb z,.inl rfl⟩
 .have lt:=z2.len;refine⟨jj t,gG z1,.inr ⟨t,rfl,⟨z2.cn,(),λr c q f=>⟨((z2.cn.rows r c).bnd q f).1,(z2.th r c q f).1⟩⟩,lt,λhs h=>?_⟩⟩;have e:=LH B 4 j p hs a b h;obtain⟨ys,g⟩:=B.part a hs;rw[g] at e;have e:=LG e
  rwa [B.rc a b,<- z3 hs h] at e
def lF:FS:=(Q9 7 (J7 ZQ (J0 (jb 8) (J0 (ji j3 (jb 3) (jb 6)) (J0 (jb 2) jc)))))
def lB:FS:=(jh (jr 6 (J7 KJ (J0 (jb 1) (J0 (jb 5) jc)))) (qi (V5 (JB (jS (jI true) (jb 3))) (JB (jS (jI true) (jb 6)))) (jh (qB 7 (jR (J0 (jb 4) (J0 (jn Z8 (J0 (jb 4) jc)) jc)))) (jh (jQ (iS (ji j3 (jb 3) (jb 6))) (.one 8) lF) (qi (QX (JB (yj [7] (J7 Ac (J0 (jb 1) (J0 (jb 5) (J0 (jb 3) (J0 (jb 6) (J0 (jb 7) jc))))))))) (jz (dC (.bl false))) JJ))) JJ))
def LN {bk:D}{x:Str}{n:Nat}{hs:Yh}{h j:D}(S:n<=4)(q:hs.length=n)(s:KJ [bk,.str x]=.ok j)
 (t:h=.non\/∃f,h=jj f/\FmC n f/\f.length<=24/\∀hs:Yh,hs.length=n->QC 4 [bk,.str "a1",.lst (hs.map .int)]=.ok (.int (JA f hs)))
 (A:j=.non\/∃f,j=jj f/\FmC n f/\f.length<=24/\∀hs:Yh,hs.length=n->QC 4 [bk,.str x,.lst (hs.map .int)]=.ok (.int (JA f hs))) (c u6 u7 u8:Option SV):
 ∃B C l,lB [c,~~~bk,~~~(.int n),~~~h,~~~(.lst (hs.map .int)),~~~(.str x),u6,u7,u8]=.ok (.next [c,~~~bk,~~~(.int n),~~~h,~~~(.lst (hs.map .int)),~~~(.str x),B,C,l]):=by
 by_cases o:h=.non
 .subst o;refine⟨~~~j,u7,u8,?_⟩;generalize hs.map D.int=hd;unfold lB;simp[s,jI,K7]
 by_cases u:j=.non
 .subst u;refine⟨~~~(.non),u7,u8,?_⟩;obtain⟨f,rfl,_⟩:=t.resolve_left o;have v:jI true (jj f)=some (.bl true):=rfl;generalize jj f=fd at *;generalize hs.map D.int=hd;unfold lB;simp[s,v,jI,K7]
 obtain⟨f,rfl,F,T,E⟩:=t.resolve_left o;obtain⟨g,rfl,G,U,H⟩:=A.resolve_left u;have I:j3 (jj f) (jj g)=some (jj (f++g)):=by
  show(if(f.map jv).length+(g.map jv).length<=sizeLine then some (D.lst (f.map jv++g.map jv)) else none)=_;rw[Zql,Zql,Zd (Ke ()),<- Uc];rfl
 obtain⟨sd',e,a,l,L,lt,p⟩:=K8 (tg:=.one 8) (b:=lF) (ds:=(f++g).map jv) (sd:=[c,~~~bk,~~~(.int n),~~~(jj f),~~~(.lst (hs.map .int)),~~~(.str x),~~~(jj g),some (.own false (.lst ((hs::[hs.reverse]).map xO))),u8])
  (P:=λi sd=>∃(a:List Yh) (l:Option SV),sd=[c,~~~bk,~~~(.int n),~~~(jj f),~~~(.lst (hs.map .int)),~~~(.str x),~~~(jj g),some (.own false (.lst ((hs::a).map xO))),l]/\a.length=i+1/\∀k∈hs::a,k.length=n) ⟨[hs.reverse],u8,rfl,rfl,λk m=>by
   have:k=hs\/k=hs.reverse:=by simpa using m
   rcases this with rfl|rfl
   .exact q
   .rw[List.length_reverse];exact q⟩ (by
   rintro i y sd w ⟨a,l,rfl,lt,p⟩;have M:=(Je.mp w).1;rw[Zql,Ub] at M;obtain⟨r,N,rfl⟩:=QQ w;have J:JRow r:=by
    rcases Jb.mp (Uf N) with z|z
    .exact F.cn.rows r z
    .exact G.cn.rows r z
   obtain⟨ks,K,O⟩:=gK (rs:=f++g) (n:=(n:Int)) J.once (by have:=J.len;lia) () ();have Q:ks.length=n:=by rw[K.len,VE]
   have R:((hs::a).map xO).length<sizeLine:=by rw[Zql,Zu];exact JU ()
   refine⟨[c,~~~bk,~~~(.int n),~~~(jj f),~~~(.lst (hs.map .int)),~~~(.str x),~~~(jj g),some (.own false (.lst ((hs::(a++[ks])).map xO))),~~~(jv r)],?_,a++[ks],_,rfl,by rw[Ub,lt];rfl,λk m=>?_⟩
   .rw[<- List.cons_append,Uc,VQ];show _=Res.ok (Out.next [c,~~~bk,~~~(.int n),~~~(jj f),~~~(.lst (hs.map .int)),~~~(.str x),~~~(jj g),some (.own false (.lst ((hs::a).map xO++[.lst (ks.map .int)]))),~~~(jv r)]);generalize (hs::a).map xO=TD at *;generalize jv r=rd at *;generalize jj (f++g)=fg at *;generalize jj f=fd at *;generalize jj g=gd at *;generalize hs.map D.int=hd;generalize ks.map D.int=kd at *;unfold lF;simp[I,O,R]
   .rw[<- List.cons_append] at m;rcases Jb.mp m with z|z
    .exact p k z
    .rw[Jc.mp z];exact Q)
 rw[Zql,Ub] at lt;have X:=gF () () p F G E H;have v:jI true (jj f)=some (.bl true):=rfl;have Y:jI true (jj g)=some (.bl true):=rfl;have Z:Z8 [.lst (hs.map .int)]=some (.lst (hs.reverse.map .int)):=by
  show some (D.lst (hs.map D.int).reverse)=_;rw[List.map_reverse]
 have e:qM (.one 8) lF ((f++g).map jv) [c,~~~bk,~~~(.int n),~~~(jj f),~~~(.lst (hs.map .int)),~~~(.str x),~~~(jj g),some (.own false (.lst [.lst (hs.map .int),.lst (hs.reverse.map .int)])),u8]=_:=e
 simp_all [lB,Res.bare]
def zA (ns:Yh)(h:ns.length<=63):vg [.scr ns]=.ok (.bl true):=by
 obtain⟨ps,g,G,T⟩:=gH h;have B:=T.bk;have g1:=T.g1;have r:=T.g4;have ln:=T.len;have e:∀i,i<3->∃p,ps[i]? = some p/\p.name = "a" ++ xW (i+1)/\p.givens.length=g:=λi hi=>⟨ps[i],(),T.nm i _ ()⟩;obtain⟨f,t,a,u⟩:=e 0 ();obtain⟨H,I,b,J⟩:=e 1 ();obtain⟨K,L,c,M⟩:=e 2 ();have a:f.name = "a1" := a.trans rfl;have b:H.name = "a2" := b.trans rfl;have c:K.name = "a3" := c.trans rfl;obtain⟨j,v,m⟩:=Eh B t;obtain⟨d2,w,o⟩:=Eh B I;obtain⟨d3,x,q⟩:=Eh B L;unfold sB at m o q;rw[a] at v;rw[b] at w;rw[c] at x;rw[u,a] at m;rw[J,b] at o;rw[M,c] at q;have y:=gL ns (s:=79) (n:=(g:Int)) () () () ();obtain⟨hs,ehs⟩:∃hs,hs=ZH ns 79 (g:Int).toNat:=⟨_,rfl⟩;have z:hs.length=g:=by rw[ehs,VE];unfold ZH;rw[Zql,ZB]
 rw[<- ehs] at y;have N:qy "Book" "plans" (JH ps)=some (.lst (ps.map JW)):=rfl;have O:qr (ps.map JW) 0=some (JW f):=by
  have:=WZ (l:=ps.map JW) (k:=0) (by rw[Zql];lia);rw[Zv,t] at this;exact this
 have P:qy "Plan" "givens" (JW f)=some (.lst (f.givens.map .str)):=rfl;have Q:jL [.lst (f.givens.map D.str)]=some (.int (g:Nat)):=by rw[Ba,Zql,u]
 have A:Ad [~~~(.scr ns),none,none,none,none,none,none,none,none]=.ok (.ret (.bl true)):=by
  have R:Ad=(jh (jr 1 (J7 ZP (J0 (jb 0) jc))) (jh (jr 2 (jn jL (J0 (jS (qy "Plan" "givens") (ji jE (jS (qy "Book" "plans") (jb 1)) (dC (.int 0)))) jc))) (jh (jr 3 (J7 KJ (J0 (jb 1) (J0 (dC (.str "a1")) jc)))) (jh (jr 4 (J7 ZY (J0 (jb 0) (J0 (dC (.int 79)) (J0 (jb 2) jc))))) (jh (jQ (iS (jR (J0 (dC (.str "a2")) (J0 (dC (.str "a3")) jc)))) (.one 5) lB) (jz (dC (.bl true)))))))):=rfl;rw[R];refine xN (sd':=[~~~(.scr ns),~~~(JH ps),none,none,none,none,none,none,none]) (by
   generalize JH ps=bk at *;simp[G]) ?_
  refine xN (sd':=[~~~(.scr ns),~~~(JH ps),~~~(.int g),none,none,none,none,none,none]) (by
   generalize JH ps=bk at *;generalize ps.map JW=pd at *;generalize JW f=pl at *;generalize f.givens.map D.str=gd at *;simp[N,O,P,Q]) ?_
  refine xN (sd':=[~~~(.scr ns),~~~(JH ps),~~~(.int g),~~~j,none,none,none,none,none]) (by
   simp[v]) ?_
  refine xN (sd':=[~~~(.scr ns),~~~(JH ps),~~~(.int g),~~~j,~~~(.lst (hs.map .int)),none,none,none,none]) (by
   simp[y]) ?_
  obtain⟨S,U,X,Y⟩:=LN r z w m o (~~~(.scr ns)) none none none;have ⟨C,E,F,Z⟩:=LN r z x m q (~~~(.scr ns)) S U X;have lp:qM (.one 5) lB [.str "a2",.str "a3"] [~~~(.scr ns),~~~(JH ps),~~~(.int g),~~~j,~~~(.lst (hs.map .int)),none,none,none,none]=.ok (.next [~~~(.scr ns),~~~(JH ps),~~~(.int g),~~~j,~~~(.lst (hs.map .int)),some (.val (.str "a3")),C,E,F]):=by
   simp[qM,xV,Y,Z]
  refine xN (sd':=[~~~(.scr ns),~~~(JH ps),~~~(.int g),~~~j,~~~(.lst (hs.map .int)),some (.val (.str "a3")),C,E,F]) (by
   simp[lp]) ?_
  simp
 simp_all [vg]
end My
set_option maxHeartbeats 4000000
namespace My
open PySem L2 L2.DL
def we (i:Nat):Stmt:=PySem.Challenge.pw_allfirst_k65_whole_two_plans_judged.main.body.getD i (.Pass ⟨0,0,0,0⟩)
abbrev tbl:List (Str×Nat):=List.zip (List.map Str.ofString ["_law_cell_at", "_law_mixed", "_law_near_wait", "_law_made_rows", "_law_turns", "_law_pool", "_law_book", "_law_far", "fits_in", "is_covered", "joined", "each_joined", "lowest", "form_within", "all_of", "first_of", "shifted", "waited", "put_into_row", "put_into", "made_form", "plan_by", "thing_form", "forms_knowing", "forms_of", "told_form", "_law_form", "_law_wait", "_law_hours", "_law_whole", "_law_hours_told", "told_hour", "made_hour", "hours_of", "_law_sides", "hours_done_at_nought", "least_wait", "lag_of_row", "nearest_row", "later_by", "compared", "_law_judged"]) [41,42,45,49,43,48,50,47,16,20,17,28,19,29,25,24,18,23,27,26,34,14,22,33,31,32,51,44,46,40,52,37,38,36,53,5,6,4,3,1,2,54]
abbrev bl:Yk:=List.map Str.ofString ["all", "any", "bool", "dict", "enumerate", "int", "isinstance", "len", "list", "max", "min", "range", "reversed", "set", "sorted", "str", "sum", "tuple"]
structure All (e:Ev):Prop extends Al e we tbl bl where
 x_TooMany:Exc e.K e.mg "TooMany" (e.C 0)
 k_Book:ClsD e.K e.mg "Book" (e.C 1) ["plans"]
 l_Book:∃f fd,Mk e.K (e.C 1) f/\Fun e.K "__init__" "Book.__init__" (Am (we 13) 0) f fd
 k_Plan:ClsD e.K e.mg "Plan" (e.C 2) ["name", "givens", "rows"]
 l_Plan:∃f fd,Mk e.K (e.C 2) f/\Fun e.K "__init__" "Plan.__init__" (Am (we 12) 0) f fd
section
variable {e:Ev}{k j:Nat}
def t5 (a:All e):rg e.P e.w e.K e.mg e.base "Book" ["plans"] 1 ["self", "plans"] DT:=by
 obtain⟨f,h,c,b⟩:=a.l_Book;have m:=a.m;have k:=a.k_Book;exact⟨_,_,_,k,c,gz (k:=0) (N:=["plans"]) (g:=(J0 (jn QH (J0 (jb 1) jc)) jc)) b (JM (N:=["self", "plans"])) (by decide) (by decide) λ_ _ _ _ _ _ i=>(Bo k (by decide) (pv 0) (jm (K5 (x:= "list") Wx rfl (JC m) KO (J1 (qv 1) J2))) Ic),b.binds λ_ _ _ _ _ _=>bW λ_ _=>rfl⟩
def t9 (a:All e):rg e.P e.w e.K e.mg e.base "Plan" ["name", "givens", "rows"] 1 ["self", "name", "givens", "rows"] ZK:=by
 obtain⟨f,h,c,b⟩:=a.l_Plan;have m:=a.m;have k:=a.k_Plan;exact⟨_,_,_,k,c,gz (k:=0) (N:=["name", "givens", "rows"]) (g:=(J0 (jb 1) (J0 (jn QH (J0 (jb 2) jc)) (J0 (jn QH (J0 (jb 3) jc)) jc)))) b (JM (N:=["self", "name", "givens", "rows"])) (by decide) (by decide) λ_ _ _ _ _ _ i=>(Bo k (by decide) (pv 0) (qv 1) (Bo k (by decide) (pv 0) (jm (K5 (x:= "list") Wx rfl (JC m) KO (J1 (qv 2) J2))) (Bo k (by decide) (pv 0) (jm (K5 (x:= "list") Wx rfl (JC m) KO (J1 (qv 3) J2))) Ic))),b.binds λ_ _ _ _ _ _=>bV λ_ _ _ _=>rfl⟩
def LO (a:All e):Ca e "_law_cell_at" 1 ["script", "k"] (qN e.K W8):=
 qR a.toAl 0 41 λF=>qk (N:=["script", "k"]) (g:=ZL) F JM λ_ _ _ _ _ _ b=>by
 have m:=a.m;unfold ZL;exact(J9 (Qb (Qv vq (qv 1) (JZ (x:= "len") Kj rfl (JC m) Kf (J1 (qv 0) J2)) (Qi _)) (J8 (JL (Qe (JP b) (qv 0) (qv 1) (λ_ _=>rfl) (λ_ _=>rfl)))) Qa) (J8 (JL J6)))
def BS (a:All e):Ca e "_law_mixed" 1 ["cell", "salt"] (qN e.K K0):=
 qR a.toAl 1 42 λF=>qk (N:=["cell", "salt", "mixed"]) (g:=B4) F JM λ_ _ _ _ _ _ b=>by
 unfold B4;exact(J9 (JN j0 rfl (.inl rfl) (jo Qo (jo Xy (jo Qg (jo Qo (qv 0) J6) (qv 1)) J6) J6)) (J8 (JL (jo Qo (jo Xy (qv 2) (qv 2)) J6))))
def LQ (a:All e):Ca e "_law_near_wait" 2 ["cell", "salt"] (qN e.K Wj):=
 qR a.toAl 2 45 λF=>qk (N:=["cell", "salt", "mixed", "size"]) (g:=XL) F JM λ_ _ _ _ _ _ c=>by
 have b:=(BS a).mono (k:=1) ();unfold XL;exact(J9 (JN j0 rfl (.inl rfl) (jH b c rfl (J1 (qv 0) (J1 (qv 1) J2)))) (J9 (Qb (Qv z9 (jo Qo (qv 2) J6) J6 (Qi _)) (J8 (JL (jo Xx (jo Qo (jo QP (qv 2) J6) J6) J6))) Qa) (J9 (JN j0 rfl (.inl rfl) (jo Qo (jo Xy (jo QP (qv 0) J6) (jo Qg (qv 1) J6)) (jo Ge J6 J6))) (J9 (Qb (Qv (xj c.units) (jo Qo (jo QP (qv 2) J6) J6) J6 (Qi _)) (J8 (JL (qv 3))) Qa) (J8 (JL (yf Wa (qv 3))))))))
def sO (a:All e):Ca e "_law_made_rows" 3 ["pool", "at", "given", "parts"] (yD e.K Xd):=
 qR a.toAl 3 49 λF=>xI (N:=["pool", "at", "given", "parts", "rows", "k", "spot", "cell", "mixed", "how", "count", "items", "j", "thing"]) (g:=B5) F JM λ_ _ _ _ _ _ c=>by
 have m:=a.m;have b:=(BS a).mono (k:=2) ();have f:=(LQ a).mono (k:=2) ();unfold B5
 exact(J9 (Kg j0 rfl (.inl rfl) (Q8 J2)) (J9 (Qy PassesOwn.never rfl (KR rfl (JC m) (J1 (jo Qg J6 (jo Qo (jH b c rfl (J1 (Qe (JP c) (qv 0) (jo Qo (qv 1) (JZ (x:= "len") Kj rfl (JC m) Kf (J1 (qv 0) J2))) (λ_ _=>rfl) (λ_ _=>rfl)) (J1 (jo Qg J6 (qv 1)) J2))) J6)) J2)) (Qf (JR j0 rfl (.inl rfl))) (J9 (JN j0 rfl (.inl rfl) (jo Qo (jo Qg (jo Qg (qv 1) (jo Xy J6 (qv 5))) J6) (JZ (x:= "len") Kj rfl (JC m) Kf (J1 (qv 0) J2)))) (J9 (JN j0 rfl (.inl rfl) (jo Qg (jo Qg (jo QP (Qe (JP c) (qv 0) (qv 6) (λ_ _=>rfl) (λ_ _=>rfl)) (jo Qg (qv 5) J6)) (jo Xy J6 (qv 5))) (qv 1))) (J9 (JN j0 rfl (.inl rfl) (jH b c rfl (J1 (qv 7) (J1 J6 J2)))) (J9 (JN j0 rfl (.inl rfl) (Qe (JP c) (jm (Q8 (J1 Qx (J1 Qx J2)))) (jo Qo (qv 8) J6) (λ_ _=>rfl) (λ_ _=>rfl))) (J9 (JN j0 rfl (.inl rfl) (jo Qg J6 (jo Qo (jo QP (qv 8) J6) J6))) (J9 (Qb (xA (AE (Qv (vp c.units) (qv 3) (jm (Q8 J2)) (Qi _)) (AC (Qv (xj c.units) (jo Qo (jo QP (qv 8) J6) J6) J6 (Qi _))))) (J9 (JN j0 rfl (.inl rfl) (Qe (JP c) (qv 3) (jo Qo (jo QP (qv 8) J6) (JZ (x:= "len") Kj rfl (JC m) Kf (J1 (qv 3) J2))) (λ_ _=>rfl) (λ_ _=>rfl))) (J8 (JN j0 rfl (.inl rfl) (qv 2)))) Qa) (J9 (Kg j0 rfl (.inl rfl) (Q8 J2)) (J9 (Qy PassesOwn.never rfl (KR rfl (JC m) (J1 (qv 10) J2)) (Qf (JR j0 rfl (.inl rfl))) (J9 (JN j0 rfl (.inl rfl) (jo Qo (jH b c rfl (J1 (qv 7) (J1 (jo Qg J6 (qv 12)) J2))) (jo Qg (qv 2) (qv 5)))) (J8 (V8 (pv 11) (Ks (J1 (qv 13) (J1 (jH f c rfl (J1 (jo QP (qv 7) (jo Qg (qv 12) J6)) (J1 (jo Qg J6 (qv 12)) J2))) J2))) (λh i=>KE Yy Yz YA KM h i))))) (J8 (Xu [11] (V8 (pv 4) (Ks (J1 (jo Qg Qx (Xt (x:= "str") HZ rfl (JC m) EX (J1 (qv 5) J2))) (J1 (qv 9) (J1 (Xt (x:= "tuple") AU rfl (JC m) Y5 (J1 (qv 11) J2)) J2)))) (λh i=>KE Yy Yz YA KM h i))))))))))))) (J8 (Xv (pv 4)))))
def tu (a:All e):Ca e "_law_turns" 1 ["script", "start", "most"] (yD e.K B7):=
 qR a.toAl 4 43 λF=>xI (N:=["script", "start", "most", "many"]) (g:=B6) F JM λ_ _ _ _ _ _ b=>by
 have m:=a.m;unfold B6;exact(J9 (JN j0 rfl (.inl rfl) (JZ (x:= "min") (Py rfl) rfl (JC m) Ap (J1 (qv 2) (J1 (JZ (x:= "max") (CU rfl) rfl (JC m) Y4 (J1 J6 (J1 (jo Xx (JZ (x:= "len") Kj rfl (JC m) Kf (J1 (qv 0) J2)) (qv 1)) J2))) J2)))) (J8 (Wu (Ki ["k", "script", "start", "most"] [none,some 0,some 1,some 2] rfl rfl (KR rfl (JC m) (J1 (qv 3) J2)) (λ_ _ _ _ _=>(Qf (xu 0 j0))) (λ_ _ _ _ _=>(JZ (x:= "sum") (fD rfl) rfl (JC m) Oo (J1 (jm (Dh (qv 1) (Bd (jo Qg (qv 2) (qv 0))) YY (Bd (qv 3)))) J2)))))))
def tf (a:All e):Ca e "_law_pool" 2 ["script", "start"] (qN e.K ZN):=
 qR a.toAl 5 48 λF=>qk (N:=["script", "start", "pool"]) (g:=ZM) F JM λ_ _ _ _ _ _ c=>by
 have m:=a.m;have b:=(tu a).mono (k:=1) ();unfold ZM;exact(J9 (JN j0 rfl (.inl rfl) (jm (V7 b c rfl (J1 (qv 0) (J1 (qv 1) (J1 J6 J2)))))) (J9 (Qb (Qv (xj c.units) (qv 2) (jm (Q8 J2)) (Qi _)) (J8 (JL (jm (Q8 (J1 (JZ (x:= "len") Kj rfl (JC m) Kf (J1 (qv 0) J2)) J2))))) Qa) (J8 (JL (qv 2)))))
def sZ (a:All e):Ca e "_law_book" 4 ["script"] (yD e.K ZP):=
 qR a.toAl 6 50 λF=>xI (N:=["script", "first", "pool", "given", "names", "waits", "items", "last", "more", "plans"]) (g:=ZO) F JM λ_ _ _ _ _ _ c=>by
 have m:=a.m;have i:=(LO a).mono (k:=3) ();have f:=(sO a).mono (k:=3) ();have l:=(BS a).mono (k:=3) ();have n:=(LQ a).mono (k:=3) ();have o:=(tf a).mono (k:=3) ();have h:=t5 a;have b:=t9 a;unfold ZO
 exact(J9 (JN j0 rfl (.inl rfl) (jH i c rfl (J1 (qv 0) (J1 J6 J2)))) (J9 (JN j0 rfl (.inr rfl) (jH o c rfl (J1 (qv 0) (J1 J6 J2)))) (J9 (JN j0 rfl (.inl rfl) (jo Qg J6 (jo Qo (qv 1) J6))) (J9 (G4 ["k"] [none] j0 rfl (.inl rfl) rfl rfl (KR rfl (JC m) (J1 (qv 3) J2)) (λ_ _ _ _ _=>(Qf (xu 0 j0))) (λ_ _ _ _ _=>(jo Qg Qx (Xt (x:= "str") HZ rfl (JC m) EX (J1 (qv 0) J2))))) (J9 (JN j0 rfl (.inr rfl) (jm (Ki ["k", "pool"] [none,some 2] rfl rfl (KR rfl (JC m) (J1 (qv 3) J2)) (λ_ _ _ _ _=>(Qf (xu 0 j0))) (λ_ _ _ _ _=>(jo Qo (jH l c rfl (J1 (Qe (JP c) (qv 1) (jo Qo (qv 0) (JZ (x:= "len") Kj rfl (JC m) Kf (J1 (qv 1) J2))) (λ_ _=>rfl) (λ_ _=>rfl)) (J1 (jo Qg J6 (qv 0)) J2))) J6))))) (J9 (G4 ["k", "waits"] [none,some 5] j0 rfl (.inl rfl) rfl rfl (KR rfl (JC m) (J1 (qv 3) J2)) (λ_ _ _ _ _=>(Qf (xu 0 j0))) (λ_ _ _ _ _=>(Ks (J1 (qv 0) (J1 (Qe (JP c) (jm (Q8 (J1 J6 (J1 J6 (J1 J6 (J1 J6 (J1 (yf Wa J6) J2))))))) (Qe (JP c) (qv 1) (qv 0) (λ_ _=>rfl) (λ_ _=>rfl)) (λ_ _=>rfl) (λ_ _=>rfl)) J2))))) (J9 (Kg j0 rfl (.inl rfl) (Q8 (J1 (Ks (J1 Qx (J1 Qx (J1 (Xt (x:= "tuple") AU rfl (JC m) Y5 (J1 (qv 6) J2)) J2)))) J2))) (J9 (Qb (Qv (xj c.units) (jo Qo (jo QP (qv 1) J6) J6) J6 (Qi _)) (J9 (JN j0 rfl (.inl rfl) (Ks (J1 (Ks (J1 (qv 3) (J1 J6 J2))) (J1 (Ks (J1 (jo Qo (jo QP (qv 1) J6) (qv 3)) (J1 (jH n c rfl (J1 (jo QP (qv 1) J6) (J1 J6 J2))) J2))) J2)))) (J8 (V8 (pv 7) (Ks (J1 Qx (J1 (Qe (JP c) (jm (Q8 (J1 Qx (J1 Qx J2)))) (jo Qo (jo QP (qv 1) J6) J6) (λ_ _=>rfl) (λ_ _=>rfl)) (J1 (qv 8) J2)))) (λp q=>KE Yy Yz YA KM p q)))) Qa) (J9 (Kg j0 rfl (.inl rfl) (Q8 (J1 (jm (Bp b (c.mono ()) rfl (J1 Qx (J1 (qv 4) (J1 (jm (V7 f c rfl (J1 (qv 2) (J1 J6 (J1 (qv 3) (J1 (jm (Q8 J2)) J2)))))) J2))))) J2))) (J9 (V8 (pv 9) (jm (Bp b (c.mono ()) rfl (J1 Qx (J1 (qv 4) (J1 (jm (V7 f c rfl (J1 (qv 2) (J1 J6 (J1 (qv 3) (J1 (jm (Q8 (J1 Qx J2))) J2)))))) J2))))) (λp q=>KE Yy Yz YA KM p q)) (J9 (Xu [7] (V8 (pv 9) (jm (Bp b (c.mono ()) rfl (J1 Qx (J1 (qv 4) (J1 (qv 7) J2))))) (λp q=>KE Yy Yz YA KM p q))) (J8 (Xu [9] (Wu (Bp h (c.mono ()) rfl (J1 (qv 9) J2))))))))))))))))
def sM (a:All e):Ca e "_law_far" 1 ["row", "rows", "things"] (yD e.K ZQ):=
 qR a.toAl 7 47 λF=>xI (N:=["row", "rows", "things", "hours", "waits", "thing", "late", "other", "also", "wait"]) (g:=B8) F JM λ_ _ _ _ _ _ b=>by
 have m:=a.m;unfold B8;exact(J9 (Kg j0 rfl (.inl rfl) (Q8 J2)) (J9 (JN j0 rfl (.inl rfl) (jm (K5 (x:= "dict") (AV rfl) rfl (JC m) Ar (J1 (qv 0) J2)))) (J9 (Qy PassesOwn.never rfl (KR rfl (JC m) (J1 (qv 2) J2)) (Qf (JR j0 rfl (.inl rfl))) (J9 (JN j0 rfl (.inl rfl) J6) (J9 (Qy PassesOwn.never rfl (JT (qv 1)) (Qf (JR j0 rfl (.inl rfl))) (J8 (Qy PassesOwn.never rfl (JT (qv 7)) (Kk [8,9] (Kd rfl (JX (JR j0 rfl (.inl rfl)) (JX (JR j0 rfl (.inl rfl)) Kc)))) (J8 (Qb (Qv (xj b.units) (qv 8) (qv 5) (Qi _)) (J8 (JN j0 rfl (.inl rfl) (JZ (x:= "max") (CU rfl) rfl (JC m) Y4 (J1 (qv 6) (J1 (jo Xx J6 (qv 9)) J2))))) Qa))))) (J8 (V8 (pv 3) (yf Wa (Gu (JP b) (qv 4) (qv 5) (yf Wa (qv 6)) ⟨rfl,rfl,rfl,rfl⟩)) (λc f=>KE Yy Yz YA KM c f)))))) (J8 (Xv (pv 3))))))
def kb (a:All e):Ca e "fits_in" 1 ["row", "waits"] (qN e.K v4):=
 qR a.toAl 8 16 λF=>qk (N:=["row", "waits", "thing", "wait"]) (g:=v1) F JM λ_ _ _ _ _ _ b=>by
 unfold v1;exact(J9 (Qy PassesOwn.never rfl (JT (qv 0)) (Kk [2,3] (Kd rfl (JX (JR j0 rfl (.inl rfl)) (JX (JR j0 rfl (.inl rfl)) Kc)))) (J8 (Qb (xA (AF (CS b.units (qv 2) (qv 1)) (AD (Qv z9 (qv 3) (Qe (JP b) (qv 1) (qv 2) (λ_ _=>rfl) (λ_ _=>rfl)) (Qi _))))) (J8 (JL Kr)) Qa))) (J8 (JL Kr)))
def LR (a:All e):Ca e "is_covered" 2 ["row", "kept"] (qN e.K Ko):=
 qR a.toAl 9 20 λF=>qk (N:=["row", "kept", "waits", "other"]) (g:=B9) F JM λ_ _ _ _ _ _ c=>by
 have m:=a.m;have b:=(kb a).mono (k:=1) ();unfold B9;exact(J9 (JN j0 rfl (.inl rfl) (jm (K5 (x:= "dict") (AV rfl) rfl (JC m) Ar (J1 (qv 0) J2)))) (J9 (Qy PassesOwn.never rfl (JT (qv 1)) (Qf (JR j0 rfl (.inl rfl))) (J8 (Qb (KF (jH b c rfl (J1 (qv 3) (J1 (qv 2) J2)))) (J8 (JL Kr)) Qa))) (J8 (JL Kr))))
def ka (a:All e):Ca e "joined" 1 ["row", "other"] (qN e.K zh):=
 qR a.toAl 10 17 λF=>qk (N:=["row", "other", "waits", "thing", "wait"]) (g:=wJ) F JM λ_ _ _ _ _ _ b=>by
 have m:=a.m;unfold wJ;exact(J9 (Kg j0 rfl (.inl rfl) (K5 (x:= "dict") (AV rfl) rfl (JC m) Ar (J1 (qv 0) J2))) (J9 (Qy PassesOwn.never rfl (JT (qv 1)) (Kk [3,4] (Kd rfl (JX (JR j0 rfl (.inl rfl)) (JX (JR j0 rfl (.inl rfl)) Kc)))) (J8 (PF (JP b) (pv 2) (qv 3) (JZ (x:= "max") (CU rfl) rfl (JC m) Y4 (J1 (qv 4) (J1 (YR [2] (Gu (JP b) (qv 2) (qv 3) (qv 4) ⟨rfl,rfl,rfl,rfl⟩)) J2)))))) (J8 (Xu [2] (JL (Xt (x:= "tuple") AU rfl (JC m) Y5 (J1 (PR (λh=>Aj (OS rfl) rfl (JC m) Cw (V0 (NB PySem.F.plainAttrs_dict PySem.F.slot_dict_items PySem.F.type_dict_items OR h) Wp)) (qv 2)) J2)))))))
def tR (a:All e):Ca e "each_joined" 3 ["form", "other"] (yD e.K ZR):=
 qR a.toAl 11 28 λF=>xI (N:=["form", "other", "rows", "rest", "row"]) (g:=BA) F JM λ_ _ _ _ _ _ c=>by
 have m:=a.m;have b:=(LR a).mono (k:=2) ();have f:=(ka a).mono (k:=2) ();unfold BA;exact(J9 (Kg j0 rfl (.inl rfl) (FY TV (jm (Gy ["row", "other"] [none,some 1] rfl rfl (JT (qv 0)) (λ_ _ _ _ _=>(Qf (xu 0 j0))) (λ_ _ _ _ _=>(KF (jH b c rfl (J1 (qv 0) (J1 (qv 1) J2))))) (λ_ _ _ _ _=>(qv 0)))) (jm (Gy ["row", "form"] [none,some 0] rfl rfl (JT (qv 1)) (λ_ _ _ _ _=>(Qf (xu 0 j0))) (λ_ _ _ _ _=>(KF (jH b c rfl (J1 (qv 0) (J1 (qv 1) J2))))) (λ_ _ _ _ _=>(qv 0)))))) (J9 (PZ ["row", "form"] [none,some 0] j0 rfl (.inl rfl) rfl rfl (JT (qv 1)) (λ_ _ _ _ _=>(Qf (xu 0 j0))) (λ_ _ _ _ _=>(WO (KF (jH b c rfl (J1 (qv 0) (J1 (qv 1) J2)))))) (λ_ _ _ _ _=>(qv 0))) (J9 (Qy PassesOwn.never rfl (JT (qv 0)) (Qf (JR j0 rfl (.inr rfl))) (J8 (Qb (WO (KF (jH b c rfl (J1 (qv 4) (J1 (qv 1) J2))))) (J8 (Pg (pv 2) (Ki ["other_row", "row"] [none,some 4] rfl rfl (JT (qv 3)) (λ_ _ _ _ _=>(Qf (xu 0 j0))) (λ_ _ _ _ _=>(jH f c rfl (J1 (qv 1) (J1 (qv 0) J2))))) (λh i=>KE Yy PySem.F.slot_list_extend PySem.F.type_list_extend NC h i))) Qa))) (J8 (Xv (pv 2))))))
def tQ (a:All e):Ca e "lowest" 3 ["rows", "enough"] (yD e.K BE):=
 qR a.toAl 12 19 λF=>xI (N:=["rows", "enough", "kept", "row"]) (g:=BD) F JM λ_ _ _ _ _ _ c=>by
 have m:=a.m;have b:=(LR a).mono (k:=2) ();unfold BD;exact(J9 (Kg j0 rfl (.inl rfl) (Q8 J2)) (J9 (Qy PassesOwn.never rfl (JT (jm (Tq (λh=>L2.ST.pe_sortLen rfl (JC m) rfl (JC m) h) (J1 (jm (Td (λh=>Aj (L2.ST.call_sortedSet rfl c.units) rfl (JC m) Cw (V0 (XV (L2.ST.call_setRows rfl c.units) rfl (JC m) L2.bt_set h) Wp)) (J1 (qv 0) J2))) J2)))) (Qf (JR j0 rfl (.inl rfl))) (J9 (Qb (Qv (xj c.units) (YR [2] (JZ (x:= "len") Kj rfl (JC m) Kf (J1 (qv 2) J2))) (qv 1) (Qi _)) (J8 Pf) Qa) (J8 (Qb (WO (KF (YR [2] (jH b c rfl (J1 (qv 3) (J1 (qv 2) J2)))))) (J8 (V8 (pv 2) (qv 3) (λf i=>KE Yy Yz YA KM f i))) Qa)))) (J8 (Xv (pv 2)))))
def LS (a:All e):yT e "form_within" 4 ["rows", "most"] (ya e.K QB):=
 xT a.toAl 13 29 λF=>Dz (N:=["rows", "most", "kept"]) (g:=ZS) F JM λ_ _ _ _ _ _ f=>by
 have m:=a.m;have c:=(tQ a).mono (k:=3) ();have b:=a.x_TooMany;unfold ZS;exact(J9 (JN j0 rfl (.inl rfl) (jm (ZE c f rfl (J1 (qv 0) (J1 (jo Qg (qv 1) J6) J2))))) (J9 (Qb (Qv z9 (JZ (x:= "len") Kj rfl (JC m) Kf (J1 (qv 2) J2)) (qv 1) (Qi _)) (J8 (TC T4 b rfl rfl (uG (by decide) (qv 1)))) Qa) (J8 (Wu (Pe (x:= "sorted") (Rp f.units) rfl (JC m) Cw (J1 (qv 2) J2))))))
def LU (a:All e):yT e "all_of" 5 ["forms", "most"] (x6 e.K KI):=
 xT a.toAl 14 25 λF=>Bm (N:=["forms", "most", "told", "form"]) (g:=ZT) F JM λ_ _ _ _ _ _ f=>by
 have c:=(tR a).mono (k:=4) ();have b:=(LS a).mono (k:=4) ();unfold ZT;exact(J9 (JN j0 rfl (.inl rfl) (jm (XF b Kx f rfl (J1 (Qe (JP f) (qv 0) J6 (λ_ _=>rfl) (λ_ _=>rfl)) (J1 (qv 1) J2))))) (J9 (Qy D1 rfl (JT (jm (Dh (qv 0) (Bd J6) YY YY))) (Qf (JR j0 rfl (.inl rfl))) (J8 (JN j0 rfl (.inl rfl) (jm (XF b Kx f rfl (J1 (jm (ZE c f rfl (J1 (qv 2) (J1 (qv 3) J2)))) (J1 (qv 1) J2))))))) (J8 (JL (qv 2)))))
def LV (a:All e):yT e "first_of" 5 ["forms", "most"] (ya e.K Uk):=
 xT a.toAl 15 24 λF=>Dz (N:=["forms", "most", "told", "form"]) (g:=ZU) F JM λ_ _ _ _ _ _ c=>by
 have b:=(LS a).mono (k:=4) ();unfold ZU;exact(J9 (Kg j0 rfl (.inl rfl) (XF b Kx c rfl (J1 (Qe (JP c) (qv 0) J6 (λ_ _=>rfl) (λ_ _=>rfl)) (J1 (qv 1) J2)))) (J9 (Qy D1 rfl (JT (jm (Dh (qv 0) (Bd J6) YY YY))) (Qf (JR j0 rfl (.inl rfl))) (J8 (Xu [2] (Kg j0 rfl (.inl rfl) (XF b Kx c rfl (J1 (jo Qg (qv 2) (qv 3)) (J1 (qv 1) J2))))))) (J8 (Xv (pv 2)))))
def uZ (a:All e):Ca e "shifted" 1 ["row", "wait"] (qN e.K zQ):=
 qR a.toAl 16 18 λF=>qk (N:=["row", "wait"]) (g:=wI) F JM λ_ _ _ _ _ _ b=>by
 have m:=a.m;unfold wI;exact(J8 (JL (Xt (x:= "tuple") AU rfl (JC m) Y5 (J1 (jm (Ki ["thing", "own", "wait"] [none,none,some 1] rfl rfl (JT (qv 0)) (λ_ _ _ _ _=>(Kk [0,1] (Kd rfl (JX (xu 0 j0) (JX (xu 1 j0) Kc))))) (λ_ _ _ _ _=>(Ks (J1 (qv 0) (J1 (jo Qg (qv 1) (qv 2)) J2)))))) J2))))
def LW (a:All e):Ca e "waited" 2 ["form", "wait"] (yD e.K W9):=
 qR a.toAl 17 23 λF=>xI (N:=["form", "wait"]) (g:=BG) F JM λ_ _ _ _ _ _ c=>by
 have b:=(uZ a).mono (k:=1) ();unfold BG;exact(J8 (Wu (Ki ["row", "wait"] [none,some 1] rfl rfl (JT (qv 0)) (λ_ _ _ _ _=>(Qf (xu 0 j0))) (λ_ _ _ _ _=>(jH b c rfl (J1 (qv 0) (J1 (qv 1) J2)))))))
def t7 (a:All e):yT e "put_into_row" 6 ["row", "forms", "most"] (x6 e.K Kp):=
 xT a.toAl 18 27 λF=>Bm (N:=["row", "forms", "most"]) (g:=BH) F JM λ_ _ _ _ _ _ f=>by
 have b:=(LU a).mono (k:=5) ();have c:=(LW a).mono (k:=5) ();unfold BH;exact(J8 (JL (Bl b Kx f rfl (J1 (jm (Ki ["thing", "wait", "forms"] [none,none,some 1] rfl rfl (JT (qv 0)) (λ_ _ _ _ _=>(Kk [0,1] (Kd rfl (JX (xu 0 j0) (JX (xu 1 j0) Kc))))) (λ_ _ _ _ _=>(jm (ZE c f rfl (J1 (Qe (JP f) (qv 2) (qv 0) (λ_ _=>rfl) (λ_ _=>rfl)) (J1 (qv 1) J2))))))) (J1 (qv 2) J2)))))
def t8 (a:All e):yT e "put_into" 7 ["form", "forms", "most"] (ya e.K KD):=
 xT a.toAl 19 26 λF=>Dz (N:=["form", "forms", "most"]) (g:=XN) F JM λ_ _ _ _ _ _ f=>by
 have b:=(LV a).mono (k:=6) ();have c:=(t7 a).mono (k:=6) ();unfold XN;exact(J8 (Wu (XF b Kx f rfl (J1 (jm (dq ["row", "forms", "most"] [none,some 1,some 2] rfl rfl (JT (qv 0)) (λ_ _ _ _ _=>(Qf (xu 0 j0))) (λ_ _ _ _ _ h=>(Bl c (TZ rfl rfl rfl TY h) f rfl (J1 (qv 0) (J1 (qv 1) (J1 (qv 2) J2))))))) (J1 (qv 2) J2)))))
def LX (a:All e):Ca e "plan_by" 1 ["book", "name"] (qN e.K zR):=
 qR a.toAl 21 14 λF=>qk (N:=["book", "name", "plan"]) (g:=wK) F JM λ_ _ _ _ _ _ f=>by
 have b:=a.k_Book;have c:=a.k_Plan;unfold wK;exact(J9 (Qy PassesOwn.never rfl (JT (WV b (by decide) (qv 0))) (Qf (JR j0 rfl (.inl rfl))) (J8 (Qb (Qv (xj f.units) (WV c (by decide) (qv 2)) (qv 1) (Qi _)) (J8 (JL (qv 2))) Qa))) (J8 uB))
def sP (a:All e):Ca e "thing_form" 1 ["thing"] (yD e.K BJ):=
 qR a.toAl 22 22 λF=>xI (N:=["thing"]) (g:=Eb) F JM λ_ _ _ _ _ _ b=>by
 unfold Eb;exact(J8 (Wu (Q8 (J1 (Ks (J1 (Ks (J1 (qv 0) (J1 J6 J2))) J2)) J2))))
def LY (a:All e)(c:yT e "forms_knowing" (7+k) ["book", "name", "most", "known"] (Kz e.K (QJ j))):yT e "made_form" (7+k+1) ["book", "how", "forms", "most", "known"] (Kz e.K (Qu j)):=
 xT a.toAl 20 34 λF=>Ip (N:=["book", "how", "forms", "most", "known"]) (g:=(Wm (QJ j))) F JM λ_ _ _ _ _ _ b=>by
 have f:=(LU a).mono (k:=(7+k)) ();have h:=(LV a).mono (k:=(7+k)) ();have i:=(t8 a).mono (k:=(7+k)) ();unfold Wm;exact(Im (Ir (Qv (xj b.units) (qv 1) Qx (Qi _))) (Bu (XI (Bl f Kx b rfl (J1 (qv 2) (J1 (qv 3) J2))))) (Im (Ir (Qv (xj b.units) (qv 1) Qx (Qi _))) (Bu (XI (jm (XF h Kx b rfl (J1 (qv 2) (J1 (qv 3) J2)))))) (Bv (m:=none) (uH (sT [4] (CS b.units (qv 1) (qv 4))) (Ij (tV (JP b) (qv 4) (qv 1) (du kA (Iq c Kx b rfl (J1 (qv 0) (J1 (qv 1) (J1 (qv 3) (J1 (qv 4) J2))))) (XI (yf Wa J6)) (λ_ _=>rfl)))) ti) (Bu (df (yo.d i) Kx b rfl (D6 (tF (JP b) (qv 4) (qv 1) (λ_ _=>rfl)) (D6 (XI (qv 2)) (D6 (XI (qv 3)) dI))))))))
def dv (a:All e)(c:yT e "made_form" (7+k) ["book", "how", "forms", "most", "known"] (Kz e.K (Qu j))):yT e "forms_knowing" (7+k+1) ["book", "name", "most", "known"] (Kz e.K (QJ (j+1))):=
 xT a.toAl 23 33 λF=>Ip (N:=["book", "name", "most", "known", "plan", "told", "made", "how", "items", "forms"]) (g:=(XO (Qu j))) F JM λ_ _ _ _ _ _ i=>by
 have m:=a.m;have l:=(LX a).mono (k:=(7+k)) ();have f:=(sP a).mono (k:=(7+k)) ();have h:=(LW a).mono (k:=(7+k)) ();have b:=a.k_Plan;unfold XO;exact(Bv (m:=none) (D4 (JN j0 rfl (.inl rfl) (uF l i rfl (J1 (qv 0) (J1 (qv 1) J2))))) (Bv (m:=none) (D4 (Kg j0 rfl (.inr rfl) (Ki ["thing"] [none] rfl rfl (KR rfl (JC m) (J1 (JZ (x:= "len") Kj rfl (JC m) Kf (J1 (WV b (by decide) (qv 4)) J2)) J2)) (λ_ _ _ _ _=>(Qf (xu 0 j0))) (λ_ _ _ _ _=>(jm (ZE f i rfl (J1 (qv 0) J2))))))) (Bv (m:=none) (sK D1 rfl (JT (WV b (by decide) (qv 4))) (Kk [6,7,8] (Kd rfl (JX (JR j0 rfl (.inl rfl)) (JX (JR j0 rfl (.inl rfl)) (JX (JR j0 rfl (.inl rfl)) Kc))))) (dz (D4 (cS ["thing", "wait", "told"] [none,none,some 5] 2 j0 rfl (.inl rfl) rfl rfl (JT (qv 8)) (λ_ _ _ _ _=>(Kk [0,1] (Kd rfl (JX (xu 0 j0) (JX (xu 1 j0) Kc))))) (λ_ _ _ _ _=>(jm (ZE h i rfl (J1 (PX (JP i) (pv 2) (qv 0) (λ_ _=>rfl) (λ_ _=>rfl)) (J1 (qv 1) J2))))))) (Ij (tL (pv 5) (Iq c Kx i rfl (J1 (qv 0) (J1 (qv 7) (J1 (qv 9) (J1 (qv 2) (J1 (qv 3) J2)))))) (λn o=>KE Yy Yz YA KM n o))))) (sG (Bu (XI (qv 5)))))))
theorem LZ (a:All e):∀j,yT e "forms_knowing" (7+2*j) ["book", "name", "most", "known"] (Kz e.K (QJ j))
 | 0=>xT a.toAl 23 33 λ_=>tw
 |j+1=>dv (k:=2*j+1) a (LY (k:=2*j+0) a (LZ a j))
def Ma (a:All e):yT e "forms_knowing" 15 ["book", "name", "most", "known"] (Kz e.K (QJ 4)):=LZ a 4
def mD (a:All e):yT e "made_form" 16 ["book", "how", "forms", "most", "known"] (Kz e.K (Qu 4)):=LY (k:=8) a (Ma a)
def sX (a:All e):yT e "forms_of" 16 ["book", "name", "most"] (x6 e.K BM):=
 xT a.toAl 24 31 λF=>Bm (N:=["book", "name", "most"]) (g:=BL) F JM λ_ _ _ _ _ _ c=>by
 have b:=(Ma a).mono (k:=15) ();unfold BL;exact(J8 (JL (uE b Kx c rfl (D9 (qv 0) (D9 (qv 1) (D9 (qv 2) (dL (d0:=.dct [] []) PB)))))))
def sR (a:All e):yT e "told_form" 17 ["book", "name", "most"] (x6 e.K WA):=
 xT a.toAl 25 32 λF=>Bm (N:=["book", "name", "most"]) (g:=ZW) F JM λ_ _ _ _ _ _ c=>by
 have b:=(sX a).mono (k:=16) ();unfold ZW;exact(J8 (JL (Qe (JP c) (Bl b Kx c rfl (J1 (qv 0) (J1 (qv 1) (J1 (qv 2) J2)))) (yf Wa J6) (λ_ _=>rfl) (λ_ _=>rfl))))
def tm (a:All e):Ca e "_law_form" 18 ["book", "name"] (qN e.K KJ):=
 qR a.toAl 26 51 λF=>qk (N:=["book", "name", "found"]) (g:=ZX) F JM λ_ _ _ _ _ _ f=>by
 have c:=(sR a).mono (k:=17) ();have b:=a.x_TooMany;unfold ZX;exact(J9 (JN j0 rfl (.inl rfl) YP) (J9 (TN rfl rfl j0 rfl (.inl rfl) c f rfl (J1 (qv 0) (J1 (qv 1) (J1 J6 J2))) b rfl (λ_=>(J8 (JN j0 rfl (.inl rfl) YP)))) (J8 (JL (qv 2)))))
def tE (a:All e):Ca e "_law_wait" 2 ["cell", "salt"] (qN e.K Xf):=
 qR a.toAl 27 44 λF=>qk (N:=["cell", "salt", "mixed", "size"]) (g:=XQ) F JM λ_ _ _ _ _ _ c=>by
 have b:=(BS a).mono (k:=1) ();unfold XQ;exact(J9 (JN j0 rfl (.inl rfl) (jH b c rfl (J1 (qv 0) (J1 (qv 1) J2)))) (J9 (Qb (Qv z9 (jo Qo (qv 2) J6) J6 (Qi _)) (J8 (JL (jo Xx (jo Qo (jo QP (qv 2) J6) J6) J6))) Qa) (J9 (JN j0 rfl (.inl rfl) (jo Qo (jo Xy (jo QP (qv 0) J6) (jo Qg (qv 1) J6)) (jo Ge J6 J6))) (J9 (Qb (Qv (xj c.units) (jo Qo (jo QP (qv 2) J6) J6) J6 (Qi _)) (J8 (JL (qv 3))) Qa) (J8 (JL (yf Wa (qv 3))))))))
def sQ (a:All e):Ca e "_law_hours" 3 ["script", "salt", "things"] (yD e.K ZY):=
 qR a.toAl 28 46 λF=>xI (N:=["script", "salt", "things"]) (g:=BN) F JM λ_ _ _ _ _ _ f=>by
 have m:=a.m;have b:=(LO a).mono (k:=2) ();have c:=(tE a).mono (k:=2) ();unfold BN;exact(J8 (Wu (Ki ["k", "script", "salt"] [none,some 0,some 1] rfl rfl (KR rfl (JC m) (J1 (qv 2) J2)) (λ_ _ _ _ _=>(Qf (xu 0 j0))) (λ_ _ _ _ _=>(jH c f rfl (J1 (jo Qg (jo QP (jH b f rfl (J1 (qv 1) (J1 (qv 0) J2))) J6) (qv 0)) (J1 (jo Qg (qv 2) (qv 0)) J2)))))))
def sL (a:All e):Ca e "_law_whole" 1 ["found"] (qN e.K BO):=
 qR a.toAl 29 40 λF=>qk (N:=["found"]) (g:=Ee) F JM λ_ _ _ _ _ _ b=>by
 have m:=a.m;unfold Ee;exact(J8 (JL (AG (JZ (x:= "isinstance") AS rfl (JC m) Aq (J1 (qv 0) (J1 (AT (n:= "int") (x:= "int") rfl (JC m) Op rfl) J2))) (CH (uD (JZ (x:= "isinstance") AS rfl (JC m) Aq (J1 (qv 0) (J1 (AT (n:= "bool") (x:= "bool") rfl (JC m) Oq rfl) J2))))))))
def sD (a:All e):Ca e "_law_hours_told" 2 ["found", "given"] (qN e.K Xg):=
 qR a.toAl 30 52 λF=>qk (N:=["found", "given"]) (g:=ZZ) F JM λ_ _ _ _ _ _ c=>by
 have m:=a.m;have b:=(sL a).mono (k:=1) ();unfold ZZ;exact(J9 (Qb (AW (qv 0)) (J8 (JL Kr)) Qa) (J8 (JL (AG (JZ (x:= "isinstance") AS rfl (JC m) Aq (J1 (qv 0) (J1 (AT (n:= "list") (x:= "list") rfl (JC m) KO rfl) J2))) (AG (AB (xj c.units) (JZ (x:= "len") Kj rfl (JC m) Kf (J1 (qv 0) J2)) (qv 1) (Qi _)) (CH (JZ (x:= "all") (fF rfl) rfl (JC m) Rz (J1 (jm (Ki ["hour"] [none] rfl rfl (JT (qv 0)) (λ_ _ _ _ _=>(Qf (xu 0 j0))) (λ_ _ _ _ _=>(jH b c rfl (J1 (qv 0) J2))))) J2))))))))
def Mb (a:All e)(b:Ca e "hours_of" (1+k) ["book", "name", "hours"] (qN e.K (Wo j))):Ca e "told_hour" (1+k+1) ["book", "name", "hours"] (qN e.K (QC j)):=
 qR a.toAl 31 37 λF=>qk (N:=["book", "name", "hours"]) (g:=(Aa (Wo j))) F JM λ_ _ _ _ _ _ c=>by
 unfold Aa;exact(J8 (JL (Qe (JP c) (jH b c rfl (J1 (qv 0) (J1 (qv 1) (J1 (qv 2) J2)))) (yf Wa J6) (λ_ _=>rfl) (λ_ _=>rfl))))
def Mc (a:All e)(b:Ca e "told_hour" (1+k) ["book", "name", "hours"] (qN e.K (QC j))):Ca e "made_hour" (1+k+1) ["book", "how", "hours"] (qN e.K (K3 j)):=
 qR a.toAl 32 38 λF=>qk (N:=["book", "how", "hours"]) (g:=(Xh (QC j))) F JM λ_ _ _ _ _ _ c=>by
 have m:=a.m;unfold Xh;exact(J9 (Qb (Qv (xj c.units) (qv 1) Qx (Qi _)) (J8 (JL (JZ (x:= "max") (Gr rfl) rfl (JC m) Y4 (J1 (qv 2) J2)))) Qa) (J9 (Qb (Qv (xj c.units) (qv 1) Qx (Qi _)) (J8 (JL (JZ (x:= "min") (CY rfl) rfl (JC m) Ap (J1 (qv 2) J2)))) Qa) (J8 (JL (jH b c rfl (J1 (qv 0) (J1 (qv 1) (J1 (qv 2) J2))))))))
def tO (a:All e)(c:Ca e "made_hour" (1+k) ["book", "how", "hours"] (qN e.K (K3 j))):Ca e "hours_of" (1+k+1) ["book", "name", "hours"] (qN e.K (Wo (j+1))):=
 qR a.toAl 33 36 λF=>qk (N:=["book", "name", "hours", "told", "made", "how", "items"]) (g:=(Ab (K3 j))) F JM λ_ _ _ _ _ _ h=>by
 have m:=a.m;have f:=(LX a).mono (k:=(1+k)) ();have b:=a.k_Plan;unfold Ab;exact(J9 (Kg j0 rfl (.inr rfl) (K5 (x:= "list") Wx rfl (JC m) KO (J1 (qv 2) J2))) (J9 (Qy PassesOwn.never rfl (JT (WV b (by decide) (jH f h rfl (J1 (qv 0) (J1 (qv 1) J2))))) (Kk [4,5,6] (Kd rfl (JX (JR j0 rfl (.inl rfl)) (JX (JR j0 rfl (.inl rfl)) (JX (JR j0 rfl (.inl rfl)) Kc))))) (J8 (V8 (pv 3) (YR [3] (jH c h rfl (J1 (qv 0) (J1 (qv 5) (J1 (jm (Ki ["thing", "wait", "told"] [none,none,some 3] rfl rfl (JT (qv 6)) (λ_ _ _ _ _=>(Kk [0,1] (Kd rfl (JX (xu 0 j0) (JX (xu 1 j0) Kc))))) (λ_ _ _ _ _=>(jo Qg (Qe (JP h) (qv 2) (qv 0) (λ_ _=>rfl) (λ_ _=>rfl)) (qv 1))))) J2))))) (λi l=>KE Yy Yz YA KM i l)))) (J8 (Xu [3] (JL (qv 3))))))
theorem Md (a:All e):∀j,Ca e "hours_of" (1+3*j) ["book", "name", "hours"] (qN e.K (Wo j))
 | 0=>qR a.toAl 33 36 λ_=>gy
 |j+1=>tO (k:=3*j+2) a (Mc (k:=3*j+1) a (Mb (k:=3*j+0) a (Md a j)))
def sW (a:All e):Ca e "hours_of" 13 ["book", "name", "hours"] (qN e.K (Wo 4)):=Md a 4
def Me (a:All e):Ca e "told_hour" 14 ["book", "name", "hours"] (qN e.K (QC 4)):=Mb (k:=12) a (sW a)
def m9 (a:All e):Ca e "made_hour" 15 ["book", "how", "hours"] (qN e.K (K3 4)):=Mc (k:=13) a (Me a)
def sC (a:All e):Ca e "_law_sides" 15 ["book", "other", "hours"] (yD e.K WC):=
 qR a.toAl 34 53 λF=>xI (N:=["book", "other", "hours", "one", "two"]) (g:=BP) F JM λ_ _ _ _ _ _ c=>by
 have m:=a.m;have b:=(Me a).mono (k:=14) ();unfold BP;exact(J9 (JN j0 rfl (.inl rfl) (jH b c rfl (J1 (qv 0) (J1 Qx (J1 (jm (K5 (x:= "list") Wx rfl (JC m) KO (J1 (qv 2) J2))) J2))))) (J9 (JN j0 rfl (.inl rfl) (jH b c rfl (J1 (qv 0) (J1 (qv 1) (J1 (jm (K5 (x:= "list") Wx rfl (JC m) KO (J1 (qv 2) J2))) J2))))) (J8 (Wu (Q8 (J1 (AB vq (qv 3) (qv 4) (Qi _)) (J1 (AB z9 (qv 3) (qv 4) (Qi _)) J2)))))))
def ke (a:All e):Ca e "hours_done_at_nought" 1 ["row", "late", "many"] (yD e.K wS):=
 qR a.toAl 35 5 λF=>xI (N:=["row", "late", "many", "hours", "thing", "wait"]) (g:=wM) F JM λ_ _ _ _ _ _ b=>by
 unfold wM;exact(J9 (Kg j0 rfl (.inl rfl) (FY kj (jm (Q8 (J1 (qv 1) J2))) (qv 2))) (J9 (Qy PassesOwn.never rfl (JT (qv 0)) (Kk [4,5] (Kd rfl (JX (JR j0 rfl (.inl rfl)) (JX (JR j0 rfl (.inl rfl)) Kc)))) (J8 (Ro (pv 3) (qv 4) (yf Wa (qv 5))))) (J8 (Xv (pv 3)))))
def kc (a:All e):Ca e "least_wait" 1 ["form"] (qN e.K wR):=
 qR a.toAl 36 6 λF=>qk (N:=["form"]) (g:=wL) F JM λ_ _ _ _ _ _ b=>by
 have m:=a.m;unfold wL;exact(J8 (JL (JZ (x:= "min") (CY rfl) rfl (JC m) Ap (J1 (jm (Ki ["row"] [none] rfl rfl (JT (qv 0)) (λ_ _ _ _ _=>(Qf (xu 0 j0))) (λ_ _ _ _ _=>(JZ (x:= "min") (CY rfl) rfl (JC m) Ap (J1 (jm (Ki ["thing", "wait"] [none,none] rfl rfl (JT (qv 0)) (λ_ _ _ _ _=>(Kk [0,1] (Kd rfl (JX (xu 0 j0) (JX (xu 1 j0) Kc))))) (λ_ _ _ _ _=>(qv 1)))) J2))))) J2))))
def kf (a:All e):Ca e "lag_of_row" 1 ["row", "other"] (qN e.K wT):=
 qR a.toAl 37 4 λF=>qk (N:=["row", "other", "waits", "thing", "wait"]) (g:=wN) F JM λ_ _ _ _ _ _ b=>by
 have m:=a.m;unfold wN;exact(J9 (JN j0 rfl (.inr rfl) (jm (K5 (x:= "dict") (AV rfl) rfl (JC m) Ar (J1 (qv 1) J2)))) (J9 (Qy PassesOwn.never rfl (JT (qv 0)) (Kk [3,4] (Kd rfl (JX (JR j0 rfl (.inl rfl)) (JX (JR j0 rfl (.inl rfl)) Kc)))) (J8 (Qb (CS b.units (qv 3) (qv 2)) (J8 (JL YP)) Qa))) (J8 (JL (JZ (x:= "max") (Gr rfl) rfl (JC m) Y4 (J1 (jm (Ki ["thing", "wait", "waits"] [none,none,some 2] rfl rfl (JT (qv 0)) (λ_ _ _ _ _=>(Kk [0,1] (Kd rfl (JX (xu 0 j0) (JX (xu 1 j0) Kc))))) (λ_ _ _ _ _=>(jo Xx (qv 1) (Qe (JP b) (qv 2) (qv 0) (λ_ _=>rfl) (λ_ _=>rfl)))))) J2))))))
def kg (a:All e):Ca e "nearest_row" 2 ["one", "row"] (qN e.K zS):=
 qR a.toAl 38 3 λF=>qk (N:=["one", "row", "told", "number", "own", "more"]) (g:=wO) F JM λ_ _ _ _ _ _ c=>by
 have m:=a.m;have b:=(kf a).mono (k:=1) ();unfold wO;exact(J9 (JN j0 rfl (.inl rfl) YP) (J9 (Qy PassesOwn.never rfl (RB rfl (JC m) (J1 (qv 0) J2)) (Kk [3,4] (Kd rfl (JX (JR j0 rfl (.inl rfl)) (JX (JR j0 rfl (.inl rfl)) Kc)))) (J9 (JN j0 rfl (.inl rfl) (jH b c rfl (J1 (qv 4) (J1 (qv 1) J2)))) (J8 (Qb (xA (AE (AX (qv 5)) (AC (xA (AF (AW (qv 2)) (AD (Qv vq (qv 5) (Qe (JP c) (qv 2) J6 (λ_ _=>rfl) (λ_ _=>rfl)) (Qi _)))))))) (J8 (JN j0 rfl (.inl rfl) (Ks (J1 (qv 5) (J1 (qv 3) J2))))) Qa)))) (J8 (JL (qv 2)))))
def ki (a:All e):Ca e "later_by" 3 ["one", "other", "turns", "many"] (qN e.K yS):=
 qR a.toAl 39 1 λF=>qk (N:=["one", "other", "turns", "many", "row", "nearest"]) (g:=wQ) F JM λ_ _ _ _ _ _ h=>by
 have b:=(ke a).mono (k:=2) ();have c:=(kc a).mono (k:=2) ();have f:=(kg a).mono (k:=2) ();unfold wQ;exact(J9 (Qy PassesOwn.never rfl (JT (qv 1)) (Qf (JR j0 rfl (.inl rfl))) (J9 (JN j0 rfl (.inl rfl) (jH f h rfl (J1 (qv 0) (J1 (qv 4) J2)))) (J8 (Qb (xA (AF (AW (qv 5)) (AD (Qv mE (Qe (JP h) (qv 5) J6 (λ_ _=>rfl) (λ_ _=>rfl)) (qv 2) (Qi _))))) (J8 (JL (jm (V7 b h rfl (J1 (qv 4) (J1 (jo Xx (qv 2) (jH c h rfl (J1 (qv 0) J2))) (J1 (qv 3) J2))))))) Qa)))) (J8 (JL YP)))
def kh (a:All e):Ca e "compared" 4 ["one", "other", "many"] (qN e.K zT):=
 qR a.toAl 40 2 λF=>qk (N:=["one", "other", "many"]) (g:=wP) F JM λ_ _ _ _ _ _ c=>by
 have b:=(ki a).mono (k:=3) ();unfold wP;exact(J8 (JL (Ks (J1 (jH b c rfl (J1 (qv 1) (J1 (qv 0) (J1 J6 (J1 (qv 2) J2))))) (J1 (jH b c rfl (J1 (qv 0) (J1 (qv 1) (J1 J6 (J1 (qv 2) J2))))) J2)))))
def t4 (a:All e):Ca e "_law_judged" 16 ["book", "other", "one", "two", "tried"] (qN e.K Ac):=
 qR a.toAl 41 54 λF=>qk (N:=["book", "other", "one", "two", "tried", "given", "found", "side"]) (g:=BR) F JM λ_ _ _ _ _ _ b=>by
 have m:=a.m;have f:=(sD a).mono (k:=15) ();have c:=(sC a).mono (k:=15) ();have h:=(kh a).mono (k:=15) ();unfold BR
 exact(J9 (JN j0 rfl (.inl rfl) (JZ (x:= "len") Kj rfl (JC m) Kf (J1 (Qe (JP b) (qv 4) J6 (λ_ _=>rfl) (λ_ _=>rfl)) J2))) (J9 (JN j0 rfl (.inl rfl) (jH h b rfl (J1 (jm (K5 (x:= "list") Wx rfl (JC m) KO (J1 (qv 2) J2))) (J1 (jm (K5 (x:= "list") Wx rfl (JC m) KO (J1 (qv 3) J2))) (J1 (qv 5) J2))))) (J9 (Qb (xA (AF (WO (KF (JZ (x:= "isinstance") AS rfl (JC m) Aq (J1 (qv 6) (J1 (AT (n:= "tuple") (x:= "tuple") rfl (JC m) Y5 rfl) J2))))) (AD (Qv (vp b.units) (JZ (x:= "len") Kj rfl (JC m) Kf (J1 (qv 6) J2)) J6 (Qi _))))) (J8 (JL Kr)) Qa) (J9 (Qb (Qv (vp b.units) (AG (G1 (Qe (JP b) (qv 6) J6 (λ_ _=>rfl) (λ_ _=>rfl))) (CH (G1 (Qe (JP b) (qv 6) J6 (λ_ _=>rfl) (λ_ _=>rfl))))) (AB (xj b.units) (qv 2) (qv 3) (Qi _)) (Qi _)) (J8 (JL Kr)) Qa) (J9 (Qy PassesOwn.never rfl (KR rfl (JC m) (J1 J6 J2)) (Qf (JR j0 rfl (.inr rfl))) (J9 (Qb (WO (KF (jH f b rfl (J1 (Qe (JP b) (qv 6) (qv 7) (λ_ _=>rfl) (λ_ _=>rfl)) (J1 (qv 5) J2))))) (J8 (JL Kr)) Qa) (J9 (Qb (xA (AE (AX (Qe (JP b) (qv 6) (qv 7) (λ_ _=>rfl) (λ_ _=>rfl))) (AC (WO (KF (Qe (JP b) (jm (V7 c b rfl (J1 (qv 0) (J1 (qv 1) (J1 (Qe (JP b) (qv 6) (qv 7) (λ_ _=>rfl) (λ_ _=>rfl)) J2))))) (qv 7) (λ_ _=>rfl) (λ_ _=>rfl))))))) (J8 (JL Kr)) Qa) (J8 (Qb (AW (Qe (JP b) (qv 6) (qv 7) (λ_ _=>rfl) (λ_ _=>rfl))) (J8 (Qb (KF (JZ (x:= "any") (fE rfl) rfl (JC m) R4 (J1 (jm (Ki ["hours", "book", "other", "side"] [none,some 0,some 1,some 7] rfl rfl (JT (qv 4)) (λ_ _ _ _ _=>(Qf (xu 0 j0))) (λ_ _ _ _ _=>(Qe (JP b) (jm (V7 c b rfl (J1 (qv 1) (J1 (qv 2) (J1 (qv 0) J2))))) (qv 3) (λ_ _=>rfl) (λ_ _=>rfl))))) J2))) (J8 (JL Kr)) Qa)) Qa))))) (J8 (JL Kr)))))))
def tq (a:All e){f:Addr}{r:FuncData}(F:Fun e.K "law" "law" (we 55) f r):FnOk e.P e.w e.K e.mg e.base yw 19 f r ["script"] (qN e.K vg):=
 qk (N:=["script", "book", "given", "one", "hours", "other", "two", "tried", "row"]) (g:=Ad) F JM λ_ _ _ _ _ _ l=>by
 have m:=a.m;have n:=(sZ a).mono (k:=18) ();have o:=(sM a).mono (k:=18) ();have b:=(tm a).mono (k:=18) ();have p:=(sQ a).mono (k:=18) ();have q:=(t4 a).mono (k:=18) ();have c:=a.k_Book;have i:=a.k_Plan;unfold Ad
 exact(J9 (JN j0 rfl (.inl rfl) (jm (V7 n l rfl (J1 (qv 0) J2)))) (J9 (JN j0 rfl (.inl rfl) (JZ (x:= "len") Kj rfl (JC m) Kf (J1 (WV i (by decide) (Qe (JP l) (WV c (by decide) (qv 1)) J6 (λ_ _=>rfl) (λ_ _=>rfl))) J2))) (J9 (JN j0 rfl (.inl rfl) (jH b l rfl (J1 (qv 1) (J1 Qx J2)))) (J9 (JN j0 rfl (.inl rfl) (jm (V7 p l rfl (J1 (qv 0) (J1 J6 (J1 (qv 2) J2)))))) (J9 (Qy PassesOwn.never rfl (JT (jm (Q8 (J1 Qx (J1 Qx J2))))) (Qf (JR j0 rfl (.inl rfl))) (J9 (JN j0 rfl (.inl rfl) (jH b l rfl (J1 (qv 1) (J1 (qv 5) J2)))) (J8 (Qb (xA (AE (AX (qv 3)) (AC (AX (qv 6))))) (J9 (Kg j0 rfl (.inl rfl) (Q8 (J1 (qv 4) (J1 (jm (T2 (λh=>XV (L2.call_listRev rfl) rfl (JC m) KO (V0 (XV L2.call_reversed rfl (JC m) T3 h) Wp)) (J1 (qv 4) J2))) J2)))) (J9 (Qy PassesOwn.never rfl (JT (jo Qg (qv 3) (qv 6))) (Qf (JR j0 rfl (.inl rfl))) (J8 (V8 (pv 7) (jm (V7 o l rfl (J1 (qv 8) (J1 (jo Qg (qv 3) (qv 6)) (J1 (qv 2) J2))))) (λs t=>KE Yy Yz YA KM s t)))) (J8 (Qb (WO (KF (YR [7] (jH q l rfl (J1 (qv 1) (J1 (qv 5) (J1 (qv 3) (J1 (qv 6) (J1 (qv 7) J2))))))))) (J8 (JL Kr)) Qa)))) Qa)))) (J8 (JL Kr)))))))
end
def BT (K:W.Frag):Sp:=λb H Q _=>∃(a:Addr) (ns:Yh),b=[.ref a]/\qE K H a (ns.map V.int)/\ns.length<=63/\∀c,Q (.bl true) c
def d7 (K:W.Frag)(b:YE)(H:Hp)(Q:VK)(E:XK)(h:BT K b H Q E):qN K vg b H Q E:=by
 obtain⟨a,ns,rfl,c,f,q⟩:=h;refine⟨H,[.scr ns],jl.refl _,jd.mk (qs.mpr ⟨a,rfl,c⟩) .nil,?_⟩;rw[zA ns f];intro v j g e i;rw[jp.mp i];exact q g
def all_mk {l:W.OpenLaw}{w:World}{K:W.Frag}{h:Heap}{mg:Ye}{N:Addr}(X:K.In h)(G:h.Ns mainGlobals mg)(L:mg "law" = some (.ref N))
 {a:Addr}
 (d:vC K we tbl) (z:Nn K bl) (dl:wU K "law" (we 55))
 (b:W.nsIn K mainGlobals "TooMany" = some (some (.ref a))) (i:W.excIn K a [.type "ValueError",.type "Exception",.type "BaseException",.type "object"] "ValueError.__new__" = true)
 (x:Ie K "Book" "Book.__init__" ["plans"] (Am (we 13) 0))
 (y:Ie K "Plan" "Plan.__init__" ["name", "givens", "rows"] (Am (we 12) 0)):
 ∃O:FuncData,(∀(s:Shared) (v:Value),BindsTo s O ⟨[v],[]⟩ [("script",v)])/\∀c:Heap,K.In c->c.Ns mainGlobals mg->FnOk l.prog w K mg c yw 19 N O ["script"] (BT K):=by
 obtain⟨M,A,E,vg⟩:=dl;cases L.symm.trans (W.mg_of X G E);obtain⟨B,I,F,f,j,m,o,p⟩:=x;obtain⟨C,J,H,g,q,r,t,u⟩:=y;exact⟨A,(by obtain⟨_,_,_,_,_,_,_,_,_,rfl,_,_⟩:=id vg.ex;exact λs v=>.of_eq rfl),λc _ _=>(tq (e:=⟨l.prog,w,K,mg,c,λn=>[a,B,C].getD n 0,λn=>[].getD n default⟩) ⟨⟨⟨h,X,G⟩,d,Iv X G z⟩,⟨b,W.mg_of X G b,i⟩,⟨f,W.mg_of X G f,j,m⟩,⟨_,_,o,p⟩,⟨g,W.mg_of X G g,q,r⟩,⟨_,_,t,u⟩⟩ vg).imp (d7 K)⟩
def walk {l:W.OpenLaw}{q:Program}{c:Yk}{m:(Ye)->Heap->Prop}{g:World->Heap->Prop}{d:DefRec}{K:Params->W.Frag}(o:l.most=some 63)(e:d.params.defaults=[])
 (p:∀(w:World) (h:Heap),g w h->(K w.params).In h)
 (F:∀(w:World) (mg:Ye) (i:Addr) (h:Heap),(K w.params).In h->h.Ns mainGlobals mg->mg d.name=some (.ref i) ->
  ∃j:FuncData,(∀(s:Shared) (u:Value),BindsTo s j ⟨[u],[]⟩ [("script",u)])/\∀b:Heap,(K w.params).In b->b.Ns mainGlobals mg->FnOk l.prog w (K w.params) mg b yw 19 i j ["script"] (BT (K w.params))):
 W.WalkO q c m g l.row.toRowW d [] (λf r=>PySem.call f r):=
 L2.walk_of (n:=63) (k:=19) (x:= "script") (CX:=λ_=>yw) (sp:=λw=>BT (K w.params)) o (by decide) e ⟨rfl,by decide,by decide⟩ p F (λ_ _ a ns t _ v=>⟨a,ns,rfl,v,t,λ_=>rfl⟩) λ_ _ _ _ _ z=>z
end My
end
open PySem PySem.W PyProof.Rows
namespace PySem.W.Fast
def tw5983140465814483906:=()
def tw16627128186169877572:=()
def tw12120846659059388233:=()
def tw13282802739343139049:=()
def tw3749350940370874145:=()
def tw16878656146981223540:=()
def tw4711082840151898022:=()
def tw5100992516325851691:=()
def tw6515178929226977248:=()
def tw18343246938577794454:=()
def tw12969824981436556476:=()
def tw11920784963318144695:=()
def tw17482081226454453360:=()
def tw10729578001034527353:=()
def tw11831367242066136509:=()
def tw815212801892231301:=()
def tw1003750950079443945:=()
def tw6844481778863313267:=()
def tw697364597711557445:=()
def tw14263373029276837703:=()
def tw7579426124494653373:=()
def tw12567131518839625124:=()
def tw5183491382191843226:=()
def tw933821607004445982:=()
def tw16422342572923508377:=()
def tw5495508947177664228:=()
def tw14909284087178026667:=()
def tw3435860369009271449:=()
def tw4146948441608182496:=()
def tw13373770636987547257:=()
def tw13736679333615237274:=()
def tw717515700817003582:=()
def tw4644744713792331439:=()
def tw13978904848747723866:=()
def tw15230932499147427502:=()
def tw6369619530631568140:=()
def tw2369673682023103449:=()
def tw10037114351841340568:=()
def tw3892772337910645641:=()
def tw5927589577521028596:=()
def tw821401415162605213:=()
def tw11582434602661563524:=()
def tw17571198885414832098:=()
def tw5257949045472546752:=()
def tw13758197658943611512:=()
def tw1694343563037874417:=()
def tw11588193212586723847:=()
def tw8765765125474752801:=()
def tw11162841355868437813:=()
def tw16647819900448335904:=()
def tw15173762784868967602:=()
def tw10901553180575054351:=()
def tw4823897490091110263:=()
def tw4792843670645441119:=()
def tw7781339871507145516:=()
def tw361135190465083097:=()
def tw7755918654936449233:=()
def tw716684664242590009:=()
def tw8367501443602210341:=()
def tw9512380751448826072:=()
def tw7736459264966960891:=()
def tw16267996227167732402:=()
def tw6631114267950439130:=()
def tw4566541455010258642:=()
def tw786127468081753721:=()
def tw14563957295964238405:=()
def tw7616079480780017323:=()
def tw10736641550261595673:=()
def tw4936223337491947609:=()
def tw9930816520109783985:=()
def tw10094670116084229283:=()
def tw4367740018047527304:=()
def tw9692046255408692953:=()
def tw12724971624433269063:=()
def tw13848857983314505648:=()
def tw5477182353236848618:=()
def tw18309627350722510129:=()
def tw5870433886156337157:=()
def tw13113818317981743888:=()
def tw15960678996737094745:=()
def tw15763288323263022498:=()
def tw10809038312482641304:=()
def tw14357438263581635964:=()
def tw14091065012729163051:=()
def tw4280528321257187375:=()
def tw18061483068195343905:=()
def tw6945860733396236474:=()
def tw15359429767760612895:=()
def tw1528192628346714403:=()
def tw4068872373105080838:=()
def tw16873546607056841501:=()
def tw12964885502714602750:=()
def tw1829953224945950490:=()
def tw14172431038901561178:=()
def tw9671520964522223316:=()
def tw13355302896831898967:=()
def tw6820765758251920909:=()
def tw11193210774622105712:=()
def tw14000673860371337780:=()
def tw958411602089862952:=()
def tw3230468137244500328:=()
def tw3911267504418769268:=()
def tw1589749068029759941:=()
def tw8111425949487663899:=()
def tw11590236870891108022:=()
def tw6730069408681887889:=()
def tw15925505859940593295:=()
def tw6018936097416878630:=()
def tw3868626202863522954:=()
def tw8477933249870375679:=()
def tw6475450885393039042:=()
def tw7201446504597000104:=()
def tw18107368865693822044:=()
def tw7175589930020387246:=()
def tw1472302214782966599:=()
def tw11365949901712685584:=()
def tw7575981936711269952:=()
def tw12304622186656362545:=()
def tw980428469131521873:=()
def tw7135635656238928761:=()
def tw14556068114627917533:=()
def tw14863368507119840369:=()
def tw4428765193401462568:=()
def tw1699483591738910808:=()
def tw6637914028421574481:=()
def tw1736834728034272197:=()
def tw18224864423061241840:=()
def tw12285315290602258358:=()
def tw8849282495031019745:=()
def tw12641018815675958272:=()
def tw4046565898477349082:=()
def tw15116061622241638182:=()
def tw2749369720191827856:=()
def tw15366748131980227743:=()
def tw2678646790192107376:=()
def tw18281513962606706704:=()
def tw13918180478338291882:=()
def tw1423573614475077851:=()
def tw5356829453131150500:=()
def tw15272008452265794916:=()
def tw15698375668283995638:=()
def tw2269557640406469196:=()
def tw3154352032717830927:=()
def tw16652159766639243843:=()
def tw11799281906666287106:=()
def tw16431997238137024712:=()
def tw15114431270289127935:=()
def tw1229349450835203987:=()
def tw12857643236174691150:=()
def tw6503715482016522921:=()
def tw13106028105343072528:=()
def tw17163029828658784045:=()
def tw15363342087639312519:=()
def tw15155160376694023450:=()
def tw15107496324056347856:=()
def tw13815980200290517822:=()
def tw7464140874951563830:=()
def tw18064277114497927974:=()
def tw13756258109279922229:=()
def tw2715460155363903111:=()
def tw3839064492933421470:=()
def tw17521117731094597871:=()
def tw7834221140107732764:=()
def tw3662335312284712863:=()
def tw17585716568071033372:=()
def tw17065826044634673192:=()
def tw3486361890729405499:=()
def tw10627456007922297091:=()
def tw10389638285376099352:=()
def tw8877547562248808376:=()
def tw4530367131257672992:=()
def tw8483284659703764448:=()
def tw11033813334179999573:=()
def tw11092410358882043870:=()
def tw12216336863168477113:=()
def tw5838733989783306386:=()
def tw17394601572874522064:=()
def tw2424702709317762453:=()
def tw3195360595283901457:=()
def tw8505844695204316236:=()
def tw4079070192928718501:=()
def tw16430139072424292992:=()
def tw228426232138515140:=()
def tw393272126630313171:=()
def tw12020274913938648194:=()
def tw8852602025437997780:=()
def tw6928620635825888945:=()
def tw3741366032201427774:=()
def tw10722554192000895264:=()
def tw3593052385297774662:=()
def tw8085021157698412554:=()
def tw13682495812251146299:=()
def tw11980821239444836293:=()
def tw9217744968531027457:=()
def tw6725215068915908904:=()
def tw6425935615198791048:=()
def tw3212512902176752764:=()
def tw12978632732770119522:=()
def tw2373903034881728271:=()
def tw12431521648509236918:=()
def tw12529295218339437177:=()
def tw6774451458136857095:=()
end PySem.W.Fast
set_option maxRecDepth 100000 in
set_option maxHeartbeats 0 in
theorem PySem.Challenge.cw_allfirst_k65_whole_two_plans_judged_holds : PySem.Challenge.rw_allfirst_k65_whole_two_plans_judged.Holds := by
 w_on;o_law;k_head;(case hw=>w_witness2)
 k_fill
 refine My.walk (l:=PySem.Challenge.rw_allfirst_k65_whole_two_plans_judged) rfl rfl (fun w h Y=>PySem.W.kIn_of Y) ?F
 case F =>
  intro w mg fa h KX G hmg;refine' My.all_mk KX G hmg ?d ?z ?dl ?a_TooMany ?q_TooMany ?l_Book ?l_Plan
  (case d =>
   repeat (apply L2.DL.dfs_cons;focus (refine' ⟨_,_,?a,L2.fun_mk ?l ?c ?k⟩;(case a=>k_is);(case l=>k_is);(case c=>k_is);(case k=>k_is)))
   exact True.intro)
  (case z =>
   repeat (apply L2.DL.nn_cons;focus k_is)
   exact True.intro)
  (case dl=>refine' ⟨_,_,?a,L2.fun_mk ?l ?c ?k⟩;(case a=>k_is);(case l=>k_is);(case c=>k_is);(case k=>k_is))
  (case a_TooMany=>k_is)
  (case q_TooMany=>k_exc)
  (case l_Book=>refine' ⟨_,_,_,?ua,⟨?up,?uh,?uo,?us⟩,List.forall_mem_cons.mpr ⟨?uf0,List.forall_mem_nil _⟩,⟨?um,?ui,?un,?ue⟩,L2.fun_mk ?ul ?uc ?uk⟩;(case ua=>k_is);(case ui=>k_is);(case ul=>k_is);(case uc=>k_is);(case uk=>k_is);(case up=>k_is);(case uh=>k_is);(case uo=>k_is);(case us=>k_is);(case um=>k_is);(case un=>k_is);(case ue=>k_is);(case uf0=>show PySem.W.findIn _ _ _=_;k_is))
  (case l_Plan=>refine' ⟨_,_,_,?ua,⟨?up,?uh,?uo,?us⟩,List.forall_mem_cons.mpr ⟨?uf0,List.forall_mem_cons.mpr ⟨?uf1,List.forall_mem_cons.mpr ⟨?uf2,List.forall_mem_nil _⟩⟩⟩,⟨?um,?ui,?un,?ue⟩,L2.fun_mk ?ul ?uc ?uk⟩;(case ua=>k_is);(case ui=>k_is);(case ul=>k_is);(case uc=>k_is);(case uk=>k_is);(case up=>k_is);(case uh=>k_is);(case uo=>k_is);(case us=>k_is);(case um=>k_is);(case un=>k_is);(case ue=>k_is);(case uf0=>show PySem.W.findIn _ _ _=_;k_is);(case uf1=>show PySem.W.findIn _ _ _=_;k_is);(case uf2=>show PySem.W.findIn _ _ _=_;k_is))
