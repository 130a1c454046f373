import PyProof.Rows.All
import Wide.All
import OpenK.AllK
import Wide.FinOn
import Lean
import PyProof.EqAt
import PyProof.EqKinds
import PyProof.TupleCall
import PyProof.P3Eq
import PyProof.NeData
import PySem.Challenge.RW_allfirst_k52_whole_form_and_run
set_option autoImplicit true
set_option relaxedAutoImplicit true
set_option Elab.async false
set_option linter.all false
set_option maxRecDepth 100000
open PySem PySem.Spec PyProof.Rows
theorem Zqi.{u} {α:Type u}{a b:α}(h:some a=some b):a=b:=Option.some.inj h
theorem Zqg.{u} {α:Type u}{l:List α}{i:Nat}(h:i<l.length):l[i]? = some l[i]:=List.getElem?_eq_getElem h
theorem Zqs.{u} {α:Type u}{a:α}{l:List α}:a∈a::l:=List.mem_cons_self
theorem Zqm.{u} {α:Type u}(y:α){a:α}{l:List α}(h:a∈l):a∈y::l:=List.mem_cons_of_mem y h
theorem Zql.{u,v} {α:Type u}{β:Type v}{l:List α}(f:α->β):(l.map f).length=l.length:=List.length_map f
abbrev Za:=@wpAny_bind
abbrev Zb:=@wpAny_pure
abbrev Zc:=@wpAny_mono
abbrev Zd:=@if_pos
abbrev Ze:=@if_neg
abbrev Zf:=@Nat.le_refl
abbrev Zg:=@Nat.lt_of_lt_of_le
abbrev Zh:=@Nat.le_trans
abbrev Zi:=@Nat.ne_of_lt
abbrev Zj:=@Bool.false_ne_true
abbrev Zk:=@Heap.lt_size
abbrev Zl:=@List.map_cons
abbrev Zm:=@List.size_toArray
abbrev Zn:=@absurd
abbrev Zo:=@decide_eq_false
abbrev Zp:=@decide_eq_true
abbrev Zq:=@Heap.get?_push_of_some
abbrev Zr:=@Heap.get?_push_size
abbrev Zs:=@iff_of_false
abbrev Zt:=@congrArg
abbrev Zu:=@List.length_cons
abbrev Zv:=@List.getElem?_map
abbrev Zw:=@List.map_map
abbrev Zx:=@List.getElem?_set_ne
abbrev Zy:=@Nat.lt_irrefl
abbrev Zz:=@Nat.le_of_lt
abbrev ZA:=@List.append_nil
abbrev ZB:=@List.length_range
abbrev ZC:=@List.length_nil
set_option maxHeartbeats 4000000
abbrev Ya:=PySem.Value->PySem.Shared->Prop
abbrev Yb:=List (PySem.Addr×PySem.Obj)
abbrev Yc:=List (Nat×Nat×Nat)
abbrev Yd:=Nat->Nat->Bool
abbrev Ye:=PySem.Str->Option PySem.Value
abbrev Yf:=List PySem.Value
abbrev Yg:=Option PySem.Value
abbrev Yh:=List Int
abbrev Yi:=Array Nat
abbrev Yj:=List Nat
abbrev Yk:=List PySem.Str
abbrev Yl:=List PySem.Addr
abbrev Ym:=List PySem.Expr
abbrev Yn:=Array PySem.Value
abbrev Yo:=@PyProof.Rows.wpS_bind
abbrev Yp:=@PyProof.Rows.wpS_pure
abbrev Yq:=@PyProof.Rows.wpS_mono
abbrev Yr:=@PyProof.Rows.wpS_forRange
abbrev Ys:=@beq_iff_eq
abbrev Yt:=@Unit.unit
abbrev Yu:=@Bool.eq_false_iff
abbrev Yv:=@Nat.lt_of_not_le
abbrev Yw:=@Nat.one_pos
abbrev Yx:=@Nat.le_of_eq
abbrev Yy:=@PySem.F.plainAttrs_list
abbrev Yz:=@PySem.F.slot_list_append
abbrev YA:=@PySem.F.type_list_append
abbrev YB:=PyProof.Rows.SortSt->Prop
abbrev YC:=PySem.Shared->Prop
abbrev YD:=PySem.SetTable
noncomputable section
local macro_rules | `(tactic| trivial) => `(tactic| first|exact .inl rfl|exact .inr rfl|assumption)
local macro_rules | `(()) => `(by first|lia|omega|(simp;done)|grind|simp_all)
abbrev Ua:=@Nat.zero_le
abbrev Ub:=@List.length_append
abbrev Uc:=@List.map_append
abbrev Ud:=@List.mem_of_getElem?
abbrev Ue:=@Bool.and_eq_true
abbrev Uf:=@Sum.inl
abbrev Ug:=@Nat.lt_trans
abbrev Uh:=@List.append_assoc
abbrev Ui:=@List.length_singleton
abbrev Uj:=@Nat.le_add_right
abbrev Ul:=@Array.size_map
abbrev Uo:=@Array.length_toList
abbrev Uq:=@List.drop_eq_getElem_cons
abbrev Ur:=@Nat.le_of_lt_succ
abbrev Us:=@List.getD_eq_getElem?_getD
abbrev Ut:=@List.mem_append_right
abbrev Uu:=@Nat.blt
abbrev Uv:=@List.length_take
abbrev Uw:=@Nat.le_of_succ_le
abbrev Uy:=@Array.getElem?_eq_getElem
abbrev Uz:=@List.getElem_of_mem
abbrev UA:=@Nat.mod_lt
abbrev UB:=@Nat.lt_of_le_of_ne
abbrev UC:=@Nat.lt_succ_of_lt
abbrev UD:=@Bool.false_eq_true
abbrev UE:=@List.getElem_mem
abbrev UF:=@Nat.blt_eq
abbrev UG:=@Nat.lt_succ_self
abbrev UH:=@Nat.lt_of_le_of_lt
abbrev UI:=@List.take_append_drop
abbrev UJ:=@List.take_of_length_le
abbrev UK:=@Nat.succ.inj
abbrev UL:=@Sum.inr
abbrev UM:=@List.getElem?_set_self
abbrev UN:=@Array.getElem?_map
abbrev UO:=@Nat.not_lt_zero
abbrev UP:=@List.getElem?_append_left
abbrev UQ:=@List.getElem?_append_right
abbrev UR:=@List.map_congr_left
abbrev US:=@List.length_set
abbrev UT:=@List.drop_length
abbrev UU:=@List.all_eq_true
abbrev UV:=@List.mem_cons
abbrev UW:=@Nat.mod_eq_of_lt
abbrev UX:=@List.filterMap_cons
abbrev UY:=@Nat.lt_of_succ_lt
abbrev UZ:=@List.pairwise_map
abbrev U0:=@List.getElem?_eq_none
abbrev U4:=@Nat.lt_or_ge
abbrev U5:=@Int.le_refl
abbrev U6:=@Nat.ne_of_gt
abbrev U7:=@Bool.or_eq_true
abbrev U8:=@List.take_succ
abbrev U9:=@Nat.sub_le
abbrev Va:=@Nat.exists_eq_add_of_le
abbrev Vb:=@List.all_cons
abbrev Vc:=@List.not_mem_nil
abbrev Vd:=@Nat.succ_pos
abbrev Ve:=@Nat.lt_trichotomy
abbrev Vf:=@Bool.eq_iff_iff
abbrev Vg:=@List.drop_eq_nil_of_le
abbrev Vh:=@List.foldl_cons
abbrev Vi:=@Nat.min_eq_left
abbrev Vj:=@Array.ext'
abbrev Vk:=@Nat.le_succ_of_le
abbrev Vl:=@Array.getElem?_toList
abbrev Vm:=@Array.forIn_toList
abbrev Vn:=@List.foldl_append
abbrev Vo:=@List.zip_cons_cons
abbrev Vp:=@Nat.add_sub_of_le
abbrev Vq:=@List.Perm.trans
abbrev Vr:=@Nat.succ_le_succ
abbrev Vs:=@List.Perm.refl
abbrev Vt:=@List.take_zero
abbrev Vu:=@Nat.lt_of_add_lt_add_left
abbrev Vv:=@List.nodup_nil
abbrev Vw:=@Nat.le_of_ble_eq_true
abbrev Vx:=@Nat.eq_zero_or_pos
abbrev Vy:=@List.ext_getElem?
abbrev Vz:=@List.all_map
abbrev VA:=@Nat.mul_le_mul
abbrev VB:=@List.length_filter_le
abbrev VC:=@Array.swapIfInBounds_def
abbrev VD:=@List.pairwise_append
abbrev VE:=@Array.size_extract
abbrev VF:=@Nat.add_sub_cancel_left
abbrev VG:=@List.getElem_map
abbrev VH:=@List.any_eq_true
abbrev VI:=@Array.mem_toList_iff
abbrev VJ:=@Array.getElem_mem
abbrev VL:=@List.take_length
abbrev VM:=@List.getElem?_take_of_lt
abbrev VN:=@List.getElem?_zip_eq_some
abbrev VO:=@List.extract_eq_drop_take
abbrev VP:=@Nat.le_of_add_le_add_left
abbrev VQ:=@Array.getElem?_eq_none
abbrev VR:=@List.pairwise_singleton
abbrev VS:=@Array.getD_eq_getD_getElem?
abbrev VT:=@List.Nodup.length_le_of_subset
abbrev Ja:=@List.mem_map
abbrev Jb:=@List.mem_append
abbrev Jc:=@List.getElem?_eq_some_iff
abbrev Jd:=@List.mem_singleton
abbrev Je:=@List.map_eq_nil_iff
abbrev Jf:=@List.mem_filter
abbrev Jg:=@Option.bind_eq_some_iff
abbrev Jh:=@List.mem_range
abbrev Ji:=@List.pairwise_cons
abbrev Jj:=@List.pairwise_iff_getElem
abbrev Jk:=@Option.map_eq_some_iff
abbrev Jl:=@List.mem_iff_getElem?
abbrev Jm:=@List.nodup_cons
abbrev Jn:=@Nat.lt_succ_iff
abbrev Jo:=@Array.perm_iff_toList_perm
abbrev Jp:=@List.length_eq_zero_iff
abbrev Jq:=@Nat.ble_eq
abbrev Jr:=@List.length_pos_iff
abbrev Js:=@List.mem_filterMap
abbrev Jt:=@Option.isSome_iff_exists
abbrev Ju:=@Bool.and_eq_true_iff
abbrev Jv:=@List.mem_iff_getElem
abbrev Jw:=@Array.getElem?_eq_some_iff
abbrev Jx:=@List.find?_range_eq_none
abbrev Jy:=@List.append_eq_nil_iff
abbrev Jz:=List (Int×Int)
abbrev J0:=List Jz
namespace L2
abbrev j5:=Sum Int Str
def W2:j5->Value->Bool
 | .inl k,v=>Value.isInt k v
 | .inr x,v=>Value.isStrOf x v
def nq (w:World):j5->Int
 | .inl k=>hashInt k
 | .inr x=>hashStr w x
def KL:∀{k:j5} {v:Value},W2 k v=true->(∃i t,k=Uf i/\v=Value.int i t)\/(∃x t,k=UL x/\v=Value.str x t)
 | .inl i,v,h=>by
  obtain⟨t,e⟩:=Value.isInt_shape h;exact .inl ⟨i,t,rfl,e⟩
 | .inr x,v,h=>by
  obtain⟨t,e⟩:=Value.isStrOf_shape h;exact .inr ⟨x,t,rfl,e⟩
def Ey (i)(t):W2 (.inl i) (.int i t)=true:=by simp[W2,Value.isInt]
def M5 (x)(t):W2 (.inr x) (.str x t)=true:=by simp[W2,Value.isStrOf]
def M6 (a b):decide ((Uf a:j5)=Uf b)=(a == b):=()
def M7 (a b):decide ((UL a:j5)=UL b)=decide (a=b):=()
def M8 (a)(b):decide ((Uf a:j5)=UL b)=false:=rfl
def M9 (a)(b):decide ((UL a:j5)=Uf b)=false:=rfl
def Qz (prog:Program)(w:World):PySem.KeyKind prog w j5 where
 is:=W2
 hash:=nq w
 inj:=λv a b g f=>by
  rcases KL g with ⟨i,t,rfl,rfl⟩|⟨x,t,rfl,rfl⟩
  .rcases KL f with ⟨j,u,rfl,e⟩|⟨y,u,rfl,e⟩
   .injection e with e1 _;rw[e1]
   .exact nomatch e
  .rcases KL f with ⟨j,u,rfl,e⟩|⟨y,u,rfl,e⟩
   .exact nomatch e
   .injection e with e1 _;rw[e1]
 byValue:=λk v h=>by
  rcases KL h with ⟨i,t,rfl,rfl⟩|⟨x,t,rfl,rfl⟩<;>rfl
 pyHash:=λc h=>by
  rcases KL c with ⟨i,t,rfl,rfl⟩|⟨x,t,rfl,rfl⟩
  .exact wpAny_pyHash_int h
  .exact wpAny_pyHash_str h
 eqBool:=λl c h=>by
  rcases KL l with ⟨i,t,rfl,rfl⟩|⟨x,t,rfl,rfl⟩
  .rcases KL c with ⟨j,u,rfl,rfl⟩|⟨y,u,rfl,rfl⟩
   .rw[M6] at h;exact wpAny_eqBool_int h
   .rw[M8] at h;exact SeqAt.EqAt.int_str i t y u _ _ _ _ h
  .rcases KL c with ⟨j,u,rfl,rfl⟩|⟨y,u,rfl,rfl⟩
   .rw[M9] at h;exact SeqAt.EqAt.str_int x t j u _ _ _ _ h
   .rw[M7] at h;exact wpAny_eqBool_str h
 «strs»:=λk x t v h=>by
  rcases KL h with ⟨i,u,rfl,e⟩|⟨y,u,rfl,e⟩
  .exact nomatch e
  .injection e with e1 _
   subst e1;cases v<;>rfl
def MA (prog)(w)(i)(t):(Qz prog w).is (.inl i) (.int i t)=true:=Ey i t
def MB (prog)(w)(x)(t):(Qz prog w).is (.inr x) (.str x t)=true:=M5 x t
inductive V where
 |non|bl (b:Bool)|int (i:Int)|str (x:Str)|byt (b:Array UInt8)|flt (b:UInt64)|ref (a:Addr)|ty (n:String)
 deriving DecidableEq
abbrev _root_.YE:=List V
abbrev _root_.YF:=Option V
def jp:V->Value->Prop
 | .non,u=>u=Value.none
 | .bl b,u=>u=Value.bool b
 | .int i,u=>∃t,u=Value.int i t
 | .str x,u=>∃t,u=Value.str x t
 | .byt b,u=>∃t,u=Value.bytes b t
 | .flt b,u=>∃t,u=Value.float b t
 | .ref a,u=>u=Value.ref a
 | .ty n,u=>u=Value.type n
abbrev jo:YE->List Value->Prop:=Paired jp
theorem jo.length {a:YE}{b:Yf}(r:jo a b):a.length=b.length:=Paired.length r
theorem jo.get:∀{a:YE} {b:Yf} {i:Nat} {x:V},jo a b->a[i]? = some x->∃u,b[i]? = some u/\jp x u
 |_,_,_,_,.nil,e=>by simp at e
 |_,_,0,_,.cons r _,e=>by simp_all
 |_,_,i+1,x,.cons _ t,e=>by
  obtain⟨u,c,f⟩:=jo.get t (by simpa using e)
  simp_all
theorem jo.set {x:V}{u:Value}(r:jp x u):∀{a:YE} {b:Yf} i,jo a b->jo (a.set i x) (b.set i u)
 |_,_,_,.nil=>.nil
 |_,_,0,.cons _ t=>.cons r t
 |_,_,i+1,.cons q t=>.cons q (jo.set r i t)
def jo.append:∀{a ys:YE} {b c:Yf},jo a b->jo ys c->jo (a++ys) (b++c):=λh s=>by
 induction h with
 |nil=>exact s
 |cons r _ e=>exact .cons r e
def jo.none_of:∀{a:YE} {b:Yf} {i:Nat},jo a b->a[i]? = none->b[i]? = none:=λ{a b i} r e=>by
 have c:=r.length
 simp_all
def xm:YF->Option Value->Prop
 |some v,some u=>jp v u
 |none,none=>True
 |_,_=>False
def KV {κ: Type}:List (κ × V)->List (κ × Value)->Prop:=Paired λ(p:κ × V) (q:κ × Value)=>p.1=q.1/\jp p.2 q.2
def kV:j5->V
 | .inl i=>.int i
 | .inr x=>.str x
inductive HO where
 |lst (xs:YE)
 |tup (xs:YE)
 |dK (kvs:List (j5×V))|dT (kvs:List (List j5×V))
 |set (S:Int->Bool) (n:Nat)
 |ins (C dx:Addr) (fs:List (Str×V))
 |own (x:Addr)
 |xd (fs:List (Str×V))
 |met (f x:Addr)
 |rng (lo hi:Int)
 |frz (o:Obj) (u:HO)
 |tbl (ps:Yn)
 |ext (φ: Heap->Prop)
abbrev Hp:=Addr->Option HO
def upd (H:Hp)(a:Addr)(o:HO):Hp:=λb=>if b=a then some o else H b
def JL {H:Hp}{a:Addr}{o:HO}:upd H a o a=some o:=by simp_all [upd]
def JI {H:Hp}{a b:Addr}{o:HO}(h:b≠a):upd H a o b=H b:=by simp_all [upd]
def Kb {H:Hp}{a b:Addr}{o:HO}(h:H a=some o)(c:H b=none):a≠b:=()
section
variable (P:Program)(w:World)
def yd (H:Hp)(h:Heap)(a:Addr):HO->Prop
 | .lst b=>b.length<=sizeLine/\∃(its:Yf) (n:Nat),jo b its/\h.get? a=some { cls:=.type "list",data:=.seq its.toArray n }
 | .tup b=>(b.length<=sizeLine/\∃o,h.get? a=some o/\o.dict=none)/\∃its:Yf,jo b its/\IsTup h a its.toArray
 | .dK kvs=>kvs.length<=sizeLine/\(a == sysModules)=false/\∃c,KV kvs c/\h.DictOf (Qz P w) a c
 | .dT kvs=>kvs.length<=sizeLine/\(a == sysModules)=false/\∃b:List (List j5×Addr×Value),
  Paired (λ(p:List j5×V) (q:List j5×Addr×Value)=>p.1=q.1/\H q.2.1=some (.tup (p.1.map kV))/\jp p.2 q.2.2) kvs b /\
  ∃o es ep,h.get? a=some o/\o.ExactDict/\o.data=.dict es ep/\es.toList=b.map (entryOfKey (tupleKind (Qz P w)))/\(b.map (·.1)).Nodup
 | .set S n=>h.SetOf (intKind P w) a S n
 | .ins C dx fs=>H dx=some (.own a)/\fs.length<=1000/\dx≠a/\h.get? a=some (W.instObj C dx) /\
  ∃mA,h.Ns1 dx mA/\(∀f,xm (fs.lookup f) (mA f))/\PySem.Within mA (fs.map (·.1))
 | .own _=>∃o,h.get? a=some o
 | .xd fs=>∃mA,h.Ns1 a mA/\∀f,xm (fs.lookup f) (mA f)
 | .rng lo hi=>∃t u v,h.get? a=some { cls:=.type "range",data:=.fields #[.int lo t,.int hi u,.int 1 v] }
 | .frz o u=>h.get? a=some o/\yd H h a u
 | .tbl ps=>h.get? a=some { cls:=.none,data:=.fields ps }
 | .met f x=>h.get? a=some (W.methodObj (.ref f) (.ref x))
 | .ext φ => φ h/\(∃o,h.get? a=some o)/\∀e g:Heap,φ e->(∀o,e.get? a=some o->g.get? a=some o) -> φ g
def qQ (H:Hp)(h:Heap):Prop:=∀a o,H a=some o->yd P w H h a o
end
section
variable {P:Program}{w:World}{H H':Hp}{h h':Heap}{a:Addr}{o:HO}
theorem yd.lt (x:yd P w H h a o):a<h.objs.size:=by
 cases o with
 |lst c=>obtain⟨_,_,_,_,e⟩:=x;exact Zk e
 |tup c=>obtain⟨_,_,_,p⟩:=x;exact p.lt
 |dK b=>obtain⟨_,_,_,_,o,_,_,e,_⟩:=x;exact Zk e
 |dT b=>obtain⟨_,_,_,_,o,_,_,e,_⟩:=x;exact Zk e
 |set S n=>obtain⟨o,_,_,_,e,_⟩:=x;exact Zk e
 |ins C g fs=>exact Zk x.2.2.2.1
 |own y=>obtain⟨_,e⟩:=x;exact Zk e
 |xd fs=>obtain⟨_,⟨_,_,_,e,_⟩,_⟩:=x;exact Zk e
 |rng lo i=>obtain⟨_,_,_,e⟩:=x;exact Zk e
 |frz j u=>exact Zk x.1
 |tbl ps=>exact Zk (x)
 |met f y=>exact Zk (x)
 |ext φ => obtain⟨_,⟨_,e⟩,_⟩:=x;exact Zk e
def xG {α β: Type}{F G:α -> β -> Prop}:∀{l₁:List α} {l₂:List β},Paired F l₁ l₂->(∀a b,F a b->G a b)->Paired G l₁ l₂:=λh f=>by
 induction h with
 |nil=>exact .nil
 |cons r _ c=>exact .cons (f _ _ r) c
def yd.stay (x:yd P w H h a o)(k:∀b u,(b=a\/H b=some (.own a))->h.get? b=some u->h'.get? b=some u)
 (m:∀b,H b=some (.own a)->H' b=some (.own a)) (E:∀b i,H b=some (.tup i)->H' b=some (.tup i)):yd P w H' h' a o:=by
 induction o with
 |lst i=>obtain⟨z,its,n,r,e⟩:=x;exact⟨z,its,n,r,k _ _ (.inl rfl) e⟩
 |tup i=>obtain⟨⟨z,j,F,dd⟩,its,r,g,e,c⟩:=x;exact⟨(),its,r,g,k _ _ (.inl rfl) e,c⟩
 |dK l=>have ⟨z,y,s,r,g,es,ep,e,c⟩:=x;exact⟨z,y,s,r,g,es,ep,k _ _ (.inl rfl) e,c⟩
 |dT l =>
  obtain⟨z,y,i,r,g,es,ep,e,c⟩:=x;exact⟨z,y,i,xG r (),g,es,ep,k _ _ (.inl rfl) e,c⟩
 |set S n=>have ⟨g,es,ep,t,e,c⟩:=x;exact⟨g,es,ep,t,k _ _ (.inl rfl) e,c⟩
 |ins C G fs =>
  obtain⟨d,z,ne,e,mA,⟨j,es,ep,A,c⟩,r⟩:=x;exact⟨m _ d,z,ne,k _ _ (.inl rfl) e,mA,⟨j,es,ep,k _ _ (.inr d) A,c⟩,r⟩
 |own y=>have ⟨g,e⟩:=x;exact⟨g,k _ _ (.inl rfl) e⟩
 |xd fs=>obtain⟨mA,⟨j,es,ep,e,c⟩,r⟩:=x;exact⟨mA,⟨j,es,ep,k _ _ (.inl rfl) e,c⟩,r⟩
 |rng lo I=>have ⟨t,u,v,e⟩:=x;exact⟨t,u,v,k _ _ (.inl rfl) e⟩
 |frz g u B=>exact⟨k _ _ (.inl rfl) x.1,B x.2⟩
 |tbl ps =>
  exact k a _ (.inl rfl) x
 |met f y =>
  exact k a _ (.inl rfl) x
 |ext φ => have ⟨p,⟨o,e⟩,st⟩:=x;exact⟨st _ _ p λo q=>k _ _ (.inl rfl) q,⟨o,k _ _ (.inl rfl) e⟩,st⟩
theorem qQ.lt (x:qQ P w H h)(e:H a=some o):a<h.objs.size:=(x a o e).lt
def qQ.fresh (x:qQ P w H h)(e:h.objs.size<=a):H a=none:=by
 cases q:H a with
 |none=>rfl
 |some u=>exact Zn (Zg (x.lt q) e) (Zy _)
def qQ.kept (x:qQ P w H h)(k:∀b u,h.get? b=some u->h'.get? b=some u):qQ P w H h':=λa o e =>
 (x a o e).stay () (λ_ q=>q) λ_ _ q=>q
def qQ.laid (x:qQ P w H h)(k:∀b u,h.get? b=some u->h'.get? b=some u)(hp:h.objs.size<=a)(new:yd P w (upd H a o) h' a o):qQ P w (upd H a o) h':=λb u e=>by
 have f:=x.fresh hp;by_cases g:b=a
 .simp_all [JL]
 .rw[JI g] at e;exact(x b u e).stay () (λc q=>by rwa [JI (Kb q f)]) λc i q=>by rwa [JI (Kb q f)]
end
def Rd (H:Hp)(a:Addr)(u:HO):Prop:=H a=some u\/∃o,H a=some (.frz o u)
def Rd.ok {P:Program}{w:World}{H:Hp}{h:Heap}{a:Addr}{u:HO}(r:Rd H a u)(x:qQ P w H h):yd P w H h a u:=by
 rcases r with r|⟨o,r⟩
 .exact x a u r
 .obtain⟨_,q⟩:=x a _ r;exact q
def hJ:Option HO->Prop
 |some (.lst _)=>True
 |some (.dK _)=>True
 |some (.dT _)=>True
 |some (.set _ _)=>True
 |some (.ins _ _ _)=>True
 |some (.ext _)=>True
 |_=>False
section
variable {P:Program}{w:World}{H:Hp}{h h':Heap}{x e:Addr}{o':HO}
def qQ.write (ok:qQ P w H h)(l:hJ (H x))(o:e=x\/H e=some (.own x))(k:∀b u,b≠e->h.get? b=some u->h'.get? b=some u)(i:∃u,h'.get? e=some u)
 (new:yd P w (upd H x o') h' x o'):qQ P w (upd H x o') h':=λb u q=>by
 have a:∀c y,H c=some (.own y)->c≠x:=λc y r z=>by subst z;rwa [r] at l
 have f:∀c g,H c=some (.tup g)->c≠x:=λc g r z=>by subst z;rwa [r] at l
 by_cases n:b=x
 .simp_all [JL]
 .rw[JI n] at q;by_cases j:b=e
  .have m:H b=some (.own x):=by
    simp_all
   rw[q] at m;cases m;obtain⟨v,p⟩:=i;exact⟨v,by rwa [j]⟩
  .refine(ok b u q).stay (λc v s r=>k c v ?_ r) (λc r=>by rwa [JI (a c b r)]) λc g r=>by rwa [JI (f c g r)]
   grind
end
structure Un (fs ex:Yl)(H H':Hp)(h h':Heap):Prop where
 keep:∀b o,h.get? b=some o->H b=none->b∉fs->b∉ex->h'.get? b=some o
 slot:∀b o,h.get? b=some o->H b=none->b∈fs->b∉ex->∃sl,h'.get? b=some { o with slots:=sl }
 free:∀b o,h.get? b=some o->H b=none->b∉ex->H' b=none
 there:∀b o,h.get? b=some o->b∉ex->∃o',h'.get? b=some o'
 tups:∀b xs,H b=some (.tup xs)->H' b=some (.tup xs)
 frzs:∀b o u,H b=some (.frz o u)->H' b=some (.frz o u)
 tbls:∀b ps,H b=some (.tbl ps)->∃more,H' b=some (.tbl (ps++more))
section
variable {fs fs' ex ex':Yl}{H H1 H2:Hp}{h h1 h2 h':Heap}{a x e:Addr}{o:HO}
def Un.any (u:Un fs ex H H1 h h1){b:Addr}{c:Obj}(q:h.get? b=some c)(n:H b=none)(f:b∉ex):∃i,h1.get? b=some { c with slots:=i }:=by
 by_cases g:b∈fs
 .exact u.slot b c q n g f
 .exact⟨c.slots,u.keep b c q n g f⟩
def Un.kept (k:∀b u,h.get? b=some u->h'.get? b=some u):Un fs ex H H h h':=
 ⟨(),λb c q _ _ _=>⟨c.slots,k b c q⟩,λ_ _ _ n _=>n,(),λ_ _ q=>q,λ_ _ _ q=>q,λ_ ps q=>⟨#[],by rw[q];simp⟩⟩
theorem Un.refl:Un fs ex H H h h:=Un.kept λ_ _ q=>q
def Un.laid (k:∀b u,h.get? b=some u->h'.get? b=some u)(hp:h.objs.size<=a)(c:H a=none):Un fs ex H (upd H a o) h h' where
 keep:=by grind
 slot:=λb u q _ _ _=>⟨u.slots,k b u q⟩
 free:=λb u q n _=>by rwa [JI (Zi (Zg (Zk q) hp))]
 there:=by grind
 tups:=λb f q=>by rwa [JI (Kb q c)]
 frzs:=λb u f q=>by rwa [JI (Kb q c)]
 tbls:=λb ps q=>⟨#[],by rw[JI (Kb q c),q];simp⟩
def Un.write (f:hJ (H x))(m:e=x\/H e=some (.own x))(k:∀b u,b≠e->h.get? b=some u->h'.get? b=some u)(g:∃u,h'.get? e=some u):Un fs ex H (upd H x o) h h':=by
 have i:∀b,H b=none->b≠x:=λb n z=>by subst z;rwa [n] at f
 have j:∀b,H b=none->b≠e:=by grind
 have c:∀b u,H b=some u->¬hJ (some u)->b≠x:=by grind
 refine⟨(),λb u q n _ _=>⟨u.slots,k b u (j b n) q⟩,λb u q n _=>by rwa [JI (i b n)],λb u q _=>?_,
  λb l q=>by rwa [JI (c b _ q λz=>z)],λb u l q=>by rwa [JI (c b _ q λz=>z)],λb ps q=>⟨#[],by rw[JI (c b _ q λz=>z),q];simp⟩⟩
 grind
end
def trk (h:Heap)(H:Hp):Yl:=(List.range h.objs.size).filter λa=>(H a).isSome
def yB (h:Heap)(H:Hp):Heap:=W.hideAll h (trk h H)
def MC (h)(H):(yB h H).objs.size=h.objs.size:=W.hideAll_size _ _
def ME {h:Heap}{H:Hp}{b:Addr}{o:Obj}(e:h.get? b=some o)(n:H b=none):(yB h H).get? b=some o:=
 W.hideAll_get _ e λa=>by
  have q:=(Jf.mp a).2
  simp_all
def MF {h:Heap}{H:Hp}{b:Addr}{o:Obj}(e:(yB h H).get? b=some o):h.get? b=some o/\H b=none:=by
 have a:=W.of_hideAll (trk h H) e;refine⟨a,?_⟩;cases q:H b with
 |none=>rfl
 |some x =>
  have c:b∈trk h H:=Jf.mpr ⟨Jh.mpr (Zk a),by simp[q]⟩;have z:(yB h H).get? b=none:=W.hideAll_none (trk h H) c
  simp_all
structure Mod (K:W.Frag)(mg:Ye)(base:Heap):Prop where
 kin:K.In base
 glob:base.Ns mainGlobals mg
 blt:∃mb,base.Ns builtinsNs mb/\∀x:Str,x ≠ "__name__" -> mb x=bootBuiltins x
 nolimit:base.NoLimit
structure Cx where
 prog:Program
 w:World
 K:W.Frag
 mg:Ye
 base:Heap
 A:Around
 N:Yk
 s₀:Shared
 H₀:Hp
 env:Env
 outer:List Env
 stack:List Env
 ex:Yl
 fn:Str->Bool
 calm:Bool
 pn:Yb
 xe:Ya
abbrev _root_.YI(X:Cx){α:Type}(m:Sem α):=wpAny (model X.prog X.w) X.A m
abbrev _root_.YJ(P:Program)(w:World)(A:Around){α:Type}(m:Sem α):=wpAny (model P w) A m
abbrev _root_.YK(P:Program)(w:World)(A:Around)(E:Value->Shared->Prop)(s:Shared){α:Type}(m:StateT PyProof.Rows.SortSt Sem α):=PyProof.Rows.wpS (model P w) A E s m
def xh (l:List Env):Yl:=l.filterMap (·.frame)
abbrev Cx.fs (X:Cx):Yl:=xh X.outer
def bW (a:Scope)(x:Str):Prop:=a.names.lookup x=some .local\/a.names.lookup x=some .cell\/a.names.lookup x=some .free
def yG (a:Scope)(x:Str):Prop:=a.names.lookup x=some .local\/a.names.lookup x=some .cell
def rz (env:Env)(h:Heap)(m:Ye)(x:Str)(u:Value):Prop:=
 (env.kindOf x=some .local/\m x=some u)\/((env.kindOf x=some .cell\/env.kindOf x=some .free)/\∃c,env.cells.lookup x=some c/\h.IsCell c (some u))
structure Cx.Ok (X:Cx):Prop where
 mod:Mod X.K X.mg X.base
 kind:X.env.scope.kind=.function
 glob:X.env.globals=mainGlobals
 blt:X.env.builtins=builtinsNs
 above:X.s₀.heap.objs.size<=X.env.locals
 inj:∀x y c,X.env.cells.lookup x=some c->X.env.cells.lookup y=some c->x=y
 has:∀x,(X.env.kindOf x=some .cell\/X.env.kindOf x=some .free)->∃c,X.env.cells.lookup x=some c
 cab:∀x c,X.fn x=true->X.env.cells.lookup x=some c->X.s₀.heap.objs.size<=c
 hd:X.calm=true->X.A.handled=none
 frames:X.A.frames=some X.stack
 stk:X.stack=X.outer\/(X.stack=X.env::X.outer/\X.env.frame=some X.env.locals)
 exf:∀b∈X.ex,b≠X.env.locals/\∀x c,X.env.cells.lookup x=some c->c≠b
 bs:∀b o,X.base.get? b=some o->X.s₀.heap.get? b=some o/\X.H₀ b=none
 bsz:X.base.objs.size<=X.s₀.heap.objs.size
 noex:∀b o,X.base.get? b=some o->b∉X.ex
 exfs:∀b∈X.ex,b∉X.fs
 funs:X.s₀.heap.FunFrames X.base X.outer
 frf:∀b∈X.fs,X.H₀ b=none
structure Inv (X:Cx)(Y:Yb)(Z: List YF)(H:Hp)(s:Shared):Prop where
 ok:X.Ok
 os:s.os=X.s₀.os
 bare:AllBare s.gens
 base:Un X.fs X.ex X.H₀ H X.s₀.heap s.heap
 loc:∃m,s.heap.Ns X.env.locals m/\∀(i:Nat) (x:Str) (v:V),X.N[i]? = some x -> Z[i]? = some (some v)->bW X.env.scope x->∃u,jp v u/\rz X.env s.heap m x u
 cell:∀x c,X.env.cells.lookup x=some c->∃v,s.heap.IsCell c v
 free:H X.env.locals=none
 freeC:∀x c,X.env.cells.lookup x=some c->H c=none
 pin:∀p∈X.pn++Y,s.heap.get? p.1=some p.2/\H p.1=none/\p.1≠X.env.locals/\p.1∉X.fs/\∀v,p.2.data ≠ .cell v
 hok:qQ X.prog X.w H s.heap
 len:Z.length=X.N.length
section
variable {X:Cx}{Y:Yb}{Z: List YF}{H H':Hp}{s:Shared}{h':Heap}
def Cx.Ok.nofr (ok:X.Ok){b:Addr}{o:Obj}(e:X.base.get? b=some o):b∉X.fs:=λa=>by
 have:=(ok.funs.mem a).1
 simp_all
theorem Inv.bs (I:Inv X Y Z H s):∀b o,X.base.get? b=some o->s.heap.get? b=some o/\H b=none:=λb o e =>
 ⟨I.base.keep b o (I.ok.bs b o e).1 (I.ok.bs b o e).2 (I.ok.nofr e) (I.ok.noex b o e),I.base.free b o (I.ok.bs b o e).1 (I.ok.bs b o e).2 (I.ok.noex b o e)⟩
def Inv.bk (I:Inv X Y Z H s):∀b o,X.base.get? b=some o->s.heap.get? b=some o:=λb o e=>(I.bs b o e).1
theorem Inv.mod (I:Inv X Y Z H s):Mod X.K X.mg X.base:=I.ok.mod
def Inv.kIn (I:Inv X Y Z H s):X.K.In s.heap:=I.ok.mod.kin.keeps I.bk
theorem Inv.lt (I:Inv X Y Z H s):X.env.locals<s.heap.objs.size:=let ⟨_,hn,_⟩:=I.loc;hn.lt
theorem Inv.sz (I:Inv X Y Z H s):X.s₀.heap.objs.size<=s.heap.objs.size:=Zh I.ok.above (Zz I.lt)
def Inv.nofs (I:Inv X Y Z H s){a:Addr}(h:s.heap.objs.size<=a):a∉X.fs:=λb=>by
 obtain⟨_,o,c,_⟩:=I.ok.funs.mem b;exact Zn (Zg (Zk c) (Zh I.sz h)) (Zy _)
def Inv.cne (I:Inv X Y Z H s):∀x c,X.env.cells.lookup x=some c->c≠X.env.locals:=λx c e z=>by
 obtain⟨v,o,f,g⟩:=I.cell x c e;obtain⟨m,⟨h,es,ep,a,b,_⟩,_⟩:=I.loc
 simp_all
theorem Inv.funs (I:Inv X Y Z H s):s.heap.FunFrames X.base X.outer:=by
 have all:∀l,(∀b∈xh l,b∈X.fs)->X.s₀.heap.FunFrames X.base l->s.heap.FunFrames X.base l:=by
  intro l
  induction l with
  |nil=>intro _ _;trivial
  |cons env r f =>
   intro hs g;obtain⟨h,⟨L,o,i,j,m,n⟩,p⟩:=g;have a:L∈X.fs:=hs L (by simp_all [xh,UX]);obtain⟨q,e⟩:=I.base.slot L o m (I.ok.frf L a) a λz=>I.ok.exfs L z a;exact⟨h,⟨L,_,i,j,e,n⟩,f (λb c=>hs b (by simp_all [xh,UX])) p⟩
 exact all X.outer (λ_ c=>c) I.ok.funs
theorem Inv.stack (I:Inv X Y Z H s):s.heap.FunFrames X.base X.stack:=by
 rcases I.ok.stk with e|⟨e,hf⟩
 .rw[e];exact I.funs
 .rw[e];have ⟨m,a,_⟩:=I.loc;exact .cons (by rw[I.ok.kind];decide) hf a (Heap.get?_none_of_le (Zh I.ok.bsz I.ok.above)) I.funs
def Inv.stkSub (I:Inv X Y Z H s):∀b∈xh X.stack,b∈X.env.locals::X.fs:=λb a=>by
 rcases I.ok.stk with e|⟨e,hf⟩
 .simp_all
 simp_all [xh]
def Inv.stkFree (I:Inv X Y Z H s):∀b∈xh X.stack,H b=none:=λb hb=>by
 rcases UV.mp (I.stkSub b hb) with e|hb
 .rw[e];exact I.free
 .obtain⟨_,o,a,_⟩:=I.ok.funs.mem hb;exact I.base.free b o a (I.ok.frf b hb) λz=>I.ok.exfs b z hb
def Inv.step {P:Array GenState}{t':Nat}{T:Drawn}{ch:Yl}(I:Inv X Y Z H s)
 (y:∀b∈ch,(b∈X.ex\/X.s₀.heap.objs.size<=b)/\b≠X.env.locals/\(∀x c,X.env.cells.lookup x=some c->c≠b)/\∀p∈X.pn++Y,p.1≠b)
 (keep:∀b o,b≠X.env.locals->b∉X.fs->b∉ch->s.heap.get? b=some o->H b=none->h'.get? b=some o)
 (j:∀b o,b≠X.env.locals->b∈X.fs->b∉ch->s.heap.get? b=some o->H b=none->∃K,h'.get? b=some { o with slots:=K }) (free:∀b o,b∉ch->s.heap.get? b=some o->H b=none->H' b=none)
 (A:∀b o,b∉ch->s.heap.get? b=some o->∃E,h'.get? b=some E)
 (F:∀b t,H b=some (.tup t)->H' b=some (.tup t)) (G:∀b o u,H b=some (.frz o u)->H' b=some (.frz o u)) (Q:∀b ps,H b=some (.tbl ps)->∃more,H' b=some (.tbl (ps++more)))
 (ns:∀m,s.heap.Ns X.env.locals m->h'.Ns X.env.locals m) (L:qQ X.prog X.w H' h') (U:AllBare P):
 Inv X Y Z H' { s with heap:=h',gens:=P,drawn:=T,toks:=t' }:=by
 have J:∀b o,X.s₀.heap.get? b=some o->b≠X.env.locals:=λb o e=>Zi (Zg (Zk e) I.ok.above);have h:∀b o,X.s₀.heap.get? b=some o->b∉X.ex->b∉ch:=λb o e a B=>by
  rcases(y b B).1 with z|z
  .exact a z
  .exact Zn (Zg (Zk e) z) (Zy _)
 have f:∀x c,X.env.cells.lookup x=some c->∀v,s.heap.IsCell c v->h'.IsCell c v:=λx c e v zh=>by
  obtain⟨o,C,M⟩:=zh;have g:c∉ch:=by grind
  by_cases R:c∈X.fs
  .obtain⟨K,q⟩:=j c o (I.cne x c e) R g C (I.freeC x c e);exact⟨_,q,M⟩
  .exact⟨o,keep c o (I.cne x c e) R g C (I.freeC x c e),M⟩
 refine⟨I.ok,I.os,U,⟨λb o e n B a=>?_,λb o e n B a=>?_,λb o e n a=>?_,λb o e a=>?_,λb t e=>F b t (I.base.tups b t e),λb o t e=>G b o t (I.base.frzs b o t e),λb ps e=>?_⟩,?_,λx c e=>?_,?_,λx c e=>?_,λp hp=>?_,L,I.len⟩
 .exact keep b o (J b o e) B (h b o e a) (I.base.keep b o e n B a) (I.base.free b o e n a)
 .obtain⟨K,w⟩:=I.base.slot b o e n B a;obtain⟨N,O⟩:=j b _ (J b o e) B (h b o e a) w (I.base.free b o e n a);exact⟨N,O⟩
 .obtain⟨E,w⟩:=I.base.there b o e a;exact free b E (h b o e a) w (I.base.free b o e n a)
 .obtain⟨E,w⟩:=I.base.there b o e a;exact A b E (h b o e a) w
 .obtain⟨m1,w⟩:=I.base.tbls b ps e
  grind
 .obtain⟨m,hn,hl⟩:=I.loc;refine⟨m,ns m hn,λi x v w O e3=>?_⟩;obtain⟨u,r,l⟩:=hl i x v w O e3;refine⟨u,r,?_⟩;rcases l with l|⟨k,c,e,z⟩
  .exact .inl l
  .exact .inr ⟨k,c,e,f x c e _ z⟩
 .obtain⟨v,z⟩:=I.cell x c e;exact⟨v,f x c e v z⟩
 .obtain⟨m,⟨o,_,_,C,_⟩,_⟩:=I.loc;exact free _ o (λz=>(y _ z).2.1 rfl) C I.free
 .obtain⟨v,o,C,M⟩:=I.cell x c e;exact free c o () C (I.freeC x c e)
 .obtain⟨e,n,ne,S,d⟩:=I.pin p hp;have g:=λz=>(y p.1 z).2.2.2 p hp rfl;exact⟨keep p.1 p.2 ne S g e n,free p.1 p.2 g e n,ne,S,d⟩
def Inv.un {t':Nat}(I:Inv X Y Z H s)(u:Un X.fs [] H H' s.heap h')(c:qQ X.prog X.w H' h'):Inv X Y Z H' { s with heap:=h',toks:=t' }:=have ⟨m,⟨o,es,ep,h,r⟩,_⟩:=id I.loc;have ⟨p,i⟩:=u.any h I.free ();I.step (ch:=[]) () (λb o _ f _ e n=>u.keep b o e n f ()) (λb o _ f _ e n=>u.slot b o e n f ()) (λb o _ e n=>u.free b o e n ()) (λb o _ e=>u.there b o e ()) u.tups u.frzs u.tbls (λq j=>by
 obtain⟨t,es',g,a,l⟩:=j;rw[h] at a;cases a;exact⟨_,es',g,i,l⟩) c I.bare
def Inv.call {l:Array GenState}{t':Nat}{t:Drawn}{ch:Yl}(I:Inv X Y Z H s)(u:Un (xh X.stack) ch H H' s.heap h')(g:qQ X.prog X.w H' h')(v:AllBare l)
 (h:∀b∈ch,(b∈X.ex\/X.s₀.heap.objs.size<=b)/\b≠X.env.locals/\(∀x c,X.env.cells.lookup x=some c->c≠b)/\∀p∈X.pn++Y,p.1≠b):
 Inv X Y Z H' { s with heap:=h',gens:=l,drawn:=t,toks:=t' }:=have ⟨m,⟨o,es,ep,q,r⟩,_⟩:=id I.loc;have ⟨B,i⟩:=u.any q I.free ();I.step h (λb o i w a e n=>u.keep b o e n (λz=>(UV.mp (I.stkSub b z)).elim i w) a) (λb o _ _ a e n=>u.any e n a) (λb o a e n=>u.free b o e n a) (λb o a e=>u.there b o e a) u.tups u.frzs u.tbls (λC y=>by
 obtain⟨E,es',j,f,A⟩:=y;rw[q] at f;cases f;exact⟨_,es',j,i,A⟩) g v
def Inv.turned {t':Nat}{it:Addr}(I:Inv X Y Z H s)(k:∀b o,b≠it->s.heap.get? b=some o->h'.get? b=some o)(i:H it=none)(f:it≠X.env.locals)
 (j:it∈X.ex\/X.s₀.heap.objs.size<=it) (l:∀x c,X.env.cells.lookup x=some c->c≠it) (t:∀p∈X.pn++Y,p.1≠it):Inv X Y Z H { s with heap:=h',toks:=t' }:=by
 refine I.step (ch:=[it]) (λb w=>?_) () (λb o _ _ a e _=>⟨o.slots,k b o (λz=>a (by simp[z])) e⟩) (λ_ _ _ _ n=>n)
  () (λ_ _ e=>e) (λ_ _ _ e=>e) (λb ps e=>⟨#[],by rw[e];simp⟩) (λm g=>?_) (λb u e=>?_) I.bare
 .grind
 .have ⟨o,es,ep,h,r⟩:=g;exact⟨o,es,ep,k _ o (Ne.symm f) h,r⟩
 .refine(I.hok b u e).stay (λc v a q=>k c v ?_ q) (λ_ q=>q) λ_ _ q=>q
  grind
def Inv.tok (I:Inv X Y Z H s)(t):Inv X Y Z H { s with toks:=t }:=I.un Un.refl I.hok
theorem Inv.kept {t':Nat}(I:Inv X Y Z H s)(k:∀b u,s.heap.get? b=some u->h'.get? b=some u):Inv X Y Z H { s with heap:=h',toks:=t' }:=I.un (Un.kept k) (I.hok.kept k)
theorem Inv.laid {a:Addr}{o:HO}{t':Nat}(I:Inv X Y Z H s)(k:∀b u,s.heap.get? b=some u->h'.get? b=some u)(hp:s.heap.objs.size<=a)(new:yd X.prog X.w (upd H a o) h' a o):
 Inv X Y Z (upd H a o) { s with heap:=h',toks:=t' }:=I.un (Un.laid k hp (I.hok.fresh hp)) (I.hok.laid k hp new)
theorem Inv.write {x e:Addr}{o:HO}{t':Nat}(I:Inv X Y Z H s)(c:hJ (H x))(f:e=x\/H e=some (.own x))(k:∀b u,b≠e->s.heap.get? b=some u->h'.get? b=some u)(a:∃u,h'.get? e=some u)
 (new:yd X.prog X.w (upd H x o) h' x o):Inv X Y Z (upd H x o) { s with heap:=h',toks:=t' }:=I.un (Un.write c f k a) (I.hok.write c f k a new)
def Inv.pins_of {Y':Yb}(I:Inv X Y Z H s)(h:∀p∈Y',s.heap.get? p.1=some p.2/\H p.1=none/\p.1≠X.env.locals/\p.1∉X.fs/\∀v,p.2.data ≠ .cell v):Inv X Y' Z H s:=
 ⟨I.ok,I.os,I.bare,I.base,I.loc,I.cell,I.free,I.freeC,λp hp=>(Jb.mp hp).elim (λz=>I.pin p ()) (h p),I.hok,I.len⟩
def Ez {N:Yk}(c:N.Nodup){i j:Nat}{x:Str}(a:N[i]? = some x)(b:N[j]? = some x):i=j:=by
 obtain⟨g,e⟩:=Jc.mp a;obtain⟨h,f⟩:=Jc.mp b;exact(List.getElem_inj c).mp (e.trans f.symm)
def MG {M:Model}{A:Around}{E:Ya}{i:Nat}{x:Str}{v:V}{u:Value}{Q:Unit->YC}(I:Inv X Y Z H s)(hN:X.N.Nodup)(B:X.N[i]? = some x)(l:yG X.env.scope x)(r:jp v u)
 (h:∀s',Inv X Y (Z.set i (some v)) H s'->(∃a,Heap.SameBut a s.heap s'.heap/\(a=X.env.locals\/X.env.cells.lookup x=some a))->Q Yt s') (hf:X.fn x=true\/X.env.scope.names.lookup x=some .local:=by trivial):wpAny M A (storeName X.env x u) Q E s:=by
 obtain⟨m,R,hl⟩:=id I.loc;have J:(X.env.scope.kind == .class||(X.env.scope.kind == .module&&X.env.locals != X.env.globals))=false:=by rw[I.ok.kind];rfl
 have hiσ: i < Z.length:=by rw[I.len];exact(Jc.mp B).1
 have cne:=I.cne;have f:∀{a:Addr} {h':Heap},(∃o,s.heap.get? a=some o/\H a=none)->Heap.SameBut a s.heap h'->qQ X.prog X.w H h':=λ{a h'} ha hs b ob e=>by
  obtain⟨_,_,S⟩:=ha;refine(I.hok b ob e).stay (λc O t q=>(hs.2 c ?_).trans q) (λ_ q=>q) λ_ _ q=>q
  grind
 rcases l with hk|hk
 .refine wpAny_storeName_local hk R (λh' T hs=>?_) J;obtain⟨oL,_,_,U,_⟩:=id R;refine h _ ⟨I.ok,I.os,I.bare,⟨λb o e n C l=>?_,λb o e n C l=>?_,I.base.free,λb o e l=>?_,I.base.tups,I.base.frzs,I.base.tbls⟩,⟨_,T,λj y v' g w e3=>?_⟩,λy c e=>?_,I.free,I.freeC,λp hp=>?_,f ⟨oL,U,I.free⟩ hs,by simpa using I.len⟩ ⟨_,hs,.inl rfl⟩
  .exact(hs.2 b (Zi (Zg (Zk e) I.ok.above))).trans (I.base.keep b o e n C l)
  .obtain⟨sl,g⟩:=I.base.slot b o e n C l;exact⟨sl,(hs.2 b (Zi (Zg (Zk e) I.ok.above))).trans g⟩
  .obtain⟨o',g⟩:=I.base.there b o e l;exact⟨o',(hs.2 b (Zi (Zg (Zk e) I.ok.above))).trans g⟩
  .by_cases F:j=i
   .subst F;rw[B] at g;cases g;rw[UM hiσ] at w;cases w;exact⟨u,r,.inl ⟨hk,()⟩⟩
   .rw[Zx (Ne.symm F)] at w;obtain⟨u',r',q⟩:=hl j y v' g w e3;refine⟨u',r',?_⟩;rcases q with ⟨k,e⟩|⟨k,c,e,z⟩
    .refine .inl ⟨k,?_⟩;have:y≠x:=λe=>F (Ez hN g (e ▸ B));simp[this,e]
    .exact .inr ⟨k,c,e,z.sameBut hs (cne y c e)⟩
  .obtain⟨O,z⟩:=I.cell y c e;exact⟨O,z.sameBut hs (cne y c e)⟩
  .obtain⟨e,n,ne,nf,d⟩:=I.pin p hp;exact⟨(hs.2 p.1 ne).trans e,n,ne,nf,d⟩
 .have G:X.fn x=true:=by
   rcases hf with z|z
   .exact z
   .rw[z] at hk;cases hk
  obtain⟨c,t⟩:=I.ok.has x (.inl hk);obtain⟨O,z⟩:=I.cell x c t;refine wpAny_storeName_cell I.ok.kind hk t z (λh' K hs=>?_);obtain⟨oc,L,hocd⟩:=id z;refine h { s with heap:=h' } ⟨I.ok,I.os,I.bare,⟨λb o e n C l=>?_,λb o e n C l=>?_,I.base.free,λb o e l=>?_,I.base.tups,I.base.frzs,I.base.tbls⟩,⟨m,R.sameBut hs (Ne.symm (cne x c t)),λj y v' g w e3=>?_⟩,λy P e=>?_,I.free,I.freeC,λp hp=>?_,f ⟨oc,L,I.freeC x c t⟩ hs,by simpa using I.len⟩ ⟨c,hs,.inr t⟩
  .exact(hs.2 b (Zi (Zg (Zk e) (I.ok.cab x c G t)))).trans (I.base.keep b o e n C l)
  .obtain⟨sl,g⟩:=I.base.slot b o e n C l;exact⟨sl,(hs.2 b (Zi (Zg (Zk e) (I.ok.cab x c G t)))).trans g⟩
  .obtain⟨o',g⟩:=I.base.there b o e l;exact⟨o',(hs.2 b (Zi (Zg (Zk e) (I.ok.cab x c G t)))).trans g⟩
  .by_cases F:j=i
   .subst F;rw[B] at g;cases g;rw[UM hiσ] at w;cases w;exact⟨u,r,.inr ⟨.inl hk,c,t,K⟩⟩
   .rw[Zx (Ne.symm F)] at w;obtain⟨u',r',q⟩:=hl j y v' g w e3;refine⟨u',r',?_⟩;rcases q with q|⟨k,P,e,z'⟩
    .exact .inl q
    .refine .inr ⟨k,P,e,z'.sameBut hs ?_⟩;rintro rfl;exact F (Ez hN g (I.ok.inj _ _ _ e t ▸ B))
  .by_cases N:P=c
   .subst N;exact⟨_,K⟩
   .obtain⟨w2,z2⟩:=I.cell y P e;exact⟨w2,z2.sameBut hs N⟩
  .obtain⟨e,n,ne,nf,d⟩:=I.pin p hp;refine⟨(hs.2 p.1 ?_).trans e,n,ne,nf,d⟩;intro q;rw[q,L] at e;have q':=Zqi e;exact d O (by rwa [<- q'])
def Aa {M:Model}{A:Around}{E:Ya}{i:Nat}{x:Str}{v:V}{u:Value}{Q:Unit->YC}(I:Inv X Y Z H s)(a:X.N.Nodup)(b:X.N[i]? = some x)(c:yG X.env.scope x)(r:jp v u)
 (h:∀s',Inv X Y (Z.set i (some v)) H s'->Q Yt s') (e:X.fn x=true\/X.env.scope.names.lookup x=some .local:=by trivial):wpAny M A (storeName X.env x u) Q E s:=
 MG I a b c r (λs' f _=>h s' f) e
def Inv.call' {s':Shared}{ch:Yl}(I:Inv X Y Z H s)(f:s'.os=s.os)(u:Un (xh X.stack) ch H H' s.heap s'.heap)(a:qQ X.prog X.w H' s'.heap)(g:AllBare s'.gens)
 (e:∀b∈ch,(b∈X.ex\/X.s₀.heap.objs.size<=b)/\b≠X.env.locals/\(∀x c,X.env.cells.lookup x=some c->c≠b)/\∀p∈X.pn++Y,p.1≠b):Inv X Y Z H' s':=by
 obtain⟨h',h,i,t',j⟩:=s';subst f;exact I.call u a g e
end
abbrev XK:=Value->Option Addr->Hp->Prop
abbrev St:=List YF
abbrev VK:=V->Hp->Prop
abbrev TE:=St->Hp->VK->Prop
abbrev TT:=St->Hp->(Bool->Hp->Prop)->Prop
abbrev TA:=St->Hp->(YE->Hp->Prop)->Prop
structure Ends where
 nx:St->Hp->Prop
 rt:VK
 bk:St->Hp->Prop:=λ_ _=>False
 ct:St->Hp->Prop:=λ_ _=>False
abbrev TS:=Ends->St->Hp->Prop
def EP (X:Cx)(Y:Yb)(Z: St)(Q:VK)(u:Value)(s':Shared):Prop:=∃v a,Inv X Y Z a s'/\jp v u/\Q v a
def TP (X:Cx)(Y:Yb)(Z: St)(Q:Bool->Hp->Prop)(b:Bool)(s':Shared):Prop:=∃a,Inv X Y Z a s'/\Q b a
def AP (X:Cx)(Y:Yb)(Z: St)(Q:YE->Hp->Prop)(c:Yf)(s':Shared):Prop:=∃a b,Inv X Y Z b s'/\jo a c/\Q a b
def SP (X:Cx)(Y:Yb)(D:Ends)(f:Flow)(s':Shared):Prop:=
 match f with
 | .next=>∃b a,Inv X Y b a s'/\D.nx b a
 | .brk=>∃b a,Inv X Y b a s'/\D.bk b a
 | .cont=>∃b a,Inv X Y b a s'/\D.ct b a
 | .ret u=>∃v b a,Inv X Y b a s'/\jp v u/\D.rt v a
def PE (X:Cx)(e:Expr)(t:TE):Prop:=
 ∀(Y:Yb) (s:Shared) (Z: St) (H:Hp) (Q:VK),Inv X Y Z H s->t Z H Q->YI X (eval e X.env) (EP X Y Z Q) X.xe s
def PT (X:Cx)(e:Expr)(t:TT):Prop:=
 ∀(Y:Yb) (s:Shared) (Z: St) (H:Hp) (Q:Bool->Hp->Prop),Inv X Y Z H s->t Z H Q->YI X (isTrue e X.env (eval e X.env)) (TP X Y Z Q) X.xe s
def PW (X:Cx)(e:Expr)(t:TT):Prop:=
 ∀(a:Sem Value) (Y:Yb) (s:Shared) (Z: St) (H:Hp) (Q:Bool->Hp->Prop),Inv X Y Z H s->t Z H Q->YI X (isTrue e X.env a) (TP X Y Z Q) X.xe s
def fZ {X:Cx}{e:Expr}{t:TT}(h:PW X e t):PT X e t:=h _
def PA (X:Cx)(es:Ym)(t:TA):Prop:=
 ∀(a:Pos) (Y:Yb) (s:Shared) (Z: St) (H:Hp) (Q:YE->Hp->Prop),Inv X Y Z H s->t Z H Q->YI X (spliced (backTo a (starEach es X.env))) (AP X Y Z Q) X.xe s
def PS (X:Cx)(st:Stmt)(t:TS):Prop:=
 ∀(Y:Yb) (s:Shared) (Z: St) (H:Hp) (D:Ends),Inv X Y Z H s->t D Z H->YI X (exec st X.env) (SP X Y D) X.xe s
def qO (X:Cx)(st:List Stmt)(t:TS):Prop:=
 ∀(Y:Yb) (s:Shared) (Z: St) (H:Hp) (D:Ends),Inv X Y Z H s->t D Z H->YI X (execs st X.env) (SP X Y D) X.xe s
def jH {α: Type}{t:Sem α}{Q b: α -> YC}{M:Model}{A:Around}{E:Ya}{s:Shared}(h:wpAny M A t Q E s)(c:∀a s,Q a s->b a s):wpAny M A t b E s:=Zc h c λ_ _ x=>x
section
variable {X:Cx}
def xy (i:Nat):TE:=λZ H Q=>∃v,Z[i]? = some (some v)/\Q v H
def tC (v:V):TE:=λ_ H Q=>Q v H
def MI {i:Nat}{x:Str}{f:Pos}(o:X.N[i]? = some x)(p:bW X.env.scope x)(g:(x == ("__debug__" : Str))=false:=by decide)(j:(x == ("__classdict__" : Str))=false:=by decide):PE X (.Name x f) (xy i):=by
 intro Y s Z H Q I h;obtain⟨v,e,h⟩:=h;obtain⟨m,q,t⟩:=I.loc;obtain⟨u,r,l⟩:=t i x v o e p;have b:EP X Y Z Q u s:=⟨v,H,I,r,h⟩;rcases l with ⟨hk,w⟩|⟨hk,c,n,a⟩
 .exact wpAny_Name (wpAny_loadName_local I.ok.kind hk q w b) g
 .rcases hk with hk|hk
  .exact wpAny_Name (wpAny_loadName_cell I.ok.kind hk n a b) g
  .exact wpAny_Name (wpAny_loadName_free I.ok.kind hk n a b j) g
def MJ {i j pos}:PE X (.Constant (.int i) j pos) (tC (.int i)):=λ_ _ _ H _ I h=>wpAny_Constant_int ⟨.int i,H,I.tok _,⟨_,rfl⟩,h⟩
def ki {b j pos}:PE X (.Constant (.bool b) j pos) (tC (.bl b)):=λ_ _ _ H _ I h=>Constant_bool ⟨.bl b,H,I,rfl,h⟩
def MK {j pos}:PE X (.Constant .none j pos) (tC .non):=λ_ _ _ H _ I h=>Constant_none ⟨.non,H,I,rfl,h⟩
def E1 {x j pos}:PE X (.Constant (.str x) j pos) (tC (.str x)):=λ_ _ _ H _ I h=>Calls.Constant_str ⟨.str x,H,I.tok _,⟨_,rfl⟩,h⟩
def Gl (X:Cx)(x:Str):Prop:=X.env.kindOf x=some .globalImplicit
def XE {E:Ya}{Y:Yb}{s:Shared}{Z: St}{H:Hp}{x:Str}{u:Value}{a:Pos}{Q:Ya}(I:Inv X Y Z H s)(b:Gl X x)(c:X.mg x=some u)(h:Q u s)
 (e:(x == ("__debug__" : Str))=false:=by decide):YI X (eval (.Name x a) X.env) Q E s:=
 Calls.Name_function_global I.ok.kind b (Calls.loadGlobal_global (by rw[I.ok.glob];exact I.mod.glob.keeps I.bk) c h) e
def WY {E:Ya}{Y:Yb}{s:Shared}{Z: St}{H:Hp}{x:Str}{u:Value}{a:Pos}{Q:Ya}(I:Inv X Y Z H s)(b:Gl X x)(c:X.mg x=none)(e:bootBuiltins x=some u)(h:Q u s)
 (f:x ≠ "__name__" := by decide) (g:(x == ("__debug__" : Str))=false:=by decide):YI X (eval (.Name x a) X.env) Q E s:=by
 obtain⟨l,i,j⟩:=I.mod.blt;exact Calls.Name_function_global I.ok.kind b (Calls.loadGlobal_builtin (by rw[I.ok.glob];exact I.mod.glob.keeps I.bk) c (by rw[I.ok.blt];exact i.keeps I.bk) ((j x f).trans e) h) g
variable {a b:Expr}{ta tb:TE}{pos:Pos}
def PC (X:Cx)(op:CmpOp)(a b:Expr)(t:TE):Prop:=
 ∀(Y:Yb) (s:Shared) (Z: St) (H:Hp) (Q:VK),Inv X Y Z H s->t Z H Q ->
  YI X (eval a X.env) (λv s₁=>YI X (eval b X.env) (λu s₂=>YI X (compareOp op v u) (EP X Y Z Q) X.xe s₂) X.xe s₁) X.xe s
def ML (b){op:CmpOp}(h:op ≠ .In)(c:op ≠ .NotIn):behindInMarks op b=false:=by
 cases b<;>first|rfl|(show(_&&(_||_)&&_)=false;simp_all)
def E2 (ta:TE):TE:=λZ H Q=>ta Z H λx c=>Q (.bl (!decide (x=.non))) c
def jp.none_iff {x:V}{v:Value}(r:jp x v):(v == Value.none)=decide (x=.non):=by
 cases x with
 |non=>cases r;rfl
 |bl _=>cases r;rfl
 |int _=>obtain⟨t,rfl⟩:=r;rfl
 |str _=>obtain⟨t,rfl⟩:=r;rfl
 |byt _=>obtain⟨t,rfl⟩:=r;rfl
 |flt _=>obtain⟨t,rfl⟩:=r;rfl
 |ref _=>cases r;rfl
 |ty _=>cases r;rfl
def MM {j pos'}(c:PE X a ta):PC X .IsNot a (.Constant .none j pos') (E2 ta):=λY s Z H Q I h=>jH (c Y s Z H _ I h) λv l ⟨x,e,f,g,i⟩=>(Constant_none (isnot_none_gen ⟨.bl _,e,f,by rw[g.none_iff];rfl,i⟩))
def tB (t:TE):TT:=λZ H Q=>t Z H λx e=>∃c,x=.bl c/\Q c e
def E3 {op:CmpOp}{t:TE}(h:PC X op a b t)(e:behindInMarks op b=false:=by first|exact ML _ (by decide) (by decide)|rfl):PT X (.Compare a [op] [b] pos) (tB t):=by
 intro Y s Z H Q I f;refine wpAny_isTrue_Compare1 (jH (h Y s Z H _ I f) λv n e=>jH e λu o g=>jH g λc p ⟨x,i,j,l,m⟩=>?_) e;obtain⟨d,rfl,q⟩:=m;cases l;exact wpAny_truthy_bool ⟨i,j,q⟩
def MN {e:Expr}{t:TE}(h:PE X e t)(f:∀c,isTrue e X.env c=(do let v <- c;standAt e.pos;holding [v] (truthy v)):=by intro _;rfl):PT X e (tB t):=by
 intro Y s Z H Q I g;refine isTrue_plain (jH (h Y s Z H _ I g) λv n ⟨x,i,j,l,m⟩=>?_) (f _);obtain⟨d,rfl,q⟩:=m;cases l;exact wpAny_truthy_bool ⟨i,j,q⟩
variable {tA tB':TT}{rest:Ym}
def m7 (t u:TT):TT:=λZ H Q=>t Z H λc e=>if c=true then u Z e Q else Q false e
def pc (t u:TT):TT:=λZ H Q=>t Z H λc e=>if c=true then Q true e else u Z e Q
def mu (t:TT):TT:=λZ H Q=>t Z H λc e=>Q (!c) e
def MO (f:PT X a tA):PW X (.BoolOp .And [a] pos) tA:=by
 intro g Y s Z H Q I h;refine isTrue_and (jH (f Y s Z H Q I h) λc i e=>?_)
 grind[isTrue_and_nil]
def MP (f:PT X a tA):PW X (.BoolOp .Or [a] pos) tA:=by
 intro g Y s Z H Q I h;refine isTrue_or (jH (f Y s Z H Q I h) λc i e=>?_)
 grind[isTrue_or_nil]
def MQ (i:PT X a tA)(j:PW X (.BoolOp .And (b::rest) pos) tB'):PW X (.BoolOp .And (a::b::rest) pos) (m7 tA tB'):=by
 intro l Y s Z H Q I h;refine isTrue_and (jH (i Y s Z H _ I h) λc m ⟨e,f,g⟩=>?_);cases c with
 |true=>exact j l Y m Z e Q f g
 |false=>exact⟨e,f,g⟩
def ke (i:PT X a tA)(j:PW X (.BoolOp .Or (b::rest) pos) tB'):PW X (.BoolOp .Or (a::b::rest) pos) (pc tA tB'):=by
 intro l Y s Z H Q I h;refine isTrue_or (jH (i Y s Z H _ I h) λc m ⟨e,f,g⟩=>?_);cases c with
 |true=>exact⟨e,f,g⟩
 |false=>exact j l Y m Z e Q f g
def MS (e:PT X a tA):PT X (.UnaryOp .Not a pos) (mu tA):=λY s Z H Q I h=>isTrue_not (e Y s Z H (λc f=>Q (!c) f) I h)
def uH (ta tb:TE):TE:=λZ H Q=>ta Z H λx e=>∃c,x=.bl c/\if c=true then tb Z e Q else Q (.bl false) e
def MT {op}{t:TE}(h:PE X a t):PE X (.BoolOp op [a] pos) t:=λY s Z H Q I c=>BoolOp_one (h Y s Z H Q I c)
def MU (i:PE X a ta)(j:PE X (.BoolOp .And (b::rest) pos) tb):PE X (.BoolOp .And (a::b::rest) pos) (uH ta tb):=by
 intro Y s Z H Q I h;refine BoolOp_and (jH (i Y s Z H _ I h) λv l ⟨x,f,g,m,e⟩=>?_);obtain⟨c,rfl,e⟩:=e;cases m;refine wpAny_truthy_bool ?_;cases c with
 |true=>exact j Y l Z f Q g e
 |false=>exact⟨.bl false,f,g,rfl,e⟩
end
def qp (K:W.Frag)(H:Hp)(a:Addr)(b:YE):Prop:=
 Rd H a (.lst b) \/
  ∃(o:Obj) (its:Yn) (n:Nat),K.lookup a=some o/\o.cls=.type "list" /\ o.dict=none/\o.data=.seq its n/\its.size<=sizeLine/\jo b its.toList
def yE (K:W.Frag)(H:Hp)(a:Addr)(b:YE):Prop:=
 Rd H a (.tup b) \/
  ∃(o:Obj) (its:Yn) (n:Nat),K.lookup a=some o/\o.cls=.type "tuple" /\ o.data=.seq its n/\its.size<=sizeLine/\jo b its.toList
def rl:Value->YF
 | .none=>some .non
 | .bool b=>some (.bl b)
 | .int i _=>some (.int i)
 | .str x _=>some (.str x)
 | .bytes b _=>some (.byt b)
 | .float b _=>some (.flt b)
 | .ref a=>some (.ref a)
 | .type n=>some (.ty n)
 |_=>none
def jp.abs {x:V}{u:Value}(r:jp x u):rl u=some x:=by
 cases x with
 |non=>cases r;rfl
 |bl _=>cases r;rfl
 |int _=>obtain⟨t,rfl⟩:=r;rfl
 |str _=>obtain⟨t,rfl⟩:=r;rfl
 |byt _=>obtain⟨t,rfl⟩:=r;rfl
 |flt _=>obtain⟨t,rfl⟩:=r;rfl
 |ref _=>cases r;rfl
 |ty _=>cases r;rfl
def jp.inj {x y:V}{u:Value}(r:jp x u)(q:jp y u):x=y:=Zqi (r.abs.symm.trans q.abs)
theorem jo.inj:∀{a ys:YE} {b:Yf},jo a b->jo ys b->a=ys:=λ{a ys b} g h=>by
 induction g generalizing ys with
 |nil=>cases h;rfl
 |cons r _ c =>
  cases h with
  |cons e t'=>rw[r.inj e,c t']
section
variable {X:Cx}{Y:Yb}{Z: St}{H:Hp}{s:Shared}{a:Addr}{xs ys:YE}
def qp.of {K:W.Frag}(h:H a=some (.lst xs)):qp K H a xs:=.inl (.inl h)
def yE.of {K:W.Frag}(h:H a=some (.tup xs)):yE K H a xs:=.inl (.inl h)
def Inv.list (I:Inv X Y Z H s)(h:qp X.K H a xs):∃its:Yf,jo xs its/\PlainL s.heap a its.toArray/\xs.length<=sizeLine:=by
 rcases h with h|⟨o,its,n,hk,hc,hd,hs,hz,r⟩
 .obtain⟨z,its,n,r,e⟩:=h.ok I.hok;exact⟨its,r,⟨_,n,e,rfl,rfl,rfl⟩,z⟩
 .refine⟨its.toList,r,⟨o,n,I.kIn a o hk,hc,hd,()⟩,?_⟩;have e:=r.length
  simp_all
def Inv.tuple (I:Inv X Y Z H s)(h:yE X.K H a xs):∃its:Yf,jo xs its/\IsTup s.heap a its.toArray/\xs.length<=sizeLine:=by
 rcases h with h|⟨o,its,n,hk,hc,hs,hz,r⟩
 .obtain⟨z,its,r,p⟩:=h.ok I.hok;exact⟨its,r,p,z.1⟩
 .refine⟨its.toList,r,⟨o,I.kIn a o hk,hc,n,()⟩,?_⟩;have e:=r.length
  simp_all
def Inv.list_inj (I:Inv X Y Z H s)(h:qp X.K H a xs)(c:qp X.K H a ys):xs=ys:=by
 obtain⟨its,r,⟨o,n,e,_,_,d⟩,_⟩:=I.list h;obtain⟨b,f,⟨g,i,j,_,_,l⟩,_⟩:=I.list c;have:its=b:=by simp_all
 subst this;exact r.inj f
def Inv.tuple_inj (I:Inv X Y Z H s)(h:yE X.K H a xs)(c:yE X.K H a ys):xs=ys:=by
 obtain⟨its,r,⟨o,e,_,n,d⟩,_⟩:=I.tuple h;obtain⟨b,f,⟨g,i,_,j,l⟩,_⟩:=I.tuple c;have:its=b:=by simp_all
 subst this;exact r.inj f
end
abbrev Cx.wish (X:Cx)(E:Ya):Cx:={ X with xe:=E }
abbrev Cx.nox (X:Cx):Cx:=X.wish λ_ _=>False
theorem Cx.Ok.wish {X:Cx}(ok:X.Ok)(E:Ya):(X.wish E).Ok:=
 ⟨ok.mod,ok.kind,ok.glob,ok.blt,ok.above,ok.inj,ok.has,ok.cab,ok.hd,ok.frames,ok.stk,ok.exf,ok.bs,ok.bsz,ok.noex,ok.exfs,ok.funs,ok.frf⟩
def Cx.Ok.unwish {X:Cx}{E:Ya}(ok:(X.wish E).Ok):X.Ok:=
 ⟨ok.mod,ok.kind,ok.glob,ok.blt,ok.above,ok.inj,ok.has,ok.cab,ok.hd,ok.frames,ok.stk,ok.exf,ok.bs,ok.bsz,ok.noex,ok.exfs,ok.funs,ok.frf⟩
section
variable {X:Cx}{Y:Yb}{Z: St}{H:Hp}{s:Shared}{E:Ya}
theorem Inv.wish (I:Inv X Y Z H s)(E):Inv (X.wish E) Y Z H s:=⟨I.ok.wish E,I.os,I.bare,I.base,I.loc,I.cell,I.free,I.freeC,I.pin,I.hok,I.len⟩
theorem Inv.unwish (I:Inv (X.wish E) Y Z H s):Inv X Y Z H s:=⟨I.ok.unwish,I.os,I.bare,I.base,I.loc,I.cell,I.free,I.freeC,I.pin,I.hok,I.len⟩
theorem SP.unwish {D:Ends}{f:Flow}{s':Shared}(h:SP (X.wish E) Y D f s'):SP X Y D f s':=by
 cases f with
 |next=>obtain⟨a,b,I,q⟩:=h;exact⟨a,b,I.unwish,q⟩
 |brk=>obtain⟨a,b,I,q⟩:=h;exact⟨a,b,I.unwish,q⟩
 |cont=>obtain⟨a,b,I,q⟩:=h;exact⟨a,b,I.unwish,q⟩
 |ret u=>obtain⟨v,a,b,I,r,q⟩:=h;exact⟨v,a,b,I.unwish,r,q⟩
theorem qO.nox {st:List Stmt}{t:TS}(h:qO X.nox st t):qO X st t:=λY s Z H D I a =>
 Zc (h Y s Z H D (I.wish _) a) (λ_ _ q=>q.unwish) ()
end
section
variable {X:Cx}{st:Stmt}{rest:List Stmt}{t u:TS}{e:Expr}{te:TE}{pos:Pos}
def u3:TS:=λD Z H=>D.nx Z H
def ms (t u:TS):TS:=λD Z H=>t { D with nx:=u D } Z H
def Ab:qO X [] u3:=λ_ _ Z H _ I h=>wpAny_execs_nil ⟨Z,H,I,h⟩
def XF (a:PS X st t)(b:qO X rest u):qO X (st::rest) (ms t u):=by
 intro Y s Z H D I h;refine wpAny_execs_cons (jH (a Y s Z H { D with nx:=u D } I h) λf c q=>?_);cases f with
 |next =>
  obtain⟨g,i,j,q⟩:=q;exact b Y c g i D j q
 |ret v=>exact q
 |brk=>exact q
 |cont=>exact q
def BT (a:PS X st t):qO X [st] t:=by
 intro Y s Z H D I h;refine wpAny_execs_cons (jH (a Y s Z H D I h) λf b q=>?_)
 grind[wpAny_execs_nil]
def MV:TS:=λD Z H=>D.bk Z H
def MW:PS X (.Break pos) MV:=λ_ _ Z H _ I h=>wpAny_Break ⟨Z,H,I,h⟩
def Inv.quiet {Y:Yb}{Z: St}{H:Hp}{s:Shared}(I:Inv X Y Z H s):interactive X.env=false:=by simp[interactive,I.ok.kind]
def u5 (te:TE):TS:=λD Z H=>te Z H λ_ a=>D.nx Z a
def Ac (a:PE X e te)(hs:swapsWith e none pos.line X.env=pure false:=by rfl):PS X (.Expr e pos) (u5 te):=λY s Z H D I h=>wpAny_Expr_any (jH (a Y s Z H _ I h) λv g ⟨x,b,c,i,f⟩=>⟨Z,b,c,f⟩) I.quiet hs
def mt (te:TE):TS:=λD Z H=>te Z H D.rt
def Ad (a:PE X e te):PS X (.Return (some e) pos) (mt te):=λY s Z H D I h=>wpAny_Return_some (jH (a Y s Z H _ I h) λv i ⟨x,b,c,f,g⟩=>⟨x,Z,b,c,f,g⟩)
def mw (c:TT)(t u:TS):TS:=λD Z H=>c Z H λb a=>if b=true then t D Z a else u D Z a
def BU {c:Expr}{a b:List Stmt}{f:TT}(m:PT X c f)(n:qO X a t)(o:qO X b u):PS X (.If c a b pos) (mw f t u):=by
 intro Y s Z H D I h;refine wpAny_If (jH (m Y s Z H _ I h) λd g ⟨i,j,l⟩=>?_);cases d with
 |true=>exact n Y g Z i D j l
 |false=>exact o Y g Z i D j l
end
abbrev TG:=V->St->Hp->(St->Hp->Prop)->Prop
abbrev v4:=YE->St->Hp->(St->Hp->Prop)->Prop
def PG (X:Cx)(a:Expr)(t:TG):Prop:=
 ∀(Y:Yb) (s:Shared) (Z: St) (H:Hp) (v:V) (u:Value) (Q:St->Hp->Prop),Inv X Y Z H s->jp v u->t v Z H Q ->
  YI X (assign a X.env u) (λ_ s'=>∃b c,Inv X Y b c s'/\Q b c) X.xe s
def bX (X:Cx)(f:Ym)(t:v4):Prop:=
 ∀(Y:Yb) (s:Shared) (Z: St) (H:Hp) (a:YE) (b:Yf) (Q:St->Hp->Prop),Inv X Y Z H s->jo a b->t a Z H Q ->
  YI X (assignInOrder ((assignEach f X.env).map (·.2)) b) (λ_ s'=>∃c e,Inv X Y c e s'/\Q c e) X.xe s
abbrev vI:=V->V->V->Hp->(Hp->Prop)->Prop
def hD (X:Cx)(t:vI):Prop:=
 ∀(Y:Yb) (s:Shared) (Z: St) (H:Hp) (o i v:V) (a b u:Value) (Q:Hp->Prop),Inv X Y Z H s->jp o a->jp i b->jp v u->t o i v H Q ->
  YI X (setItem a b u) (λ_ s'=>∃c,Inv X Y Z c s'/\Q c) X.xe s
section
variable {X:Cx}{pos:Pos}
def KM (i:Nat):TG:=λv Z H Q=>Q (Z.set i (some v)) H
def JU {i:Nat}{x:Str}(a:X.N.Nodup)(b:X.N[i]? = some x)(c:yG X.env.scope x)(e:X.fn x=true\/X.env.scope.names.lookup x=some .local:=by trivial):PG X (.Name x pos) (KM i):=λY s Z H v u Q I r h=>wpAny_assign_Name (Aa I a b c r (λs' f=>⟨_,H,f,h⟩) e)
def gp:v4:=λa Z H Q=>a=[]/\Q Z H
def E4 (t:TG)(u:v4):v4:=λa Z H Q=>∃v r,a=v::r/\t v Z H λb c=>u r b c Q
def Kw:bX X [] gp:=λY s Z H a b Q I r h=>have ⟨e,h⟩:=h;assignInOrder_nil ⟨Z,H,I,h⟩
def Qe {e:Expr}{es:Ym}{t:TG}{u:v4}(a:PG X e t)(b:bX X es u)
 (hs:(assignEach (e::es) X.env).map (·.2)=assign e X.env::(assignEach es X.env).map (·.2):=by rfl):bX X (e::es) (E4 t u):=by
 intro Y s Z H n o Q I r h;obtain⟨v,p,c,h⟩:=h;subst c;cases r with
 |cons r f =>
  rw[hs];exact assignInOrder_cons (jH (a Y s Z H _ _ _ I r h) λ_ g ⟨i,j,l,m⟩=>(b Y g i j _ _ Q l f m))
def gk (K:W.Frag)(n:Nat)(t:v4):TG:=λv Z H Q=>∃a b,v=.ref a/\yE K H a b/\b.length=n/\t b Z H Q
def Kx {es:Ym}{k:Nat}{t:v4}{n:Nat}(g:X.calm=true)(h:bX X es t)
 (i:(assignEach es X.env).length=n:=by rfl) (c:(assignEach es X.env).findIdx? (·.1)=none:=by rfl):PG X (.Tuple es k pos) (gk X.K n t):=by
 intro Y s Z H v u Q I r f;obtain⟨a,j,l,m,p,f⟩:=f;subst l;cases r;obtain⟨its,q,w,hz⟩:=I.tuple m;refine assign_Tuple_tuple (I.ok.hd g) w (by simp[i,<- p,q.length]) c λx y=>?_;have z:Inv X Y Z H { s with heap:=x }:=I.kept λb o e=>y b o (Zi (Zk e)) e;exact h Y _ Z H j _ Q z () f
def xc (a b:TE)(t:vI):TG:=λv Z H Q=>a Z H λo c=>b Z c λi e=>t o i v e λf=>Q Z f
def E5 {o i:Expr}{c e:TE}{t:vI}(f:PE X o c)(g:PE X i e)(hs:hD X t)
 (G:∀v,assign (.Subscript o i pos) X.env v=(do
  let a <- holding [v] (eval o X.env)
  let b <- holding [v,a] (eval i X.env)
  standAt pos
  holding [v,a,b] (setItem a b v)
  release [v,a,b] []):=by intro _;rfl):PG X (.Subscript o i pos) (xc c e t):=λY s Z H v u Q I r h=>Za (wpAny_holding (jH (f Y s Z H _ I h) λa j ⟨x,l,m,n,p⟩=>(Za (wpAny_holding (jH (g Y j Z l _ m p) λb q ⟨y,w,z,A,B⟩=>(Za (wpAny_standAt (Za (wpAny_holding (jH (hs Y q Z w x y v a b u _ z n A r B) λ_ J ⟨C,E,F⟩=>(wpAny_release ⟨Z,C,E,F⟩)))))))))))
def z7 (a:TE)(g:TG):TS:=λD Z H=>a Z H λx b=>g x Z b D.nx
def E6 {tg e:Expr}{a:TE}{g:TG}(b:PE X e a)(c:PG X tg g)(hs:swapsWithSole [tg] e pos.line X.env=pure false:=by rfl)(f:swappedStores [tg] e X.env=pure none:=by rfl)
 (i:(assignEach [tg] X.env).map (·.2)=[assign tg X.env]:=by rfl):PS X (.Assign [tg] e pos) (z7 a g):=by
 intro Y s Z H D I h;refine wpAny_Assign_stores (jH (b Y s Z H _ I h) λv j ⟨x,l,m,n,o⟩=>?_) hs f;rw[i];exact jH (c Y j Z l x v _ m n o) λ_ p q=>q
def XG {i:Nat}{x:Str}{e:Expr}{b:TE}{a:Pos}(c:X.N.Nodup)(f:X.N[i]? = some x)(g:yG X.env.scope x)(j:PE X e b)(hs:swapsWith e (some (.Name x a)) pos.line X.env=pure false:=by rfl)(l:X.fn x=true\/X.env.scope.names.lookup x=some .local:=by trivial):
 PS X (.Assign [.Name x a] e pos) (z7 b (KM i)):=λY s Z H D I h=>wpAny_Assign_Name (jH (j Y s Z H _ I h) λv r ⟨y,m,n,o,p⟩=>(Aa n c f g o (λt q=>⟨_,m,q,p⟩) l)) hs
end
structure It where
 go:Nat->Hp->Prop
 yld:Nat->Hp->V->Hp->Prop
 stop:Nat->Hp->Prop
def xg (X:Cx)(Y:Yb)(H:Hp)(b:Addr):Prop:=
 H b=none/\b≠X.env.locals/\b∉X.fs/\(b∈X.ex\/X.s₀.heap.objs.size<=b)/\(∀x c,X.env.cells.lookup x=some c->c≠b)/\∀p∈X.pn++Y,p.1≠b
def Inv.fpOk {X:Cx}{Y:Yb}{Z: St}{H f:Hp}{s:Shared}{b:Addr}(I:Inv X Y Z H s)(a:s.heap.objs.size<=b)(g:f b=none):xg X Y f b:=by
 refine⟨g,U6 (Zg I.lt a),I.nofs a,.inr (Zh I.sz a),λx c e z=>?_,λp hp z=>?_⟩
 .obtain⟨v,q⟩:=I.cell x c e;exact Zn (Zg q.lt (by rwa [z])) (Zy _)
 .exact Zn (Zg (Zk (I.pin p hp).1) (by rwa [z])) (Zy _)
structure Turn (P:Program)(w:World)(K:W.Frag)(tg:Expr)(J:It)(fp:Yl)(it:Addr)(tn:Nat->Heap->Prop):Prop where
 mem:it∈fp
 obj:∀i h,tn i h->∀b∈fp,∃o,h.get? b=some o/\∀v,o.data ≠ .cell v
 keep:∀i h h',tn i h->(∀b∈fp,∀o,h.get? b=some o->h'.get? b=some o)->tn i h'
 item:∀(X:Cx),X.prog=P->X.w=w->X.K=K->X.calm=true->∀(i:Nat) (Y:Yb) (s:Shared) (Z: St) (H:Hp) (E:Ya),Inv X Y Z H s->(∀b∈fp,xg X Y H b)->tn i s.heap->J.go i H ->
  wpAny (model P w) X.A (pyNext (.ref it)) (λr s1=>∃u,r=some u /\
   wpAny (model P w) X.A (letOwnedTupleGo tg (.ref it) u) (λ_ s2=>∃x H',Inv X Y Z H' s2/\jp x u/\J.yld i H x H'/\tn (i+1) s2.heap/\∀b∈fp,H' b=none) E s1) E s
 done:∀(X:Cx),X.prog=P->X.w=w->X.K=K->X.calm=true->∀(i:Nat) (Y:Yb) (s:Shared) (Z: St) (H:Hp) (E:Ya),Inv X Y Z H s->(∀b∈fp,xg X Y H b)->tn i s.heap->J.stop i H ->
  wpAny (model P w) X.A (pyNext (.ref it)) (λr s1=>r=none/\Inv X Y Z H s1) E s
 self:∀(A:Around) (i:Nat) (s:Shared) (Q:Ya) (E:Ya),tn i s.heap->Q (.ref it) s->wpAny (model P w) A (pyIter (.ref it)) Q E s
abbrev TI:=St->Hp->(It->Hp->Prop)->Prop
def sC (X:Cx)(Y:Yb)(Z: St)(tg:Expr)(R:It->Hp->Prop)(a:Value)(e:Shared):Prop:=
 ∃(it:Addr) (f:Yl) (g:Nat->Heap->Prop) (J:It) (c:Hp),a=.ref it/\Inv X Y Z c e/\Turn X.prog X.w X.K tg J f it g/\g 0 e.heap/\(∀b∈f,xg X Y c b)/\R J c
def PI (X:Cx)(tg a:Expr)(wi:TI):Prop:=
 ∀(Y:Yb) (s:Shared) (Z: St) (H:Hp) (R:It->Hp->Prop),Inv X Y Z H s->wi Z H R ->
  YI X (eval a X.env) (λv b=>YI X (pyIter v) (sC X Y Z tg R) X.xe b) X.xe s
def BV {M:Model}{A:Around}{E:Ya}{s:Shared}{tg:Expr}{it:Addr}{u:Value}{o:Obj}{n:String}{b:Yn}{Q:Unit->YC}(c:s.heap.get? it=some o)(e:o.cls=.type n)(f:o.data=.fields b)
 (g: ["enumerate", "zip", "dict_itemiterator", "dict_reverseitemiterator", "odict_iterator", "itertools.zip_longest", "itertools.pairwise"].contains n=false) (a:Q Yt s):wpAny M A (letOwnedTupleGo tg (.ref it) u) Q E s:=by
 cases tg<;>first
  |exact Zb a
  | (cases u<;>first
   |exact Zb a
   | (
    refine Za (wpAny_load c ?_);rw[e,f];show wpAny M A (if(["enumerate", "zip", "dict_itemiterator", "dict_reverseitemiterator", "odict_iterator", "itertools.zip_longest", "itertools.pairwise"].contains n&&b[0]? == some (rawInt _))=true then _ else _) Q E s;rw[Ze (by intro h;rw[g,Bool.false_and] at h;cases h)];exact Zb a))
def sG (K:W.Frag)(a:Addr):It:=
 ⟨λi H=>∃b x,qp K H a b/\b[i]? = some x,λi H x c=>c=H/\∀b,qp K H a b->b[i]? = some x,λi H=>∃b,qp K H a b/\b.length<=i⟩
def sF (K:W.Frag)(a:Addr):It:=
 ⟨λi H=>∃b x,yE K H a b/\b[i]? = some x,λi H x c=>c=H/\∀b,yE K H a b->b[i]? = some x,λi H=>∃b,yE K H a b/\b.length<=i⟩
def bZ (lo:Int)(n:Nat):It:=⟨λi _=>i<n,λi H x a=>a=H/\x=.int (lo+i),λi _=>n<=i⟩
def MX {P:Program}{w:World}{K:W.Frag}{tg:Expr}(a it):Turn P w K tg (sG K a) [it] it (λi h=>h.IsListIter it a i) where
 mem:=by simp
 obj:=λi h st b f=>by
  obtain⟨o,e,c,d⟩:=st
  simp_all
 keep:=λi h m st k=>st.at λo e=>k it () o e
 item:=by
  intro X n q r F i Y s Z H E I j st t;subst n q r;obtain⟨J,x,l,G⟩:=t;obtain⟨its,v,p,hz⟩:=I.list l;obtain⟨u,S,L⟩:=v.get G;obtain⟨y,z,M,A,B,C⟩:=j it ();refine wpAny_pyNext_list_item st p.isList (x:=u) () λm g N=>?_;have O:Inv X Y Z H { s with heap:=m }:=I.turned (λb o f e=>(N.2 b f).trans e) y z A B C;obtain⟨o,e,c,d⟩:=id g;exact⟨u,rfl,BV e c d (by decide) ⟨x,H,O,L,⟨rfl,λys Q=>by rwa [I.list_inj Q l]⟩,g,λb f=>(j b f).1⟩⟩
 done:=by
  intro X n q r F i Y s Z H E I j st t;subst n q r;obtain⟨J,l,G⟩:=t;obtain⟨its,v,p,hz⟩:=I.list l;obtain⟨y,z,M,A,B,C⟩:=j it ();have T:=v.length;exact wpAny_pyNext_list_end (I.ok.hd F) st p.isList (by simp;lia) λm R=>⟨rfl,I.turned (λb o f e=>R b o f e) y z A B C⟩
 self:=λ_ _ _ _ _ st h=>wpAny_pyIter_listiter st h
def MY {P:Program}{w:World}{K:W.Frag}{tg:Expr}(a it):Turn P w K tg (sF K a) [it] it (λi h=>h.IsTupleIter it a i) where
 mem:=by simp
 obj:=λi h st b g=>by
  obtain⟨o,e,c,d⟩:=st
  simp_all
 keep:=λi h l st k=>st.at ()
 item:=by
  intro X m n q F i Y s Z H E I r st t;subst m n q;obtain⟨J,x,j,G⟩:=t;obtain⟨its,v,p,hz⟩:=I.tuple j;obtain⟨u,L,M⟩:=v.get G;obtain⟨y,z,N,A,B,C⟩:=r it ();refine wpAny_pyNext_tuple_item st (p) (by simpa using L) λl f O=>?_;have Q:Inv X Y Z H { s with heap:=l }:=I.turned (λb o g e=>(O.2 b g).trans e) y z A B C;obtain⟨o,e,c,d⟩:=id f;exact⟨u,rfl,BV e c d (by decide) ⟨x,H,Q,M,⟨rfl,λys R=>by rwa [I.tuple_inj R j]⟩,f,()⟩⟩
 done:=by
  intro X m n q F i Y s Z H E I r st t;subst m n q;have ⟨J,j,G⟩:=t;have ⟨its,v,p,hz⟩:=I.tuple j;have ⟨y,z,N,A,B,C⟩:=r it ();have T:=v.length;exact wpAny_pyNext_tuple_end (I.ok.hd F) st (p) (by simp;lia) λl S=>⟨rfl,I.turned (λb o g e=>S b o g e) y z A B C⟩
 self:=λ_ _ _ _ _ st h=>wpAny_pyIter_tupleiter st h
def MZ {P:Program}{w:World}{K:W.Frag}{tg:Expr}(it)(lo)(n):Turn P w K tg (bZ lo n) [it] it (λi h=>IsRangeIter h it (lo+(i:Nat)*1) ((n:Int)-(i:Nat)) 1) where
 mem:=by simp
 obj:=by grind
 keep:=by grind
 item:=by
  intro X u x y c i Y s Z H E I f st g;obtain⟨j,l,z,m,p,q⟩:=f it ();refine(Walks.range (I.ok.hd c) it lo 1 n).item i s _ _ g st λv r tk A a G=>?_;obtain⟨t,rfl⟩:=A;have B:Inv X Y Z H { s with heap:=r,toks:=tk }:=I.turned () j l m p q;refine⟨_,rfl,BV a rfl rfl (by decide) ⟨.int (lo+i),H,B,⟨t,?_⟩,⟨rfl,rfl⟩,a,()⟩⟩;simp
 done:=by
  intro X u x y c i Y s Z H E I f st g;obtain⟨j,l,z,m,p,q⟩:=f it ();exact wpAny_pyNext_range_end (I.ok.hd c) st (by have:n<=i:=g;lia) λr C=>⟨rfl,I.turned (λb o F e=>C b o F e) j l m p q⟩
 self:=λ_ _ _ _ _ st h=>wpAny_pyIter_rangeiter st h
section
variable {X:Cx}{tg:Expr}
def kY (K:W.Frag)(c:TE):TI:=λZ H R=>c Z H λx b=>∃a,x=.ref a/\(∃e,qp K b a e)/\R (sG K a) b
def nu (K:W.Frag)(c:TE):TI:=λZ H R=>c Z H λx b=>∃a,x=.ref a/\(∃e,yE K b a e)/\R (sF K a) b
def E7 {l:Expr}{g:TE}(i:PE X l g):PI X tg l (kY X.K g):=by
 intro Y s Z H R I h;refine jH (i Y s Z H _ I h) λv f ⟨x,j,c,m,n⟩=>?_;obtain⟨a,e,⟨u,r⟩,q⟩:=n;subst e;cases m;obtain⟨its,w,p,hz⟩:=c.list r;refine wpAny_pyIter_list p.isList (⟨f.heap.objs.size,[f.heap.objs.size],_,_,j,rfl,c.kept λb o e=>Zq _ e,MX a _,⟨_,Zr _ rfl,rfl,rfl⟩,λb t=>?_,q⟩);have e:b=f.heap.objs.size:=by simpa using t
 subst e;exact c.fpOk (Zf _) (c.hok.fresh (Zf _))
def Na {l:Expr}{g:TE}(i:PE X l g):PI X tg l (nu X.K g):=by
 intro Y s Z H R I h;refine jH (i Y s Z H _ I h) λv f ⟨x,j,c,m,n⟩=>?_;obtain⟨a,e,⟨u,r⟩,q⟩:=n;subst e;cases m;obtain⟨its,w,p,hz⟩:=c.tuple r;refine wpAny_pyIter_tuple (p) (⟨f.heap.objs.size,[f.heap.objs.size],_,_,j,rfl,c.kept λb o e=>Zq _ e,MY a _,⟨_,Zr _ rfl,rfl,rfl⟩,λb t=>?_,q⟩);have e:b=f.heap.objs.size:=by simpa using t
 subst e;exact c.fpOk (Zf _) (c.hok.fresh (Zf _))
def Nb {Y:Yb}{Z: St}{H:Hp}{s:Shared}{R:It->Hp->Prop}{E:Ya}{lo a:Int}{t u v:Tok}{tk:Nat}(I:Inv X Y Z H s)(f: -(2 ^ 62)<=lo)(g:lo<2 ^ 62)(h: -(2 ^ 62)<=a)(i:a<2 ^ 62)
 (q:R (bZ lo (a-lo).toNat) H):YI X (pyIter (.ref s.heap.objs.size)) (sC X Y Z tg R) E { s with heap:=s.heap.push { cls:=.type "range",data:=.fields #[.int lo t,.int a u,.int 1 v] },toks:=tk }:=by
 refine wpAny_pyIter_range (IsRange.new ..) (small_one f g h i) ?_;have c:Inv X Y Z H { s with heap:=s.heap.push { cls:=.type "range",data:=.fields #[.int lo t,.int a u,.int 1 v] },toks:=tk }:=I.kept λb o e=>Zq _ e;refine⟨(s.heap.push { cls:=.type "range",data:=.fields #[.int lo t,.int a u,.int 1 v] }).objs.size,[(s.heap.push { cls:=.type "range",data:=.fields #[.int lo t,.int a u,.int 1 v] }).objs.size],_,_,H,rfl,
  c.kept λb o e=>Zq _ e,MZ _ lo (a-lo).toNat,?_,λb m=>?_,q⟩
 .have j:lo+((0:Nat):Int)*1=lo:=by simp
  have l:(((a-lo).toNat:Nat):Int)-((0:Nat):Int)=Builtin.Range.rangeSize lo a 1:=by grind[rangeSize_one]
  rw[j,l];exact Zr _ rfl
 .have e:b=(s.heap.push { cls:=.type "range",data:=.fields #[.int lo t,.int a u,.int 1 v] }).objs.size:=by simp_all
  subst e;exact c.fpOk (Zf _) (c.hok.fresh (Zf _))
def kX (a:TA):TI:=λZ H R=>a Z H λb c=>∃j:Int,b=[.int j] /\ -(2 ^ 62)<=j/\j<2 ^ 62/\R (bZ 0 j.toNat) c
def E8 {a:Expr}{f:TA}{p b:Pos}(g:Gl X "range")(i:X.mg "range" = none)(l:PA X [a] f)(hs:starEach [a] X.env=[(false,eval a X.env)]:=by rfl):PI X tg (.Call (.Name "range" p) [a] [] b) (kX f):=by
 intro Y s Z H R I h;refine Call_ (WY I g i boot_range (PyProof.Rows.callWith_type1 (jH (l b Y s Z H _ I h) λv w ⟨x,y,m,n,c⟩=>?_) hs rfl));obtain⟨j,e,c,o,q⟩:=c;subst e;cases n with
 |cons r u =>
  cases u;obtain⟨t,rfl⟩:=r;exact call_range_1 (Nb m () () c o (by simpa using q))
def mx (wi:TI)(g:TG)(e:TS):TS:=λD Z H=>wi Z H λJ f=>∃W:Nat->Nat->St->Hp->Prop,(∃m,W 0 m Z f)/\∀i m Z H,W i m Z H ->
 (J.stop i H/\D.nx Z H)\/(J.go i H/\∃N:St->Hp->Prop,(∀b a,N b a->∃c,c<m/\W (i+1) c b a)/\∀x a,J.yld i H x a->g x Z a λh j=>e { D with nx:=N,ct:=N,bk:=D.nx } h j)
def XH (a:Yl)(h:Heap):Yb:=a.filterMap λb=>(h.get? b).map λo=>(b,o)
def Ae {a:Yl}{h:Heap}{b:Addr}{o:Obj}(c:b∈a)(e:h.get? b=some o):(b,o)∈XH a h:=Js.mpr ⟨b,c,by rw[e];rfl⟩
def Nc {a:Yl}{h:Heap}{p:Addr×Obj}(hp:p∈XH a h):p.1∈a/\h.get? p.1=some p.2:=by
 obtain⟨b,c,e⟩:=Js.mp hp;cases q:h.get? b with
 |none=>simp_all
 |some o =>
  grind
theorem Inv.pinned {Y:Yb}{Z: St}{H:Hp}{s:Shared}{a:Yl}(I:Inv X Y Z H s)(c:∀b∈a,xg X Y H b)(g:∀b∈a,∃o,s.heap.get? b=some o/\∀v,o.data ≠ .cell v):Inv X (Y++XH a s.heap) Z H s:=
 I.pins_of λp hp=>(Jb.mp hp).elim (λz=>I.pin p ()) λz=>by
  obtain⟨f,e⟩:=Nc z;obtain⟨h,i,j,_⟩:=c p.1 f
  grind
def Inv.unpinned {Y pl:Yb}{Z: St}{H:Hp}{s:Shared}(I:Inv X (Y++pl) Z H s):Inv X Y Z H s:=I.pins_of λp hp=>I.pin p ()
def Af {a:Expr}{t:List Stmt}{wi:TI}{g:TG}{S:TS}{L:Pos}(hp:PassesOwn (model X.prog X.w) X.A X.env X.xe)(U:X.calm=true)(hi:PI X tg a wi)(hg:PG X tg g)(c:qO X t S)
 (hs:∀x,foldedSetIterable a X.env x=pure x:=by intro _;rfl):PS X (.For tg a t [] L) (mx wi g S):=by
 intro Y s Z H D I h;refine wpAny_For (jH (hi Y s Z H _ I h) λv s1 h1=>jH h1 λitv s2 h2=>?_) hs;obtain⟨it,y,tn,J,H2,e,I2,T,M,f2,W,⟨m0,w0⟩,z⟩:=h2;subst e;have j:∀{q:Hp},(∀b∈y,q b=none)->∀b∈y,xg X Y q b:=λhn b c=>⟨hn b c,(f2 b c).2⟩;refine codeAny_forLoop_any (λn s'=>∃i A q,Inv X Y A q s'/\tn i s'.heap/\(∀b∈y,q b=none)/\W i n A q) ?_ m0 ⟨0,Z,H2,I2,M,λb c=>(f2 b c).1,w0⟩;rintro n s3 ⟨i,B,K,I3,C,E,w3⟩;rcases z i n B K w3 with ⟨F,qn⟩|⟨go,N,hN,step⟩
 .refine wpAny_passesOwn hp (jH (T.done X rfl rfl rfl U i Y s3 B K X.xe I3 (j E) C F) λr s4 ⟨O,I4⟩=>?_);subst O;exact wpAny_execs_nil ⟨B,K,I4,qn⟩
 .refine wpAny_passesOwn hp (jH (T.item X rfl rfl rfl U i Y s3 B K X.xe I3 (j E) C go) λr s4 ⟨u,O,h4⟩=>?_);subst O;refine wpAny_passesOwn hp (jH h4 λ_ s5 ⟨x,H5,I5,r5,y5,wV,P⟩=>?_);have Q:=I5.pinned (j P) (T.obj _ _ wV);refine wpAny_passesOwn hp (jH (hg _ s5 B H5 x u _ Q r5 (step x H5 y5)) λ_ s6 ⟨Z6,H6,I6,q6⟩=>?_);refine wpAny_passesOwn hp (jH (c _ s6 Z6 H6 _ I6 q6) λf R w=>?_);have again:∀{l:St} {H7:Hp},Inv X (Y++XH y s5.heap) l H7 R->N l H7->∃m,m<n/\∃i A q,Inv X Y A q R/\tn i R.heap/\(∀b∈y,q b=none)/\W i m A q:=λ{l H7} p G=>by
   obtain⟨m',hm,w7⟩:=hN l H7 G;refine⟨m',hm,i+1,l,H7,p.unpinned,T.keep _ _ _ wV λb c o e=>(p.pin (b,o) (Ut _ (Ut _ (Ae c e)))).1,λb c=>?_,w7⟩;obtain⟨o,e,d⟩:=T.obj _ _ wV b c;exact(p.pin (b,o) (Ut _ (Ut _ (Ae c e)))).2.1
  cases f with
  |next=>obtain⟨l,H7,p,G⟩:=w;exact again p G
  |cont=>obtain⟨l,H7,p,G⟩:=w;exact again p G
  |brk=>obtain⟨l,H7,p,w⟩:=w;exact⟨l,H7,p.unpinned,w⟩
  |ret v=>obtain⟨x7,l,H7,p,r7,w⟩:=w;exact⟨x7,l,H7,p.unpinned,r7,w⟩
end
abbrev R2:=V->V->Hp->VK->Prop
def qZ (X:Cx)(f:Value->Value->Sem Value)(r:R2):Prop:=
 ∀(Y:Yb) (s:Shared) (Z: St) (H:Hp) (x y:V) (v u:Value) (Q:VK),Inv X Y Z H s->jp x v->jp y u->r x y H Q ->
  YI X (f v u) (EP X Y Z Q) X.xe s
def vh (X:Cx)(f:Value->Sem Value)(r:V->Hp->VK->Prop):Prop:=
 ∀(Y:Yb) (s:Shared) (Z: St) (H:Hp) (x:V) (v:Value) (Q:VK),Inv X Y Z H s->jp x v->r x H Q ->
  YI X (f v) (EP X Y Z Q) X.xe s
def jO (X:Cx)(f:Value)(r:YE->Hp->VK->Prop):Prop:=
 ∀(Y:Yb) (s:Shared) (Z: St) (H:Hp) (a:YE) (b:Yf) (Q:VK),Inv X Y Z H s->jo a b->r a H Q ->
  YI X (call f b) (EP X Y Z Q) X.xe s
def vy (r:R2)(a b:TE):TE:=λZ H Q=>a Z H λx c=>b Z c λy e=>r x y e Q
def rG (r:V->Hp->VK->Prop)(a:TE):TE:=λZ H Q=>a Z H λx b=>r x b Q
def rI (C:Int->Int->Prop)(g:Int->Int->V):R2:=λx y H Q=>∃i j,x=.int i/\y=.int j/\C i j/\Q (g i j) H
def wY (g:Int->Int->V):R2:=λx y H Q=>∃i j,x=.int i/\y=.int j/\Q (g i j) H
def rU (g:Int->V):V->Hp->VK->Prop:=λx H Q=>∃i,x=.int i/\Q (g i) H
section
variable {X:Cx}{a b c:Expr}{ta tb tc:TE}{pos:Pos}
def vH (j:PE X a ta)(l:PE X b tb){Y:Yb}{s:Shared}{Z: St}{H:Hp}{R:V->V->Hp->Prop}(I:Inv X Y Z H s)
 (h:ta Z H λx i=>tb Z i λy e=>R x y e) {Q:Ya} {f:Value->Value->Sem Value}
 (m:∀v u g x y e,Inv X Y Z e g->jp x v->jp y u->R x y e->YI X (f v u) Q X.xe g):
 YI X (eval a X.env) (λv s₁=>YI X (eval b X.env) (λu s₂=>YI X (f v u) Q X.xe s₂) X.xe s₁) X.xe s:=jH (j Y s Z H _ I h) λv n ⟨x,i,o,p,q⟩=>(jH (l Y n Z i _ o q) λu g ⟨y,e,r,t,w⟩=>(m v u g x y e r p t w))
def BW {op:Operator}{r:R2}(e:qZ X (binaryOp op) r)(f:PE X a ta)(g:PE X b tb):PE X (.BinOp a op b pos) (vy r ta tb):=λY s Z H Q I h=>wpAny_BinOp (vH f g I h λv u i x y j l m n q=>e Y i Z j x y v u Q l m n q)
def kh {op:UnaryOp}{r:V->Hp->VK->Prop}(e:vh X (unaryOp op) r)(f:PE X a ta):PE X (.UnaryOp op a pos) (rG r ta):=λY s Z H Q I h=>UnaryOp_ (jH (f Y s Z H _ I h) λv g ⟨x,i,j,l,m⟩=>e Y g Z i x v Q j l m)
def kB {f:Value->Value->Sem Value}{C:Int->Int->Prop}{g:Int->Int->Int}
 (rule:∀i j t u s Q E,C i j->Q (.int (g i j) s.toks) { s with toks:=s.toks+1 }->YI X (f (.int i t) (.int j u)) Q E s):
 qZ X f (rI C λi j=>.int (g i j)):=by
 intro Y s Z H x y v u Q I e l h;obtain⟨i,j,rfl,rfl,m,q⟩:=h;obtain⟨t,rfl⟩:=e;obtain⟨t',rfl⟩:=l;exact rule i j t t' s _ _ m ⟨.int (g i j),H,I.tok _,⟨_,rfl⟩,q⟩
def kA {f:Value->Value->Sem Value}{g:Int->Int->Int}
 (rule:∀i j t u s Q E,Q (.int (g i j) s.toks) { s with toks:=s.toks+1 }->YI X (f (.int i t) (.int j u)) Q E s):
 qZ X f (wY λi j=>.int (g i j)):=by
 intro Y s Z H x y v u Q I e l h;obtain⟨i,j,rfl,rfl,q⟩:=h;obtain⟨t,rfl⟩:=e;obtain⟨t',rfl⟩:=l;exact rule i j t t' s _ _ ⟨.int (g i j),H,I.tok _,⟨_,rfl⟩,q⟩
def vc {f:Value->Value->Sem Value}{g:Int->Int->Bool}
 (rule:∀i j t u s Q E,Q (.bool (g i j)) s->YI X (f (.int i t) (.int j u)) Q E s):
 qZ X f (wY λi j=>.bl (g i j)):=by
 intro Y s Z H x y v u Q I e l h;obtain⟨i,j,rfl,rfl,q⟩:=h;obtain⟨t,rfl⟩:=e;obtain⟨t',rfl⟩:=l;exact rule i j t t' s _ _ ⟨.bl (g i j),H,I,rfl,q⟩
def hX (i j:Int):Prop:=0<j/\j<1073741824
def hW (i j:Int):Prop:=0<=j/\j<=1000000/\i.natAbs<2 ^ 64
def Nd:qZ X (binaryOp .Add) (wY λi j=>.int (i+j)):=kA λ_ _ _ _ _ _ _ q=>add_int q
def Nf:qZ X (binaryOp .Sub) (wY λi j=>.int (i-j)):=kA λ_ _ _ _ _ _ _ q=>sub_int q
def Ng:qZ X (binaryOp .FloorDiv) (rI hX λi j=>.int (i / j)):=kB λi j _ _ _ _ _ e q=>have f:=e.1;have g:=e.2;floordiv_int () (by rwa [Int.fdiv_eq_ediv_of_nonneg i ()]) (.inl (PyProof.noPylong_small ()))
def Nh:qZ X (binaryOp .Mod) (rI (λ_ j=>0<j) λi j=>.int (i % j)):=kB λi j _ _ _ _ _ e q=>mod_int' () (by rwa [Int.fmod_eq_emod_of_nonneg i ()])
def Ni:qZ X (binaryOp .Pow) (rI hW λi j=>.int (i ^ j.toNat)):=kB λ_ _ _ _ _ _ _ e q=>pow_int_small e.1 e.2.1 e.2.2 q
def cZ {f:Value->Sem Value}{g:Int->Int}
 (rule:∀i t s Q E,Q (.int (g i) s.toks) { s with toks:=s.toks+1 }->YI X (f (.int i t)) Q E s):
 vh X f (rU λi=>.int (g i)):=by
 intro Y s Z H x v Q I e h;obtain⟨i,rfl,q⟩:=h;obtain⟨t,rfl⟩:=e;exact rule i t s _ _ ⟨.int (g i),H,I.tok _,⟨_,rfl⟩,q⟩
def Nj:vh X (unaryOp .USub) (rU λi=>.int (-i)):=cZ λ_ _ _ _ _ q=>neg_int q
end
def scal:V->V->Bool
 | .non,.non=>true | .non,.int _=>true | .int _,.non=>true | .non,.bl _=>true | .bl _,.non=>true | .non,.str _=>true | .str _,.non=>true
 | .int _,.int _=>true | .bl _,.bl _=>true | .str _,.str _=>true | .byt _,.byt _=>true
 | .int _,.str _=>true | .str _,.int _=>true | .bl _,.str _=>true | .str _,.bl _=>true
 |_,_=>false
def p6:R2:=λx y H Q=>scal x y=true/\Q (.bl (decide (x=y))) H
def p0:R2:=λx y H Q=>scal x y=true/\Q (.bl (!decide (x=y))) H
def E9 {i j:Int}:decide (V.int i=V.int j)=(i == j):=by
 rw[Vf];simp
def EA {i j:Bool}:decide (V.bl i=V.bl j)=(i == j):=by
 rw[Vf];simp
def EB {i j:Str}:decide (V.str i=V.str j)=(i == j):=by
 rw[Vf];simp
def EC {i j:Array UInt8}:decide (V.byt i=V.byt j)=(i.toList == j.toList):=by
 rw[Vf];simp
section
variable {X:Cx}{a b c:Expr}{ta tb tc:TE}{pos:Pos}
def JY {Y:Yb}{Z: St}{H:Hp}{s:Shared}{Q:VK}{k f:Bool}(I:Inv X Y Z H s)(q:Q (.bl k) H)(e:k=f):EP X Y Z Q (.bool f) s:=by
 subst e;exact⟨.bl k,H,I,rfl,q⟩
def k9:qZ X (compareOp .Eq) p6:=by
 intro Y s Z H x y v u Q I f e h;obtain⟨hs,q⟩:=h;cases x with
 |non =>
  cases f;cases y with
  |non=>cases e;exact PySem.EqNone.eq_none_none (JY I q ())
  |bl j=>cases e;exact PySem.EqNone.eq_none_bool (JY I q ())
  |int j=>obtain⟨t',rfl⟩:=e;exact PySem.EqNone.eq_none_int (JY I q ())
  |str j=>obtain⟨t',rfl⟩:=e;exact PySem.EqNone.eq_none_str (JY I q ())
  |_=>exact Zn (show false=true from hs) Zj
 |bl i =>
  cases f;cases y with
  |non=>cases e;exact PySem.EqNone.eq_bool_none (JY I q ())
  |bl j=>cases e;exact eq_bool (JY I q EA)
  |str j=>obtain⟨t',rfl⟩:=e;exact PySem.EqMixed.eq_bool_str (JY I q ())
  |_=>exact Zn (show false=true from hs) Zj
 |int i =>
  obtain⟨t,rfl⟩:=f;cases y with
  |non=>cases e;exact PySem.EqNone.eq_int_none (JY I q ())
  |int j=>obtain⟨t',rfl⟩:=e;exact eq_int (JY I q E9)
  |str j=>obtain⟨t',rfl⟩:=e;exact PySem.EqMixed.eq_int_str (JY I q ())
  |_=>exact Zn (show false=true from hs) Zj
 |str i =>
  obtain⟨t,rfl⟩:=f;cases y with
  |non=>cases e;exact PySem.EqNone.eq_str_none (JY I q ())
  |bl j=>cases e;exact PySem.EqMixed.eq_str_bool (JY I q ())
  |int j=>obtain⟨t',rfl⟩:=e;exact PySem.EqMixed.eq_str_int (JY I q ())
  |str j=>obtain⟨t',rfl⟩:=e;exact eq_str (JY I q EB)
  |_=>exact Zn (hs) Zj
 |byt i =>
  obtain⟨t,rfl⟩:=f;cases y with
  |byt j=>obtain⟨t',rfl⟩:=e;exact W.eq_bytes (JY I q EC)
  |_=>exact Zn (show false=true from hs) Zj
 |_=>cases y<;>exact Zn (show false=true from hs) Zj
def kt:qZ X (compareOp .NotEq) p0:=by
 intro Y s Z H x y v u Q I f e h;obtain⟨hs,q⟩:=h;cases x with
 |non =>
  cases f;cases y with
  |non=>cases e;exact PySem.EqNone.ne_none_none (JY I q ())
  |bl j=>cases e;exact PySem.EqNone.ne_none_bool (JY I q ())
  |int j=>obtain⟨t',rfl⟩:=e;exact PySem.EqNone.ne_none_int (JY I q ())
  |str j=>obtain⟨t',rfl⟩:=e;exact PySem.EqNone.ne_none_str (JY I q ())
  |_=>exact Zn (show false=true from hs) Zj
 |bl i =>
  cases f;cases y with
  |non=>cases e;exact PySem.EqNone.ne_bool_none (JY I q ())
  |bl j=>cases e;exact ne_bool (JY I q (Zt not EA))
  |str j=>obtain⟨t',rfl⟩:=e;exact PySem.EqMixed.ne_bool_str (JY I q ())
  |_=>exact Zn (show false=true from hs) Zj
 |int i =>
  obtain⟨t,rfl⟩:=f;cases y with
  |non=>cases e;exact PySem.EqNone.ne_int_none (JY I q ())
  |int j=>obtain⟨t',rfl⟩:=e;exact ne_int (JY I q (Zt not E9))
  |str j=>obtain⟨t',rfl⟩:=e;exact PySem.EqMixed.ne_int_str (JY I q ())
  |_=>exact Zn (show false=true from hs) Zj
 |str i =>
  obtain⟨t,rfl⟩:=f;cases y with
  |non=>cases e;exact PySem.EqNone.ne_str_none (JY I q ())
  |bl j=>cases e;exact PySem.EqMixed.ne_str_bool (JY I q ())
  |int j=>obtain⟨t',rfl⟩:=e;exact PySem.EqMixed.ne_str_int (JY I q ())
  |str j=>obtain⟨t',rfl⟩:=e;exact ne_str (JY I q (Zt not EB))
  |_=>exact Zn (show false=true from hs) Zj
 |byt i =>
  obtain⟨t,rfl⟩:=f;cases y with
  |byt j=>obtain⟨t',rfl⟩:=e;exact W.ne_bytes (JY I q (Zt not EC))
  |_=>exact Zn (hs) Zj
 |_=>cases y<;>exact Zn (show false=true from hs) Zj
def ku:qZ X (compareOp .Lt) (wY λi j=>.bl (decide (i<j))):=vc λ_ _ _ _ _ _ _ q=>lt_int q
def ky:qZ X (compareOp .LtE) (wY λi j=>.bl (decide (i<=j))):=vc λ_ _ _ _ _ _ _ q=>le_int q
def k7:qZ X (compareOp .Gt) (wY λi j=>.bl (decide (j<i))):=vc λ_ _ _ _ _ _ _ q=>gt_int q
def k8:qZ X (compareOp .GtE) (wY λi j=>.bl (decide (j<=i))):=vc λ_ _ _ _ _ _ _ q=>ge_int q
def Qn (b){op:CmpOp}(h:op ≠ .In:=by decide)(e:op ≠ .NotIn:=by decide):behindInMarks op b=false:=by
 cases b<;>first|rfl|(show(_&&(_||_)&&_)=false;simp_all)
def Nk {op:CmpOp}{r:R2}(e:qZ X (compareOp op) r)(f:PE X a ta)(g:PE X b tb)(i:behindInMarks op b=false):PE X (.Compare a [op] [b] pos) (vy r ta tb):=λY s Z H Q I h=>wpAny_Compare1 (vH f g I h λv u j x y l m n o q=>e Y j Z l x y v u Q m n o q) i
def u0 (t:TE):TT:=λZ H Q=>t Z H λx e=>∃k,x=.bl k/\Q k e
def BX {op:CmpOp}{r:R2}(f:qZ X (compareOp op) r)(g:PE X a ta)(i:PE X b tb)(j:behindInMarks op b=false):PT X (.Compare a [op] [b] pos) (u0 (vy r ta tb)):=by
 intro Y s Z H Q I h;refine wpAny_isTrue_Compare1 (jH (g Y s Z H _ I h) λv l ⟨x,m,n,o,p⟩=>jH (i Y l Z m _ n p) λu q ⟨y,t,w,A,B⟩ =>
  jH (f Y q Z t x y v u _ w o A B) λc J ⟨z,C,E,F,k,e,G⟩=>?_) j
 subst e;cases F;exact wpAny_truthy_bool ⟨C,E,G⟩
def WZ:(sizeLine:Nat)<2 ^ 63:=by decide
def Nl:qZ X (binaryOp .Add) (λx y H Q=>∃i j,x=.str i/\y=.str j/\i.length+j.length<=sizeLine/\Q (.str (i++j)) H):=by
 intro Y s Z H x y v u Q I e f h;obtain⟨i,j,rfl,rfl,hz,q⟩:=h;obtain⟨t,rfl⟩:=e;obtain⟨t',rfl⟩:=f;exact add_str (λt' tk=>⟨.str (i++j),H,I.tok _,⟨_,rfl⟩,q⟩) hz
def QD {x:V}{e:Yf}(r:jo [x] e):∃u,e=[u]/\jp x u:=by
 cases r with
 |cons f g=>cases g;exact⟨_,rfl,f⟩
def Ag {x y:V}{e:Yf}(r:jo [x,y] e):∃u f,e=[u,f]/\jp x u/\jp y f:=by
 cases r with
 |cons g h =>
  cases h with
  |cons i j=>cases j;exact⟨_,_,rfl,g,i⟩
def Nm (g:X.calm=true):jO X (.builtin "max") (λf H Q=>∃i j,f=[.int i,.int j]/\Q (.int (if j > i then j else i)) H):=by
 intro Y s Z H f l Q I r h;obtain⟨i,j,rfl,q⟩:=h;obtain⟨u,m,rfl,⟨t,rfl⟩,⟨t',rfl⟩⟩:=Ag r;refine max_two_ints (I.ok.hd g) λn tk k=>⟨_,H,I.kept k,?_,q⟩;by_cases e:j > i
 .rw[Zd e,Zd e];exact⟨_,rfl⟩
 .rw[Ze e,Ze e];exact⟨_,rfl⟩
def No (g:X.calm=true):jO X (.builtin "min") (λf H Q=>∃i j,f=[.int i,.int j]/\Q (.int (if j<i then j else i)) H):=by
 intro Y s Z H f l Q I r h;obtain⟨i,j,rfl,q⟩:=h;obtain⟨u,m,rfl,⟨t,rfl⟩,⟨t',rfl⟩⟩:=Ag r;refine min_two_ints (I.ok.hd g) λn tk k=>⟨_,H,I.kept k,?_,q⟩;by_cases e:j<i
 .rw[Zd e,Zd e];exact⟨_,rfl⟩
 .rw[Ze e,Ze e];exact⟨_,rfl⟩
def Np:jO X (.type "str") (λe H Q=>∃i,e=[.int i]/\i.natAbs.log2<1920/\Q (.str (toString i)) H):=by
 intro Y s Z H e f Q I r h;obtain⟨i,rfl,hz,q⟩:=h;obtain⟨u,rfl,t,rfl⟩:=QD r;exact PySem.P.str_of_int hz ⟨.str _,H,I.tok _,⟨_,rfl⟩,q⟩
end
structure ObjM (h:Heap)(x dx C:Addr)(mA:Ye):Prop where
 obj:h.get? x=some (W.instObj C dx)
 ns:h.Ns1 dx mA
 ne:dx≠x
def Nq {h:Heap}{c:Addr}{mA:Ye}(n:h.Ns1 c mA):∃f,h.get? c=some f/\∀name,W.lookIn name f=some (mA name):=by
 obtain⟨o,es,ep,g,i,j,_,l⟩:=n;refine⟨o,g,λname=>?_⟩;have e:=l name;unfold nsFind findBy at e;rw[<- Array.find?_toList] at e;unfold W.lookIn;rw[i];dsimp only
 split
 .simp_all
 .have a:es.toList.any (·.refKey)=false:=by
   rw[List.any_eq_false];intro y m;have ⟨z,t,b⟩:=j y ();simp[DictEntry.refKey,b]
  simp_all
def ObjM.look {h:Heap}{x b C:Addr}{mA:Ye}(I:ObjM h x b C mA):∃a,W.InstAt h x (W.instObj C b) C (some a)/\∀name,W.lookIn name a=some (mA name):=
 let ⟨a,ho,hl⟩:=Nq I.ns
 ⟨a,⟨I.obj,rfl,rfl,ho⟩,hl⟩
section
variable {prog:Program}{w:World}{A:Around}{E:Ya}{s:Shared}{K:W.Frag}{x dx C f:Addr}{mA:Ye}{name:Str}{v:Value}
def Nr {a:Bool}{Q:Ya}(X:K.In s.heap)(I:ObjM s.heap x dx C mA)(c:W.plainGet K C name=true)(e:W.hasDictIn K C=true)
 (g:W.findIn K (.ref C) name=some none) (i:mA name=some v) (b:W.handedIn v=true) (h:Q v { s with toks:=s.toks+1 }):
 YJ prog w A (getAttr (.ref x) name a) Q E s:=by
 obtain⟨l,J,j⟩:=I.look;exact W.get_value X J (W.plainGet_of c).1 (W.findObj_own e g rfl (by rw[j,i])) b h
def Nt {ns:Yk}{Q:Unit->YC}(X:K.In s.heap)(I:ObjM s.heap x dx C mA)
 (hs:W.findIn K (.ref C) "__setattr__" = some (some (.builtin "object.__setattr__"))) (hp:W.plainOver K C=true) (l:W.takerIn K C name=some none) (m:W.hasDictIn K C=true)
 (n:PySem.Within mA ns) (hsz:ns.length<=sizeLine)
 (h:∀e,ObjM e x dx C (λy=>if y=name then some v else mA y)->Heap.SameBut dx s.heap e->Q Yt { s with heap:=e,toks:=s.toks+2 }):
 YJ prog w A (setAttr (.ref x) name v) Q E s:=by
 obtain⟨t,J,u⟩:=I.look;refine W.set_plain X J hs (W.osa_open X J hp l λb=>?_);obtain⟨z,o,g⟩:=W.any_some m;refine Za (Zb (Za (Za (wpAny_loadPart I.obj (Za (W.Looks.here (W.looks_clsIn X o) ?_))))));rw[g];refine Zb (Za (Zb (Za (wpAny_nsSet1 I.ns λe a c=>?_))));obtain⟨B,p,q,i,j,r⟩:=a.count (PySem.Within.cons name v n);exact Za (wpAny_lookBehind i (by rw[j];exact pastItsLine_dict ()) (Zb (h _ ⟨(c.2 _ (Ne.symm I.ne)).trans I.obj,a,I.ne⟩ c)))
def Nu {R:Result->YC}{b:Yf}{c:List (Str×Value)}(X:K.In s.heap)(e:W.makesIn K C=true)
 (g:W.findIn K (.ref C) "__init__" = some (some (.ref f))) (i:W.typeIn K (.ref f)=some (.type "function"))
 (h:codeAny (model prog w) (A.under (.builtin "type.__call__" ⟨.ref C::b,c⟩)) (.call (.ref f) ⟨.ref (s.heap.objs.size+1)::b,c⟩) (W.InitBack (s.heap.objs.size+1) R)
  { s with heap:=(s.heap.push W.emptyDict).push (W.instObj C s.heap.objs.size) }):
 codeAny (model prog w) A (.call (.ref C) ⟨b,c⟩) R s:=W.make_core (W.makes_of X e) (W.looks_findIn X g) (λa=>W.bind_fn X a i) (.inl rfl) h
end
def qS (f:Str)(v:V):List (Str×V)->List (Str×V)
 | []=>[(f,v)]
 | (g,x)::r=>if g=f then(g,v)::r else(g,x)::qS f v r
theorem ED (f g)(v):∀fs:List (Str×V),(qS f v fs).lookup g=if g=f then some v else fs.lookup g
 | []=>by
  show List.lookup g [(f,v)]=_
  grind
 | (k,x)::r=>by
  have a:=ED f g v r;rw[show qS f v ((k,x)::r)=(if k=f then(k,v)::r else(k,x)::qS f v r) from rfl]
  grind
theorem BY (f)(v):∀fs:List (Str×V),f∈(qS f v fs).map (·.1)/\∀g,g∈fs.map (·.1)->g∈(qS f v fs).map (·.1)
 | []=>⟨by simp[qS],()⟩
 | (k,x)::r=>by
  have ⟨a,b⟩:=BY f v r;rw[show qS f v ((k,x)::r)=(if k=f then(k,v)::r else(k,x)::qS f v r) from rfl]
  grind
theorem EE (f)(v):∀fs:List (Str×V),(qS f v fs).length<=fs.length+1
 | []=>by simp[qS]
 | (k,x)::r=>by
  have a:=EE f v r;rw[show qS f v ((k,x)::r)=(if k=f then(k,v)::r else(k,x)::qS f v r) from rfl]
  grind
def qF {v:V}{o:Yg}(r:xm (some v) o):∃u,o=some u/\jp v u:=by
 cases o with
 |none=>exact(r).elim
 |some u=>exact⟨u,rfl,r⟩
def Nv {v:V}{u:Value}(r:jp v u):W.handedIn u=true:=by
 cases v with
 |non=>cases (r);rfl
 |bl b=>cases (r);rfl
 |int i=>have ⟨t,e⟩:=(r);cases e;rfl
 |str x=>have ⟨t,e⟩:=(r);cases e;rfl
 |byt b=>have ⟨t,e⟩:=(r);cases e;rfl
 |flt b=>have ⟨t,e⟩:=(r);cases e;rfl
 |ref a=>cases (r);rfl
 |ty n=>cases (r);rfl
section
variable {P:Program}{w:World}{H H':Hp}{h h':Heap}{a C dx:Addr}{fs fs':List (Str×V)}
def EF (b:qQ P w H h)(e:H a=some (.ins C dx fs)):∃mA,ObjM h a dx C mA/\(∀f,xm (fs.lookup f) (mA f))/\PySem.Within mA (fs.map (·.1))/\fs.length<=1000/\H dx=some (.own a):=have ⟨d,z,ne,c,mA,n,r,q⟩:=(b a _ e);⟨mA,⟨c,n,ne⟩,r,q,z,d⟩
end
structure Cls (K:W.Frag)(C:Addr):Prop where
 pg:W.plainGet K C Str.empty=true
 hd:W.hasDictIn K C=true
 po:W.plainOver K C=true
 sa:W.findIn K (.ref C) "__setattr__" = some (some (.builtin "object.__setattr__"))
def Cls.get {K:W.Frag}{C:Addr}(c:Cls K C)(f):W.plainGet K C f=true:=c.pg
def vx (K:W.Frag)(C:Addr)(f:Str):Prop:=W.findIn K (.ref C) f=some none
def vx.taker {K:W.Frag}{C:Addr}{f:Str}(n:vx K C f):W.takerIn K C f=some none:=by
 unfold W.takerIn;rw[n];rfl
section
variable {X:Cx}{Y:Yb}{Z: St}{H:Hp}{s:Shared}{a C dx:Addr}{fs:List (Str×V)}{f:Str}{v:V}{A:Around}{E:Ya}
def Nw {b:Bool}{Q:Ya}(I:Inv X Y Z H s)(e:H a=some (.ins C dx fs))(c:Cls X.K C)(n:vx X.K C f)(l:fs.lookup f=some v)
 (h:∀u s',Inv X Y Z H s'->jp v u->Q u s'):wpAny (model X.prog X.w) A (getAttr (.ref a) f b) Q E s:=by
 obtain⟨mA,O,r,_,_,_⟩:=EF I.hok e;obtain⟨u,i,g⟩:=qF (by rw[<- l];exact r f);exact Nr I.kIn O (c.get f) c.hd n i (Nv g) (h u _ (I.tok _) g)
def Nx {y:V}{u:Value}{Q:Unit->YC}(I:Inv X Y Z H s)(e:H a=some (.ins C dx fs))(c:Cls X.K C)(n:vx X.K C f)(x:fs.length<1000)(B:jp y u)
 (h:∀s',Inv X Y Z (upd H a (.ins C dx (qS f y fs))) s'->Q Yt s'):wpAny (model X.prog X.w) A (setAttr (.ref a) f u) Q E s:=by
 obtain⟨mA,O,r,wi,_,j⟩:=EF I.hok e;have hz:(fs.map (·.1)).length<=sizeLine:=by rw[Zql,sizeLine_eq];lia
 refine Nt I.kIn O c.sa c.po n.taker c.hd wi hz λl i m=>h _ ?_;have p:∃o,l.get? dx=some o:=let ⟨o,_,_,e',_⟩:=i.ns;⟨o,e'⟩
 refine I.write (by rw[e];exact True.intro) (.inr j) (λb q t z=>(m.2 b t).trans z) p ⟨by rwa [JI O.ne],?_,O.ne,i.obj,_,i.ns,λg=>?_,λg w=>?_⟩
 .have:=EE f y fs;lia
 .rw[ED];by_cases q:g=f
  .rwa [Zd q,Zd q]
  simp_all
 .by_cases q:g=f
  .rw[q];exact(BY f y fs).1
  .refine(BY f y fs).2 g (wi g λz=>w ?_)
   simp_all
def Inv.made (I:Inv X Y Z H s):Inv X Y Z (upd (upd H s.heap.objs.size (.own (s.heap.objs.size+1))) (s.heap.objs.size+1) (.ins C s.heap.objs.size []))
 { s with heap:=(s.heap.push W.emptyDict).push (W.instObj C s.heap.objs.size) }:=by
 have c:(s.heap.push W.emptyDict).get? s.heap.objs.size=some W.emptyDict:=Zr s.heap rfl;have g:((s.heap.push W.emptyDict).push (W.instObj C s.heap.objs.size)).get? (s.heap.objs.size+1)=some (W.instObj C s.heap.objs.size):=by
  have:=Zr (s.heap.push W.emptyDict) (o:=W.instObj C s.heap.objs.size) rfl
  simp_all
 have h:(s.heap.push W.emptyDict).Ns s.heap.objs.size (λ_=>none):=⟨W.emptyDict,#[],_,c,rfl,(λe i=>Zn i ()),λ_=>rfl⟩;refine(I.laid (o:=.own (s.heap.objs.size+1)) (t':=s.toks) (λb u q=>Zq _ q) (Zf _) ⟨_,c⟩).laid (λb u q=>Zq _ q) () ?_;have ne:s.heap.objs.size≠s.heap.objs.size+1:=()
 refine⟨by rw[JI ne,JL],Ua _,ne,g,λ_=>none,(Heap.Ns1.of_empty h).at λo q=>Zq _ q,λ_=>True.intro,λy j=>Zn rfl j⟩
def Ny {prog:Program}{w:World}{env:Env}{e:Expr}{f:Str}{b:Pos}{s:Shared}{Q:Ya}(c:attributeBase e f env (eval e env)=eval e env)
 (h:YJ prog w A (eval e env) (λo s₁=>YJ prog w A (getAttr o f true) Q E s₁) E s):YJ prog w A (eval (.Attribute e f b) env) Q E s:=
 Attribute_any_ h (by rw[arm_eval_Attribute,c])
end
def mz (K:W.Frag)(c:TE)(f:Str):TE:=λZ H Q=>c Z H λx b=>∃a C e fs v,x=.ref a/\b a=some (.ins C e fs)/\Cls K C/\vx K C f/\fs.lookup f=some v/\Q v b
def mD (K:W.Frag)(e g:TE)(f:Str):TS:=λD Z H=>g Z H λy h=>e Z h λx b=>∃a C c fs,x=.ref a/\b a=some (.ins C c fs)/\Cls K C/\vx K C f/\fs.length<1000 /\
 D.nx Z (upd b a (.ins C c (qS f y fs)))
section
variable {X:Cx}{o e value:Expr}{f:Str}{pos pos' tpos:Pos}{ta tv:TE}
def Nz (b:PE X e ta)(g:attributeBase e f X.env (eval e X.env)=eval e X.env):PE X (.Attribute e f pos) (mz X.K ta f):=by
 intro Y s Z H Q I h;refine Ny g (jH (b Y s Z H _ I h) λu y ⟨x,i,j,m,a,C,z,fs,v,p,r,c,n,l,q⟩=>?_);subst p;obtain rfl:=m;exact Nw j r c n l λA B t w=>⟨v,i,t,w,q⟩
def N0 (b:PE X o ta)(g:PE X value tv)(hs:swapsWith value (some (.Attribute o f pos')) pos.line X.env=pure false):PS X (.Assign [.Attribute o f pos'] value pos) (mD X.K ta tv f):=by
 intro Y s Z H D I h;refine plainObj_wpAny_Assign_Attribute (jH (g Y s Z H _ I h) λu i ⟨y,j,m,p,q⟩=>jH (b Y i Z j _ m q) λB E ⟨x,F,r,t,a,C,G,fs,v,w,c,n,l,z⟩=>?_) hs;subst v;obtain rfl:=t;exact Nx r w c n l p λJ A=>⟨Z,_,A,z⟩
end
structure Room (k:Nat)(A:Around):Prop where
 hd:A.handled=none
 dp:A.depth+3*k+5<recursionLimit
 un:A.units+16*k+200<cLine
def Room.mono {j k:Nat}{A:Around}(r:Room k A)(h:j<=k):Room j A:=⟨r.hd,by have:=r.dp;lia,by have:=r.un;lia⟩
theorem Room.deeper {k:Nat}{A:Around}(r:Room (k+1) A)(env):Room k (A.deeper env):=
 ⟨r.hd,by have:=r.dp;show A.depth+1+3*k+5<_;lia,by have:=r.un;show A.units+3+16*k+200<_;lia⟩
def N1 {A:Around}{C:Addr}{a:Yf}{b:List (Str×Value)}:(A.under (.builtin "type.__call__" ⟨.ref C::a,b⟩)).depth=A.depth+1:=by
 rfl
def N2 {A:Around}{C:Addr}{a:Yf}{b:List (Str×Value)}:(A.under (.builtin "type.__call__" ⟨.ref C::a,b⟩)).units=A.units+1:=by
 rfl
def Room.make {k:Nat}{A:Around}(r:Room (k+1) A)(C)(us)(kw):Room k (A.under (.builtin "type.__call__" ⟨.ref C::us,kw⟩)):=
 ⟨r.hd,by have:=r.dp;rw[N1];lia,by have:=r.un;rw[N2];lia⟩
theorem Room.depth {k:Nat}{A:Around}(r:Room k A):A.depth<recursionLimit:=by have:=r.dp;lia
theorem Room.units {k:Nat}{A:Around}(r:Room k A):A.units+64<cLine:=by have:=r.un;lia
def wQ:TA:=λ_ H Q=>Q [] H
def Ah (a:TE)(b:TA):TA:=λZ H Q=>a Z H λx c=>b Z c λe f=>Q (x::e) f
section
variable {X:Cx}{e:Expr}{es:Ym}{te:TE}{t:TA}{pos:Pos}
def KN:PA X [] wQ:=λ_ _ _ _ H Q I h=>Calls.spliced_nil ⟨[],H,I,.nil,h⟩
def K9 (a:PE X e te)(b:PA X es t)(hs:starEach (e::es) X.env=(false,eval e X.env)::starEach es X.env:=by rfl):PA X (e::es) (Ah te t):=by
 intro pos Y s Z H Q I h;rw[hs];exact Calls.spliced_cons (jH (a Y s Z H _ I h) λu c ⟨x,f,g,i,j⟩=>(jH (b pos Y c Z f _ g j) λq r ⟨l,m,n,o,p⟩=>⟨x::l,m,n,.cons i o,p⟩))
def mq (t:TA):TE:=λZ H Q=>t Z H λa b=>a.length<=sizeLine/\∀p,b p=none->Q (.ref p) (upd b p (.tup a))
def mv (t:TA):TE:=λZ H Q=>t Z H λa b=>a.length<=sizeLine/\∀p,b p=none->Q (.ref p) (upd b p (.lst a))
def EG {x1}(h:PA X es t):PE X (.Tuple es x1 pos) (mq t):=λY s Z H Q I f=>wpAny_Tuple_spliced (jH (h pos Y s Z H _ I f) λg a ⟨i,j,c,r,z,q⟩=>⟨by rwa [<- r.length],⟨.ref a.heap.objs.size,upd j a.heap.objs.size (.tup i),c.laid (λb u e=>Zq _ e) (Zf _) (⟨⟨z,⟨_,Zr _ rfl,rfl⟩⟩,g,r,⟨_,Zr _ rfl,rfl,_,rfl⟩⟩),rfl,q _ (c.hok.fresh (Zf _))⟩⟩)
def N3 (h:PA X es t):PE X (.List es pos) (mv t):=λY s Z H Q I f=>wpAny_List_spliced (jH (h pos Y s Z H _ I f) λg a ⟨i,j,c,r,z,q⟩=>⟨by rwa [<- r.length],⟨.ref a.heap.objs.size,upd j a.heap.objs.size (.lst i),c.laid (λb u e=>Zq _ e) (Zf _) ⟨z,g,0,r,Zr _ rfl⟩,rfl,q _ (c.hok.fresh (Zf _))⟩⟩)
end
abbrev Sp:=YE->Hp->VK->XK->Prop
abbrev zT:=List Env->Hp->Shared->XK->Ya
structure Env0 (P:Program)(w:World)(K:W.Frag)(mg:Ye)(base:Heap)(A:Around)(outer:List Env)(s:Shared)(H:Hp):Prop where
 frames:A.frames=some outer
 mod:Mod K mg base
 bs:∀b o,base.get? b=some o->s.heap.get? b=some o/\H b=none
 bsz:base.objs.size<=s.heap.objs.size
 funs:s.heap.FunFrames base outer
 frf:∀b∈xh outer,H b=none
 hok:qQ P w H s.heap
 bare:AllBare s.gens
def CE (a:List Env)(P:Program)(w:World)(H:Hp)(s:Shared)(Q:VK)(u:Value)(s':Shared):Prop:=
 ∃v b,s'.os=s.os/\AllBare s'.gens/\Un (xh a) [] H b s.heap s'.heap/\qQ P w b s'.heap/\jp v u/\Q v b
def CR (CX:zT)(a:List Env)(P:Program)(w:World)(H:Hp)(s:Shared)(Q:VK)(E:XK)(r:Result)(s':Shared):Prop:=
 match r with
 | .ok (.ret u)=>CE a P w H s Q u s'
 | .ok _=>False
 | .error e=>CX a H s E e s'
structure FnOk (P:Program)(w:World)(K:W.Frag)(mg:Ye)(base:Heap)(CX:zT)(k:Nat)(f:Addr)(fd:FuncData)(ps:Yk)(sp:Sp):Prop where
 len:∀vs H Q E,sp vs H Q E->vs.length=ps.length
 run:∀(A:Around) (outer:List Env) (s:Shared) (H:Hp) (args:Args) (us:Yf) (vs:YE) (Q:VK) (E:XK),Room k A->Env0 P w K mg base A outer s H->BindsTo s fd args (ps.zip us)->jo vs us->sp vs H Q E ->
  codeAny (model P w) A (.call (.ref f) args) (CR CX outer P w H s Q E) s
theorem FnOk.mono {P:Program}{w:World}{K:W.Frag}{mg:Ye}{a:Heap}{CX:zT}{j k:Nat}{f:Addr}{c:FuncData}{ps:Yk}{sp:Sp}(F:FnOk P w K mg a CX j f c ps sp)(h:j<=k):
 FnOk P w K mg a CX k f c ps sp:=⟨F.len,λA b s H args e g Q E i=>F.run A b s H args e g Q E (i.mono h)⟩
def FnOk.imp {P:Program}{w:World}{K:W.Frag}{mg:Ye}{a:Heap}{CX:zT}{k:Nat}{f:Addr}{g:FuncData}{ps:Yk}{sp e:Sp}(F:FnOk P w K mg a CX k f g ps sp)
 (h:∀c H Q E,e c H Q E->sp c H Q E):FnOk P w K mg a CX k f g ps e:=
 ⟨λc H Q E q=>F.len c H Q E (h _ _ _ _ q),λA b s H args i c Q E j l m n hs=>F.run A b s H args i c Q E j l m n (h _ _ _ _ hs)⟩
def Env0.make {P:Program}{w:World}{K:W.Frag}{mg:Ye}{b:Heap}{A:Around}{a:List Env}{s:Shared}{H:Hp}(e:Env0 P w K mg b A a s H)(C)(us)(kw):
 Env0 P w K mg b (A.under (.builtin "type.__call__" ⟨.ref C::us,kw⟩)) a s H:=⟨by first|exact e.frames|(simpa using e.frames),e.mod,e.bs,e.bsz,e.funs,e.frf,e.hok,e.bare⟩
section
variable {X:Cx}{Y:Yb}{Z: St}{H:Hp}{s s':Shared}
def Inv.env0 (I:Inv X Y Z H s):Env0 X.prog X.w X.K X.mg X.base X.A X.stack s H:=
 ⟨I.ok.frames,I.ok.mod,I.bs,Zh I.ok.bsz I.sz,I.stack,I.stkFree,I.hok,I.bare⟩
def Inv.after {Q:VK}{u:Value}(I:Inv X Y Z H s)(h:CE X.stack X.prog X.w H s Q u s'):EP X Y Z Q u s':=by
 obtain⟨v,c,os,bare,un,a,r,q⟩:=h;obtain⟨f,g,d,t,e⟩:=s';obtain rfl:=os;exact⟨v,c,I.call un a bare (λb z=>Zn z ()),r,q⟩
end
def BZ (sp:Sp)(a:YE)(E:XK)(t:TA):TE:=λZ H Q=>t Z H λb c=>sp (b++a) c Q E
def u4 (C:Addr)(sp:Sp)(b:YE)(E:XK)(t:TA):TE:=λZ H Q=>t Z H λe c=>∀x a,c x=none->c a=none->a≠x ->
 sp (.ref x::(e++b)) (upd (upd c a (.own x)) x (.ins C a [])) (λv f=>v=.non/\Q (.ref x) f) E
def zX (K:W.Frag)(b:FuncData)(ps:Yk)(ds:Yf):Prop:=
 ∀(s:Shared) (a:Yf),K.In s.heap->(a++ds).length=ps.length->BindsTo s b ⟨a,[]⟩ (ps.zip (a++ds))
def zX.all {K:W.Frag}{b:FuncData}{ps:Yk}(h:∀a:Yf,a.length=ps.length->bindArgs b ⟨a,[]⟩=pure (ps.zip a)):zX K b ps []:=λs a _ c=>by
 rw[ZA] at c ⊢;exact .of_eq (h a c)
def Xa (CX:zT)(X:Cx)(E:XK):Prop:=∀(Y:Yb) (Z: St) (H:Hp) (s:Shared) (e:Value) (s':Shared),Inv X Y Z H s->CX X.stack H s E e s'->X.xe e s'
section
variable {X:Cx}{CX:zT}{k:Nat}{f C:Addr}{fd:FuncData}{ps:Yk}{sp:Sp}{dvs:YE}{ds:Yf}{E:XK}{x m:Str}{p pos apos:Pos}{e o:Expr}{es:Ym}{ta:TE}{t:TA}
def N4 {Y:Yb}{Z: St}{H:Hp}{s:Shared}{Q:VK}{a:Yf}{c:YE}(F:FnOk X.prog X.w X.K X.mg X.base CX k f fd ps sp)(i:Room k X.A)(j:zX X.K fd ps ds)(l:jo dvs ds)(n:Xa CX X E)
 (I:Inv X Y Z H s) (r:jo c a) (h:sp (c++dvs) H Q E):YI X (call (.ref f) a) (EP X Y Z Q) X.xe s:=by
 have g:=r.append l;have q:(a++ds).length=ps.length:=by rw[<- g.length];exact F.len _ _ _ _ h
 refine wpAny_call (codeAny_mono (F.run X.A X.stack s H ⟨a,[]⟩ (a++ds) (c++dvs) Q E i I.env0 (j s a I.kIn q) g h) λr s' b=>?_);cases r with
 |error e=>exact n Y Z H s e s' I b
 |ok v =>
  cases v with
  |ret u=>exact I.after b
  |next=>exact False.elim b
  |brk=>exact False.elim b
  |cont=>exact False.elim b
def EH (F:FnOk X.prog X.w X.K X.mg X.base CX k f fd ps sp)(g:Room k X.A)(i:Gl X x)(j:X.mg x=some (.ref f))(l:W.keepIn X.K (.ref f)=true)(n:zX X.K fd ps ds)(u:jo dvs ds)(v:Xa CX X E)
 (w:PA X (e::es) t) (a:(x == ("__debug__" : Str))=false:=by decide) (y:starEach (e::es) X.env=(false,eval e X.env)::starEach es X.env:=by rfl) (b:(backTo pos (starEach es X.env)).any (·.1)=false:=by rfl):
 PE X (.Call (.Name x p) (e::es) [] pos) (BZ sp dvs E t):=by
 intro Y s Z H Q I h;exact wpAny_Call_Name_kw (XE I i j (W.callWith_K I.ok.mod.kin l (jH (w pos Y s Z H _ I h) λz A ⟨B,G,c,r,q⟩=>⟨c.kIn,N4 F g n u v c r q⟩) y b) a)
structure Mk (K:W.Frag)(C f:Addr):Prop where
 makes:W.makesIn K C=true
 init:W.findIn K (.ref C) "__init__" = some (some (.ref f))
 fn:W.isFn K (.ref f)=true
 kp:W.keepIn K (.ref C)=true
def N5 {Y:Yb}{Z: St}{H:Hp}{s:Shared}{Q:VK}{b:Yf}{i:YE}(M:Mk X.K C f)(F:FnOk X.prog X.w X.K X.mg X.base CX k f fd ps sp)(n:Room (k+1) X.A)(q:zX X.K fd ps ds)(w:jo dvs ds)
 (y:Xa CX X E) (I:Inv X Y Z H s) (r:jo i b)
 (h:∀x c,H x=none->H c=none->c≠x->sp (.ref x::(i++dvs)) (upd (upd H c (.own x)) x (.ins C c [])) (λv z=>v=.non/\Q (.ref x) z) E):
 YI X (call (.ref C) b) (EP X Y Z Q) X.xe s:=by
 have j:=h (s.heap.objs.size+1) s.heap.objs.size (I.hok.fresh (Nat.le_succ _)) (I.hok.fresh (Zf _)) (Zi (UG _));have g:=Inv.made (C:=C) I;have l:jo (V.ref (s.heap.objs.size+1)::(i++dvs)) (Value.ref (s.heap.objs.size+1)::(b++ds)):=.cons rfl (r.append w);have A:(Value.ref (s.heap.objs.size+1)::b++ds).length=ps.length:=by
  have e:=l.length;rw[F.len _ _ _ _ j] at e;exact e.symm
 refine wpAny_call (Nu I.kIn M.makes M.init (Ys.mp M.fn) (codeAny_mono (F.run _ X.stack _ _ ⟨Value.ref (s.heap.objs.size+1)::b,[]⟩ (Value.ref (s.heap.objs.size+1)::(b++ds)) _ _ E (n.make C b [])
  (g.env0.make C b []) (q _ (Value.ref (s.heap.objs.size+1)::b) g.kIn A) l j) λr s' a=>?_))
 cases r with
 |error e=>exact y Y Z _ _ e s' g a
 |ok B =>
  cases B with
  |ret u =>
   obtain⟨v,G,J,K,L,N⟩:=g.after a;subst L;exact⟨K,⟨V.ref (s.heap.objs.size+1),G,J,rfl,N⟩⟩
  |next=>exact False.elim a
  |brk=>exact False.elim a
  |cont=>exact False.elim a
def N6 (M:Mk X.K C f)(F:FnOk X.prog X.w X.K X.mg X.base CX k f fd ps sp)(g:Room (k+1) X.A)(i:Gl X x)(j:X.mg x=some (.ref C))(l:zX X.K fd ps ds)(n:jo dvs ds)(u:Xa CX X E)
 (v:PA X (e::es) t) (a:(x == ("__debug__" : Str))=false:=by decide) (w:starEach (e::es) X.env=(false,eval e X.env)::starEach es X.env:=by rfl) (b:(backTo pos (starEach es X.env)).any (·.1)=false:=by rfl):
 PE X (.Call (.Name x p) (e::es) [] pos) (u4 C sp dvs E t):=λY s Z H Q I h=>wpAny_Call_Name_kw (XE I i j (W.callWith_K I.ok.mod.kin M.kp (jH (v pos Y s Z H _ I h) λy z ⟨A,B,c,r,q⟩=>⟨c.kIn,N5 M F g l n u c r q⟩) w b) a)
end
structure FnScope (N P:Yk)(sc:Scope):Prop where
 kind:sc.kind=.function
 co:sc.isCoroutine=false
 gen:sc.isGenerator=false
 nd:N.Nodup
 pre:N.take P.length=P
 par:∀x∈P,sc.names.lookup x=some .local\/sc.names.lookup x=some .cell
 nofree:∀y∈sc.names,y.2 ≠ .free
theorem EI {kindOf:Str->Option NameKind}{x:Str}:∀{binds:List (Str×Value)} {m:Ye},(∀v,(x,v)∉binds)->bindL kindOf binds m x=m x
 | [],_,_=>rfl
 | (n,v)::r,m,h=>by
  unfold bindL;rw[EI ()]
  split
  .grind
  .rfl
theorem EJ {kindOf:Str->Option NameKind}{x:Str}:∀{binds:List (Str×Value)} {m:Ye},(∀v,(x,v)∉binds)->bindC kindOf binds m x=m x
 | [],_,_=>rfl
 | (n,v)::r,m,h=>by
  unfold bindC;rw[EJ ()]
  split
  .rfl
  grind
theorem EK {kindOf:Str->Option NameKind}{x:Str}{v:Value}:∀{P:Yk} {a:Yf} {i:Nat} {m:Ye},P.Nodup->P[i]? = some x->a[i]? = some v->kindOf x=some .local ->
 bindL kindOf (P.zip a) m x=some v
 | [],_,_,_,_,h,_,_=>by simp at h
 |_::_,[],_,_,_,_,h,_=>by simp at h
 |p::P,w::a,0,m,nd,h1,h2,hk=>by
  simp at h1 h2;subst h1;subst h2;show bindL kindOf ((p,w)::P.zip a) m p=_;unfold bindL;rw[EI λv b=>(Jm.mp nd).1 (List.of_mem_zip b).1,Zd hk];simp
 |p::P,w::a,i+1,m,nd,h1,h2,hk=>by
  show bindL kindOf ((p,w)::P.zip a) m x=_;exact EK () (by simpa using h1) (by simpa using h2) hk
theorem EL {kindOf:Str->Option NameKind}{x:Str}{v:Value}:∀{P:Yk} {a:Yf} {i:Nat} {m:Ye},P.Nodup->P[i]? = some x->a[i]? = some v->kindOf x≠some .local ->
 bindC kindOf (P.zip a) m x=some v
 | [],_,_,_,_,h,_,_=>by simp at h
 |_::_,[],_,_,_,_,h,_=>by simp at h
 |p::P,w::a,0,m,nd,h1,h2,hk=>by
  simp at h1 h2;subst h1;subst h2;show bindC kindOf ((p,w)::P.zip a) m p=_;unfold bindC;rw[EJ λv b=>(Jm.mp nd).1 (List.of_mem_zip b).1,Ze hk];simp
 |p::P,w::a,i+1,m,nd,h1,h2,hk=>by
  show bindC kindOf ((p,w)::P.zip a) m x=_;exact EL () (by simpa using h1) (by simpa using h2) hk
def start (N:Yk)(a:YE):St:=a.map some++List.replicate (N.length-a.length) none
def jW (CX:zT)(P:Program)(w:World)(K:W.Frag)(mg:Ye)(base:Heap)(N:Yk)(b:Str)(a:Scope)(f:Addr)(g:Value)(A:Around)(outer:List Env)(s:Shared)(H:Hp)(E:XK):Cx where
 prog:=P
 w:=w
 K:=K
 mg:=mg
 base:=base
 A:=A.deeper (envOfC b a s.heap.objs.size f g)
 N:=N
 s₀:=s
 H₀:=H
 env:=envOfC b a s.heap.objs.size f g
 outer:=outer
 stack:=envOfC b a s.heap.objs.size f g::outer
 ex:=[]
 calm:=true
 fn:=λ_=>true
 pn:=[]
 xe:=λe s'=>wpAny (model P w) (A.deeper (envOfC b a s.heap.objs.size f g)) (leaving (envOfC b a s.heap.objs.size f g) e) (λ_ c=>CX outer H s E e c) (λh c=>CX outer H s E h c) s'
def EM {a:Scope}{n:Nat}{x:Str}(h:a.names.lookup x=some .cell):∃c,(cellsFrom n a.names []).lookup x=some c:=have q:=W.cellsFrom_some a.names n [] (.inl h);Jt.mp q
def N7 {CX:zT}{P:Program}{w:World}{K:W.Frag}{mg:Ye}{l:Heap}{N ps:Yk}{j:Str}{a:Scope}{f:Addr}{B:Value}{A:Around}{g:List Env}{s G:Shared}{H:Hp}{E:XK}{C:Yf}{n:YE}
 (S:FnScope N ps a) (M:A.handled=none) (m:Env0 P w K mg l A g s H) (T:n.length=ps.length) (r:jo n C)
 (x:InCallC s s.heap.objs.size (bindL (envOfC j a s.heap.objs.size f B).kindOf (ps.zip C) λ_=>none) (cellsFrom (s.heap.objs.size+1) a.names []) (bindC (envOfC j a s.heap.objs.size f B).kindOf (ps.zip C) λ_=>none) G):
 Inv (jW CX P w K mg l N j a f B A g s H E) [] (start N n) H G:=by
 have O:ps.length<=N.length:=by have:=Zt List.length S.pre;grind
 obtain⟨F,tk,rfl,I⟩:=x.done;have o:∀b:Addr,b∉(jW CX P w K mg l N j a f B A g s H E).ex:=λb z=>Zn (show b∈([]:Yl) from z) ();refine⟨⟨m.mod,S.kind,rfl,rfl,Zf _,λy z c F J=>?_,λy hy=>?_,λy c _ h=>?_,λ_=>M,Around.frames_deeper m.frames,.inr ⟨rfl,rfl⟩,λb z=>Zn z (o b),m.bs,m.bsz,λb _ _=>o b,(),m.funs,m.frf⟩,
  rfl,m.bare,Un.kept I,⟨_,x.toInCall.ns,λi y v F J U=>?_⟩,λy c h=>⟨_,x.cell y c h⟩,m.hok.fresh (Zf _),λy c h=>?_,λp hp=>Zn (show p∈([]:Yb) from hp) (),m.hok.kept I,?_⟩
 .exact name_of_addr x.apart (PySem.mem_of_lookup F) (PySem.mem_of_lookup J)
 .have hy:=hy;rcases hy with hy|hy
  .exact EM hy
  .exact Zn rfl (S.nofree _ (PySem.mem_of_lookup hy))
 .exact Zz (x.above y c (PySem.mem_of_lookup h))
 .have X:i<n.length:=by
   grind[start,List.getElem?_replicate]
  have Q:n[i]? = some v:=by
   grind[start,List.getElem?_map]
  have ⟨u,L,R⟩:=r.get Q;have hp:ps[i]? = some y:=by
   rwa [<- S.pre,VM ()]
  have t:ps.Nodup:=by rw[<- S.pre];exact S.nd.sublist (List.take_sublist _ _)
  refine⟨u,R,?_⟩;rcases S.par y (Ud hp) with k|k
  .exact .inl ⟨k,EK t hp L k⟩
  .obtain⟨c,e⟩:=EM k;refine .inr ⟨.inl k,c,e,?_⟩;have q:=x.cell y c e
   rwa [EL t hp L (by show a.names.lookup y≠_;simp_all)] at q
 .exact m.hok.fresh (Zz (x.above y c (PySem.mem_of_lookup h)))
 .unfold start;show _=N.length
  simp_all
def EN {CX:zT}{P:Program}{w:World}{K:W.Frag}{mg:Ye}{i:Heap}{k:Nat}{f:Addr}{name g:Str}{params:Arguments}{j:List Stmt}{a:Scope}{U kV B X h ct oc:Value}{Y od:Option Addr}
 {M:Array Yg} {N ps:Yk} {sp:Sp} (lk:K.lookup f=some ⟨oc,od,.func (W.fnOf name g params j a U kV B X Y h ct),M⟩) (O:W.codeIn K h g=true) (S:FnScope N ps a)
 (len:∀l H Q E,sp l H Q E->l.length=ps.length)
 (p:∀A c s H l Q E,Room k (A.deeper (envOfC g a s.heap.objs.size f h))->sp l H Q E ->
  ∃t,qO (jW CX P w K mg i N g a f h A c s H E) j t/\t { nx:=λ_ m=>Q .non m,rt:=Q } (start N l) H):
 FnOk P w K mg i CX (k+1) f (W.fnOf name g params j a U kV B X Y h ct) ps sp:=by
 refine⟨len,λA c s H args us l Q E R C hb r F=>?_⟩;have Z:=C.mod.kin.keeps λb o e=>(C.bs b o e).1;have z:∀y∈ps.zip us,a.names.lookup y.1=some .local\/(a.names.lookup y.1=some .cell/\((cellsFrom (s.heap.objs.size+1) a.names []).lookup y.1).isSome=true):=λ⟨n,v⟩ hy=>by
  rcases S.par n (List.of_mem_zip hy).1 with q|q
  .exact .inl q
  .exact .inr ⟨q,W.cellsFrom_some _ _ _ (.inl q)⟩
 refine codeAny_call_function R.depth (Z _ _ lk) rfl S.co S.gen rfl (W.codeRec_of Z O) (hb _ _ _ _ (wpAny_newFunctionEnv_cells S.kind z λenv he s1 x=>?_));subst he;refine⟨(C.mod.nolimit.keeps λb o e=>(C.bs b o e).1).keeps x.toInCall.keep,codeAny_func ?_⟩;obtain⟨t,ht,hq⟩:=p A c s H l Q E (R.deeper _) F;have I:Inv (jW CX P w K mg i N g a f h A c s H E) [] (start N l) H s1:=N7 S R.hd C (len _ _ _ _ F) r x;refine Zc (ht [] s1 (start N l) H _ I hq) (λfl s' hs=>?_) λe s' hs=>hs;have G:∀{L:St} {m:Hp} {v:V} {u:Value},Inv (jW CX P w K mg i N g a f h A c s H E) [] L m s'->jp v u->Q v m->CE c P w H s Q u s':=
  λ{L m v u} J T q=>⟨v,m,J.os,J.bare,J.base,J.hok,T,q⟩
 cases fl with
 |ret u =>
  obtain⟨v,L,m,J,T,q⟩:=hs;exact G J T q
 |next =>
  obtain⟨L,m,J,q⟩:=hs;exact G (v:=V.non) J rfl q
 |brk =>
  obtain⟨_,_,_,q⟩:=hs;exact False.elim q
 |cont =>
  obtain⟨_,_,_,q⟩:=hs;exact False.elim q
section
variable {X:Cx}{x:Str}{p pos:Pos}{e:Expr}{es:Ym}{t:TA}{id T:String}{r:YE->Hp->VK->Prop}
def wT (r:YE->Hp->VK->Prop)(t:TA):TE:=λZ H Q=>t Z H λa b=>r a b Q
def XI (c:jO X (.builtin id) r)(f:Gl X x)(g:X.mg x=none)(i:bootBuiltins x=some (.builtin id))(j:PA X (e::es) t)(l:x ≠ "__name__" := by decide)(a:(x == ("__debug__" : Str))=false:=by decide)
 (m:starEach (e::es) X.env=(false,eval e X.env)::starEach es X.env:=by rfl) (b:(backTo pos (starEach es X.env)).any (·.1)=false:=by rfl):PE X (.Call (.Name x p) (e::es) [] pos) (wT r t):=λY s Z H Q I h=>wpAny_Call_Name_kw (WY I f g i (PyProof.Rows.callWith_builtin1 (jH (j pos Y s Z H _ I h) λn o ⟨q,u,v,w,y⟩=>c Y o Z u q n Q v w y) m b) l a)
def Ai (c:jO X (.type T) r)(f:Gl X x)(g:X.mg x=none)(i:bootBuiltins x=some (.type T))(j:PA X (e::es) t)(l:x ≠ "__name__" := by decide)(a:(x == ("__debug__" : Str))=false:=by decide)
 (m:starEach (e::es) X.env=(false,eval e X.env)::starEach es X.env:=by rfl) (b:(backTo pos (starEach es X.env)).any (·.1)=false:=by rfl):PE X (.Call (.Name x p) (e::es) [] pos) (wT r t):=λY s Z H Q I h=>wpAny_Call_Name_kw (WY I f g i (PyProof.Rows.callWith_type1 (jH (j pos Y s Z H _ I h) λn o ⟨q,u,v,w,y⟩=>c Y o Z u q n Q v w y) m b) l a)
end
end L2
namespace HT
open PySem PyProof.Rows
def lexLt:Yh->List Int->Bool
 | [],[]=>false
 | [],_::_=>true
 |_::_,[]=>false
 |x::xs,y::ys=>if x=y then lexLt xs ys else decide (x<y)
theorem lexLt_cons (x y)(xs ys):lexLt (x::xs) (y::ys)=if x=y then lexLt xs ys else decide (x<y):=rfl
theorem lexLt_nil_nil:lexLt [] []=false:=rfl
def N8 (y)(ys):lexLt [] (y::ys)=true:=rfl
def N9 (x)(xs):lexLt (x::xs) []=false:=rfl
def NA (A)(s)(a)(t)(c)(u):∃e,SeqAt.EqAt A s (.int a t) (.int c u) e/\(e=true↔a=c):=
 ⟨(a == c),SeqAt.EqAt.int_int a t c u,()⟩
def NB (A)(s)(a)(t)(c)(u)(prog)(w)(E)(Q)(h:Q (.bool (decide (a<c))) s):
 YJ prog w A (richCompare .Lt (.int a t) (.int c u)) Q E s:=
 (PyProof.Rows.lt_int h:YJ prog w A (compareOp .Lt (.int a t) (.int c u)) Q E s)
section
open PySem.SeqAt
open PySem.AutoSeq1 (wpAny_loadPart')
open PySem.MeetsSeq PySem.MeetsSeq2 PySem.MeetsSeq3
def NC (l b:Addr)(i f:Yn)(n G:Nat)(dd v:Option Addr)(H z:Array Yg)(ns B:Yh)(I:IntsAre i.toList ns)(J:IntsAre f.toList B):
 Meets (Builtin.«tuple.__lt__» ⟨[.ref l,.ref b],[]⟩)
  (λ_ R s=>s.heap.get? l=some { cls:=.type "tuple",dict:=dd,data:=.seq i n,slots:=H }/\s.heap.get? b=some { cls:=.type "tuple",dict:=v,data:=.seq f G,slots:=z } /\
   R (.ok (.ret (.bool (lexLt ns B)))) s):=
 .of_wp λprog w A R s h=>by
  obtain⟨hp,g,d,tk,os⟩:=s;obtain⟨K,L,h⟩:=h;have P:=AutoSeq1.sub_tuple_tuple;have Q:i.size=ns.length:=by rw[<- I.length];simp
  have S:f.size=B.length:=by rw[<- J.length];simp
  wp_walk using wpAny_loadPart' K,wpAny_loadPart' L,wpAny_forIn_list _ (λrest b s'=>b.1=none/\s'=⟨hp,g,d,tk,os⟩/\∃(p r:Yf) (j m:Yh),rest=p.zip r /\
   IntsAre p j/\IntsAre r m/\j.length+f.size=m.length+i.size/\R (.ok (.ret (.bool (lexLt j m)))) ⟨hp,g,d,tk,os⟩) _
  case turn =>
   rintro⟨y,x⟩ rest b s' ⟨hb',rfl,p,r,j,m,hz,hvi,hwi,hlen,hR⟩;cases hvi with
   |nil=>rw[List.zip_nil_left] at hz;cases hz
   |cons a t E =>
    cases hwi with
    |nil=>rw[List.zip_nil_right] at hz;cases hz
    |cons c u F =>
     rw[Vo] at hz;injection hz with hyx hrest
     injection hyx with hy hx
     subst hy hx;rw[lexLt_cons] at hR;simp only[Zu] at hlen;obtain⟨e,M,o⟩:=NA A.in1 ⟨hp,g,d,tk,os⟩ a t c u;refine Za (M prog w _ _ ?_);cases e with
     |true =>
      rw[Zd (o.mp rfl)] at hR
      wp_walk
      exact()
     |false =>
      rw[Ze (λq=>Zn (o.mpr q) Zj)] at hR;have C:=NB A.in1 ⟨hp,g,d,tk,os⟩ a t c u prog w
      wp_walk using C
      exact()
  case fin =>
   rintro⟨T,U⟩ s' ⟨hb',rfl,p,r,j,m,hz,hvi,hwi,hlen,hR⟩;simp only at hb';subst hb';have N:lexLt j m=decide (i.size<f.size):=by
    cases hvi with
    |nil =>
     cases hwi with
     |nil =>
      simp only[ZC] at hlen;rw[lexLt_nil_nil];exact()
     |cons c u O =>
      simp only[ZC,Zu] at hlen;rw[N8];exact()
    |cons a t N =>
     cases hwi with
     |nil =>
      simp only[ZC] at hlen;rw[N9];exact()
     |cons c u O =>
      cases hz
   wp_walk
   grind[Builtin.Tuple.tupleCompareSizes]
  grind
end
section
variable {prog:Program}{w:World}{A:Around}{E:Ya}{s:Shared}
def lt_tupInts {l b:Addr}{c a:Yn}{ns e:Yh}{Q:Ya}(p:IsTup s.heap l c)(q:IsTup s.heap b a)(r:IntsAre c.toList ns)(t:IntsAre a.toList e)
 (u:A.units<cLine) (h:Q (.bool (lexLt ns e)) s):YJ prog w A (compareOp .Lt (.ref l) (.ref b)) Q E s:=by
 obtain⟨⟨cls,dd,data,v⟩,x,y,n,z⟩:=id p;obtain⟨⟨o,f,data2,g⟩,i,j,B,m⟩:=id q;subst y z j m;exact richCompare_meets_room (op:=.Lt) ⟨_,x,rfl⟩ ⟨_,i,rfl⟩ PySem.F.slot_tuple_lt PySem.F.entry_tuple_lt (PySem.F.args_tuple_lt_2 _ _) (NC l b c a n B dd f v g ns e r t)
  () u
def cat_tup {t b:Addr}{f a:Yf}{Q:Ya}(r:IsTup s.heap t f.toArray)(u:IsTup s.heap b a.toArray)(v:f ≠ [])
 (x:a=[]->Q (.ref t) s) (y:a ≠ []->Q (.ref s.heap.objs.size) { s with heap:=s.heap.push { cls:=.type "tuple",data:=.seq (f++a).toArray } })
 (hsz:f.length+a.length<=sizeLine):YJ prog w A (binaryOp .Add (.ref t) (.ref b)) Q E s:=by
 obtain⟨⟨cls,dd,data,o⟩,i,z,n,B⟩:=id r;obtain⟨⟨p,g,data2,h⟩,c,l,q,m⟩:=id u;subst z B l m;have e:f.toArray++a.toArray=(f++a).toArray:=by simp
 by_cases j:a=[]
 .exact concat_meets ⟨_,i,rfl⟩ ⟨_,c,rfl⟩ noFill_tuple_add seq_tuple_add PySem.F.slot_tuple_add PySem.F.entry_tuple_add (PySem.F.args_tuple_add_2 _ _)
   (tuple_addW1 t b f.toArray a.toArray n q dd g o h () (by simp[j])) ⟨i,c,x j⟩
 .refine concat_meets ⟨_,i,rfl⟩ ⟨_,c,rfl⟩ noFill_tuple_add seq_tuple_add PySem.F.slot_tuple_add PySem.F.entry_tuple_add (PySem.F.args_tuple_add_2 _ _)
   (tuple_addW2 t b f.toArray a.toArray n q dd g o h (by simpa using v) (by simpa using j) ()) ⟨i,c,?_⟩
  rw[e];exact y j
end
end HT
namespace L2
abbrev TO:=St->Hp->(Option Int->Hp->Prop)->Prop
def PO (X:Cx)(e:Option Expr)(t:TO):Prop:=
 ∀(Y:Yb) (s:Shared) (Z: St) (H:Hp) (Q:Option Int->Hp->Prop),Inv X Y Z H s->t Z H Q ->
  YI X (evalPart e X.env) (λu s'=>∃o a,Inv X Y Z a s'/\IsPart u o/\Q o a) X.xe s
def ND:TO:=λ_ H Q=>Q none H
def u2 (t:TE):TO:=λZ H Q=>t Z H λx a=>∃i,x=.int i/\Q (some i) a
def Cb {ns:Yh}:∀{a:Yf},jo (ns.map V.int) a->IntsAre a ns:=by
 induction ns with
 |nil=>intro a r;cases r;exact .nil
 |cons n ns b =>
  intro a r;cases r with
  |cons c f =>
   obtain⟨t,e⟩:=c;subst e;exact .cons n t (b f)
section
variable {X:Cx}{e:Expr}{te:TE}{lo hi:Option Expr}{tl th:TO}{pos p2:Pos}
def NE:PO X none ND:=λY s Z H Q I h=>Zb ⟨none,H,I,.none,h⟩
def NF (h:PE X e te):PO X (some e) (u2 te):=by
 intro Y s Z H Q I a;refine jH (h Y s Z H _ I a) λu j ⟨x,b,c,f,g⟩=>?_;obtain⟨i,rfl,q⟩:=g;obtain⟨t,rfl⟩:=f;exact⟨some i,b,c,.int i t,q⟩
def uV (K:W.Frag):R2:=λx y H Q=>∃a b c ys,x=.ref a/\y=.ref b/\yE K H a c/\yE K H b ys/\c ≠ []/\c.length+ys.length<=sizeLine /\
 (ys=[]->Q (.ref a) H)/\(ys ≠ []->∀p,H p=none->Q (.ref p) (upd H p (.tup (c++ys))))
def jo.nil_iff {a:YE}{b:Yf}(r:jo a b):b=[]↔a=[]:=by
 cases r with
 |nil=>simp
 |cons _ _=>simp
def NG:qZ X (binaryOp .Add) (uV X.K):=by
 intro Y s Z H x y v u Q I i j h;obtain⟨a,b,t,ys,rfl,rfl,l,m,n,hz,o,p⟩:=h;cases i;cases j;obtain⟨its,f,r,_⟩:=I.tuple l;obtain⟨g,c,p2,_⟩:=I.tuple m;refine HT.cat_tup r p2 (λz=>n (f.nil_iff.mp z)) (λz=>⟨.ref a,H,I,rfl,o (c.nil_iff.mp z)⟩) (λz=>⟨.ref s.heap.objs.size,_,I.laid (λb A q=>Zq _ q) (Zf _) ?_,rfl,p (λw=>z (c.nil_iff.mpr w)) _ (I.hok.fresh (Zf _))⟩) (by rwa [<- f.length,<- c.length]);exact⟨⟨(),⟨_,Zr _ rfl,rfl⟩⟩,_,f.append c,IsTup.new _ _⟩
end
def y0 (n:Nat)(i:Int):Option Nat:=if 0<=i then(if i<n then some i.toNat else none) else if -(n:Int)<=i then some (i+n).toNat else none
def qU {α: Type}(a:List α)(i:Int):Option α:= (y0 a.length i).bind λj=>a[j]?
def EO {n:Nat}{i:Int}{j:Nat}(h:y0 n i=some j):seqIndex? i n=some j/\j<n /\ -(n:Int)<=i/\i<n:=by
 grind[y0,Zqi,seqIndex_of,seqIndex_neg]
def Cc {α: Type}{a:List α}{i:Int}{v:α}(h:qU a i=some v):∃j,seqIndex? i a.length=some j/\a[j]? = some v/\j<a.length /\ -(a.length:Int)<=i/\i<a.length:=by
 unfold qU at h;cases e:y0 a.length i with
 |none=>simp_all
 |some j =>
  rw[e] at h;obtain⟨b,c,f,g⟩:=EO e;exact⟨j,b,h,c,f,g⟩
def Xb (b:Expr):Prop:=∀o i,subscripted b false o i=operate [o,i] (getItem o i)
def zg (X:Cx)(r:R2):Prop:=
 ∀(b a:Expr) (Y:Yb) (s:Shared) (Z: St) (H:Hp) (x y:V) (v u:Value) (Q:VK),Inv X Y Z H s->jp x v->jp y u->r x y H Q ->
  subscripted a false v u=operate [v,u] (getItem v u)->YI X (subscriptTail b a v u) (EP X Y Z Q) X.xe s
def rq (X:Cx)(id:String)(r:V->YE->Hp->VK->Prop):Prop:=
 ∀(Y:Yb) (s:Shared) (Z: St) (H:Hp) (x:V) (a:YE) (v:Value) (b:Yf) (Q:VK),Inv X Y Z H s->jp x v->jo a b->r x a H Q ->
  YI X (call (.builtin id) (v::b)) (EP X Y Z Q) X.xe s
section
variable {X:Cx}{a b:Expr}{ta tb:TE}{pos:Pos}
def zg.or {r f:R2}(h:zg X r)(j:zg X f):zg X (λx y H Q=>r x y H Q\/f x y H Q):=by
 intro c e Y s Z H x y v u Q I g i q hs;rcases q with q|q
 .exact h c e Y s Z H x y v u Q I g i q hs
 .exact j c e Y s Z H x y v u Q I g i q hs
def XJ {r:R2}(c:zg X r)(e:PE X a ta)(f:PE X b tb)(hs:Xb b):PE X (.Subscript a b pos) (vy r ta tb):=λY s Z H Q I h=>Subscript_ (vH e f I h λv u g x y i j l m q=>c a b Y g Z i x y v u Q j l m q (hs _ _))
def uT (K:W.Frag):R2:=λx y H Q=>∃p c i v,x=.ref p/\y=.int i/\qp K H p c/\qU c i=some v/\Q v H
def uR (K:W.Frag):R2:=λx y H Q=>∃p c i v,x=.ref p/\y=.int i/\yE K H p c/\qU c i=some v/\Q v H
def uS:R2:=λx y H Q=>∃z i c,x=.str z/\y=.int i/\z.length<=sizeLine/\qU z.cps.toList i=some c/\Q (.str ⟨#[c]⟩) H
def hY:zg X (uT X.K):=by
 intro e f Y s Z H x y v u Q I A B h hs;obtain⟨p,K,i,z,rfl,rfl,C,E,q⟩:=h;cases A;obtain⟨t,rfl⟩:=B;obtain⟨its,r,pl,hz⟩:=I.list C;obtain⟨j,m,F,L,G,J⟩:=Cc E;obtain⟨w,n,g⟩:=r.get F;have M:=r.length;have N:=WZ;have c:EP X Y Z Q w s:=⟨z,H,I,g,q⟩;by_cases o:0<=i
 .have l:i.toNat=j:=by
   rw[seqIndex_of o J] at m
   simp_all
  exact item_listR pl.isList o () (by rw[l];simpa using n) c hs
 .have l:(i+(its.toArray.size:Int)).toNat=j:=by
   rw[seqIndex_neg () G] at m
   simp_all
  exact subscriptTail_builtinR pl.isList.typeIs slot_list_getitem.lookup
   (wpAny_getItem_list_neg pl.isList () () () (by rw[l];simpa using n) ⟨rfl,c⟩) hs
def sL:zg X (uR X.K):=by
 intro c e Y s Z H x y v u Q I l m h hs;obtain⟨p,C,i,z,rfl,rfl,n,o,q⟩:=h;cases l;obtain⟨t,rfl⟩:=m;obtain⟨its,r,pl,hz⟩:=I.tuple n;obtain⟨j,E,A,F,G,J⟩:=Cc o;obtain⟨w,B,f⟩:=r.get A;have K:=r.length;have L:=WZ;have g:EP X Y Z Q w s:=⟨z,H,I,f,q⟩;exact subscriptTail_builtinR pl.typeIs slot_tuple_getitem.lookup
  (getItem_tuple (j:=j) pl () () () (by simpa using B) ⟨rfl,g⟩) hs
def NH:zg X uS:=by
 intro e f Y s Z H x y v u Q I l m h hs;obtain⟨z,i,c,rfl,rfl,hz,n,q⟩:=h;obtain⟨t,rfl⟩:=l;obtain⟨t',rfl⟩:=m;obtain⟨j,g,o,A,p,r⟩:=Cc n;have w:z.cps.toList.length=z.length:=by rfl
 rw[w] at g p r;have B:=WZ;exact tail_any (typeIs_str s z t) slot_str_getitem.lookup (getItem_str (by
  grind) (by rw[g];simpa using o) ⟨.str ⟨#[c]⟩,H,I.tok _,⟨_,rfl⟩,q⟩) hs
def p4 (K:W.Frag):R2:=λx y H Q=>uT K x y H Q\/uR K x y H Q\/uS x y H Q
def NI:zg X (p4 X.K):=hY.or (sL.or NH)
def NJ (its:Yf)(n j)(u):Obj.mapSeq (·.setIfInBounds j u) { cls:=.type "list",data:=.seq its.toArray n }={ cls:=.type "list",data:=.seq (its.set j u).toArray n }:=by
 simp[Obj.mapSeq]
theorem Inv.lst {Y:Yb}{Z: St}{H:Hp}{s:Shared}{p:Addr}{c:YE}(I:Inv X Y Z H s)(h:H p=some (.lst c)):
 ∃(its:Yf) (n:Nat),jo c its/\s.heap.get? p=some { cls:=.type "list",data:=.seq its.toArray n }/\c.length<=sizeLine:=have ⟨z,its,n,r,e⟩:=I.hok p _ h;⟨its,n,r,e,z⟩
def Inv.lstUpd {Y:Yb}{Z: St}{H:Hp}{s:Shared}{p:Addr}{j ys:YE}{its c:Yf}{n g:Nat}{f:Obj->Obj}(I:Inv X Y Z H s)(h:H p=some (.lst j))
 (l:s.heap.get? p=some { cls:=.type "list",data:=.seq its.toArray n }) (i:f { cls:=.type "list",data:=.seq its.toArray n }={ cls:=.type "list",data:=.seq c.toArray g }) (r:jo ys c) (hz:ys.length<=sizeLine) (t):
 Inv X Y Z (upd H p (.lst ys)) { s with heap:=s.heap.update p f,toks:=t }:=by
 have e:(s.heap.update p f).get? p=some { cls:=.type "list",data:=.seq c.toArray g }:=by
  rw[Heap.get?_update_self f l (by rw[i]<;>rfl),i]
 exact I.write (by rw[h];trivial) (.inl rfl) (λb u m q=>(Heap.get?_update_other _ _ (Ne.symm m)).trans q) ⟨_,e⟩ ⟨hz,c,g,r,e⟩
def uQ:V->V->V->Hp->(Hp->Prop)->Prop:=λo i v H Q=>∃p c k j,o=.ref p/\i=.int k/\H p=some (.lst c)/\y0 c.length k=some j/\Q (upd H p (.lst (c.set j v)))
def EQ:hD X uQ:=by
 intro Y s Z H o i v m w u Q I c e f h;obtain⟨p,x,k,j,rfl,rfl,hp,g,q⟩:=h;cases c;obtain⟨t,rfl⟩:=e;obtain⟨its,n,r,l,hz⟩:=I.lst hp;obtain⟨y,z,A,B⟩:=EO g;have C:=r.length;have E:=WZ;have F:=
  I.lstUpd hp l (NJ its n j u) (r.set f j) () s.toks
 grind[seqIndex_of,Zqi,W.ki_setAt,seqIndex_neg,W.ki_setBack]
def NK:jO X (.builtin "len") (λf H Q=>∃p ys,f=[.ref p]/\(qp X.K H p ys\/yE X.K H p ys)/\Q (.int ys.length) H):=by
 intro Y s Z H f i Q I r h;obtain⟨p,ys,rfl,hq,q⟩:=h;obtain⟨u,rfl,g⟩:=QD r;cases g;have j:=WZ;rcases hq with hq|hq
 .obtain⟨its,e,pl,hz⟩:=I.list hq;have c:=e.length;exact Calls.call_len_list pl.isList () ⟨.int ys.length,H,I.tok _,⟨s.toks+1,()⟩,q⟩
 .obtain⟨its,e,pl,hz⟩:=I.tuple hq;have c:=e.length;exact len_tuple pl () ⟨.int ys.length,H,I.tok _,⟨s.toks+1,()⟩,q⟩
def NL:jO X (.builtin "len") (λc H Q=>∃z,c=[.str z]/\z.length<=sizeLine/\Q (.int z.length) H):=by
 intro Y s Z H c e Q I r h;obtain⟨z,rfl,hz,q⟩:=h;obtain⟨u,rfl,t,rfl⟩:=QD r;have f:=WZ;exact len_str () ⟨.int z.length,H,I.tok _,⟨_,rfl⟩,q⟩
def jO.or {f:Value}{r e:YE->Hp->VK->Prop}(h:jO X f r)(i:jO X f e):jO X f (λc H Q=>r c H Q\/e c H Q):=by
 intro Y s Z H c g Q I rs q;rcases q with q|q
 .exact h Y s Z H c g Q I rs q
 .exact i Y s Z H c g Q I rs q
def NM:jO X (.type "list") (λx H Q=>∃p ys,x=[.ref p]/\(qp X.K H p ys\/yE X.K H p ys)/\∀l,H l=none->Q (.ref l) (upd H l (.lst ys))):=by
 intro Y s Z H x A Q I r h;obtain⟨p,ys,rfl,hq,q⟩:=h;obtain⟨u,rfl,z⟩:=QD r;cases z;have i:∀its,jo ys its->ys.length<=sizeLine->∀c f,(∀b y,s.heap.get? b=some y->c.get? b=some y) ->
  c.get? s.heap.objs.size=some { cls:=.type "list",dict:=none,data:=.seq its.toArray f,slots:=#[] }->EP X Y Z Q (.ref s.heap.objs.size) { s with heap:=c }:=λits g hz c f j e =>
  ⟨.ref s.heap.objs.size,_,I.laid j (Zf _) (show yd X.prog X.w _ c _ (.lst ys) from ⟨hz,its,f,g,e⟩),rfl,q _ (I.hok.fresh (Zf _))⟩
 rcases hq with hq|hq
 .obtain⟨its,g,pl,hz⟩:=I.list hq;have m:=g.length;obtain⟨o,t,v,n,w⟩:=pl.isList;exact call_list_seq p (.inl rfl) t v w (λc f j e=>i its g hz c f j e) (by simp<;>lia)
 .obtain⟨its,g,pl,hz⟩:=I.tuple hq;have m:=g.length;obtain⟨o,t,v,n,w⟩:=pl;exact call_list_seq p (.inr rfl) t v w (λc f j e=>i its g hz c f j e) (by simp<;>lia)
def NN:jO X (.type "tuple") (λi H Q=>∃p ys,i=[.ref p]/\((qp X.K H p ys/\∀l,H l=none->Q (.ref l) (upd H l (.tup ys)))\/(yE X.K H p ys/\Q (.ref p) H))):=by
 intro Y s Z H i w Q I r h;obtain⟨p,ys,rfl,h⟩:=h;obtain⟨u,rfl,n⟩:=QD r;cases n;rcases h with ⟨f,q⟩|⟨f,q⟩
 .obtain⟨its,g,pl,hz⟩:=I.list f;have j:=g.length;refine call_tuple_list pl.isList (λc t=>?_) ();have m:Inv X Y Z H { s with heap:=c }:=I.kept t;have v:Inv X Y Z (upd H c.objs.size (.tup ys)) { s with heap:=c.push { cls:=.type "tuple",data:=.seq its.toArray } } :=
   m.laid (λb o e=>Zq _ e) (Zf _) (⟨⟨hz,⟨_,Zr _ rfl,rfl⟩⟩,its,g,IsTup.new _ _⟩)
  exact⟨.ref c.objs.size,_,v,rfl,q _ (m.hok.fresh (Zf _))⟩
 .obtain⟨its,g,pl,hz⟩:=I.tuple f;exact call_tuple_same pl ⟨.ref p,H,I,rfl,q⟩
def mn (K:W.Frag)(T:String)(x:V)(H:Hp):Prop:=match x with
 | .str _=>T = "str"
 | .int _=>T = "int"
 | .ref p=>(T = "list" /\ ∃e,qp K H p e)\/(T = "tuple" /\ ∃o,K.lookup p=some o/\o.cls=.type "tuple" /\ o.dict=none) \/
  (T = "dict" /\ ((∃c,H p=some (.dK c))\/∃c,H p=some (.dT c)))\/(T = "set" /\ ∃S n,H p=some (.set S n))
 |_=>False
def ER {Y:Yb}{Z: St}{H:Hp}{s:Shared}{T:String}{x:V}{v:Value}(I:Inv X Y Z H s)(r:jp x v)(h:mn X.K T x H):
 s.TypeIs v T/\∀a,v=.ref a->∃q,s.heap.get? a=some q/\q.dict=none:=by
 cases x with
 |str z =>
  obtain⟨t,rfl⟩:=r;cases (h);exact⟨typeIs_str s z t,λ_ e=>nomatch e⟩
 |int i =>
  obtain⟨t,rfl⟩:=r;cases (h);exact⟨typeIs_int s i t,λ_ e=>nomatch e⟩
 |ref p =>
  cases r;rcases h with ⟨rfl,y,u⟩|⟨rfl,o,f,w,j⟩|⟨rfl,f⟩|⟨rfl,S,n,f⟩
  .obtain⟨its,_,pl,_⟩:=I.list u;refine⟨pl.isList.typeIs,λa e=>?_⟩;cases e;obtain⟨o,n,e,c,j,_⟩:=pl;exact⟨o,e,j⟩
  .refine⟨⟨o,I.kIn p o f,w⟩,λa e=>?_⟩;cases e;exact⟨o,I.kIn _ o f,j⟩
  .have z:∃o,s.heap.get? p=some o/\o.ExactDict:=by
    rcases f with ⟨l,f⟩|⟨l,f⟩
    .obtain⟨_,_,_,_,o,_,_,e,g,_⟩:=I.hok p _ f;exact⟨o,e,g⟩
    .obtain⟨_,_,_,_,o,_,_,e,g,_⟩:=I.hok p _ f;exact⟨o,e,g⟩
   obtain⟨o,e,g⟩:=z;refine⟨⟨o,e,g.1⟩,λa m=>?_⟩;cases m;exact⟨o,e,g.2.1⟩
  .obtain⟨o,_,_,_,e,g,_⟩:=I.hok p _ f;refine⟨⟨o,e,g.1⟩,λa m=>?_⟩;cases m;exact⟨o,e,g.2.1⟩
 |_=>exact False.elim h
def uF (K:W.Frag)(T:String)(r:V->YE->Hp->VK->Prop)(e:TE):TE:=λZ H Q=>e Z H λx c=>mn K T x c/\r x [] c Q
def uG (K:W.Frag)(T:String)(r:V->YE->Hp->VK->Prop)(e:TE)(t:TA):TE:=λZ H Q=>e Z H λx c=>mn K T x c/\t Z c λf g=>r x f g Q
variable {o e:Expr}{es:Ym}{to:TE}{t:TA}{name:Str}{apos cpos:Pos}{T id:String}{r:V->YE->Hp->VK->Prop}
def NO (m:PlainAttrs T)(g:Slot T name id)(i:typeOf (.builtin id)=pure (.type "method_descriptor"))(n:rq X id r)(p:PE X o to)
 (c:attributeBase o name X.env (eval o X.env)=eval o X.env:=by rfl) (f:(apos.endLine == cpos.line)=true:=by rfl):PE X (.Call (.Attribute o name apos) [] [] cpos) (uF X.K T r to):=by
 intro Y s Z H Q I h;refine wpAny_Call_method0_late c f (jH (p Y s Z H _ I h) λv q ⟨x,u,j,l,w,y⟩=>?_);obtain⟨z,A⟩:=ER j l w;exact⟨T,id,m,g,i,z,A,Calls.callWith_builtin rfl (PySem.evalArgs_none (n Y q Z u x [] v [] Q j l .nil y))⟩
def KO (q:PlainAttrs T)(i:Slot T name id)(l:typeOf (.builtin id)=pure (.type "method_descriptor"))(u:rq X id r)(w:PE X o to)(y:PA X (e::es) t)
 (f:attributeBase o name X.env (eval o X.env)=eval o X.env:=by rfl)
 (j:((backTo cpos (starEach (e::es) X.env)).all (λx => !x.1)&&(backToKw cpos (keywordEach [] X.env)).all (λx=>x.1.isSome)
  && decide ((e::es).length+([]:List Keyword).length+(if([]:List Keyword).isEmpty then 0 else 1)<30))=true:=by rfl)
 (g:(apos.endLine == cpos.line)=true:=by rfl) (hs:starEach (e::es) X.env=(false,eval e X.env)::starEach es X.env:=by rfl) (c:(backTo cpos (starEach es X.env)).any (·.1)=false:=by rfl):
 PE X (.Call (.Attribute o name apos) (e::es) [] cpos) (uG X.K T r to t):=by
 intro Y s Z H Q I h;refine wpAny_Call_method_late f j g rfl (jH (w Y s Z H _ I h) λv z ⟨x,A,m,n,B,C⟩=>?_);obtain⟨E,F⟩:=ER m n B;refine⟨T,id,q,i,l,E,F,?_⟩;have p:=y cpos Y z Z A _ m C;rw[hs] at p ⊢;exact Calls.callWith_builtin (by show(false||(backTo cpos (starEach es X.env)).any (·.1))=false;rw[c]<;>rfl) (Calls.evalArgs_plain (jH p λG J ⟨K,L,M,N,O⟩=>u Y J Z L x K v G Q M n N O))
end
def sD (X:Cx)(id:String)(r:V->YE->Hp->VK->Prop):Prop:=
 ∀(Y:Yb) (s:Shared) (Z: St) (H:Hp) (x:V) (a:YE) (v:Value) (b:Yf) (Q:VK),Inv X Y Z H s->jp x v->jo a b->r x a H Q ->
  YI X (call (.builtin id) (v::b)) (EP X Y Z Q) X.xe s
def jo.one:∀{x:V} {a:Yf},jo [x] a->∃u,a=[u]/\jp x u:=λh=>by
 cases h with
 |cons r t=>cases t;exact⟨_,rfl,r⟩
def zK:∀{a:Yf},jo [] a->a=[]
 |_,.nil=>rfl
section
variable {X:Cx}{Y:Yb}{Z: St}{H:Hp}{s:Shared}{l b:Addr}{xs ys zs:YE}
def Inv.lset {its a:Yf}{n:Nat}{f:Yn->Array Value}{t':Nat}(I:Inv X Y Z H s)(c:H l=some (.lst xs))
 (e:s.heap.get? l=some { cls:=.type "list",data:=.seq its.toArray n }) (g:f its.toArray=a.toArray) (h:jo ys a) (hz:ys.length<=sizeLine):
 Inv X Y Z (upd H l (.lst ys)) { s with heap:=s.heap.update l (Obj.mapSeq f),toks:=t' }:=by
 have q:=PySem.IsL.update e f;rw[g] at q;exact I.write (by rw[c];exact trivial) (.inl rfl) (λm u i j=>(Heap.get?_update_other s.heap (Obj.mapSeq f) (Ne.symm i)).trans j) ⟨_,q⟩ ⟨hz,a,_,h,q⟩
def Inv.lnew {its:Yf}{t':Nat}(I:Inv X Y Z H s)(a:jo ys its)(hz:ys.length<=sizeLine):
 Inv X Y Z (upd H s.heap.objs.size (.lst ys)) { s with heap:=s.heap.push { cls:=.type "list",data:=.seq its.toArray },toks:=t' } :=
 I.laid (λ_ _ q=>Zq _ q) (Zf _) ⟨hz,its,0,a,Zr _ rfl⟩
theorem Inv.fresh (I:Inv X Y Z H s):H s.heap.objs.size=none:=I.hok.fresh (Zf _)
def Inv.lstM (I:Inv X Y Z H s)(a:H l=some (.lst xs)):xs.length<=sizeLine/\∃(its:Yf) (n:Nat),jo xs its/\xs.length=its.length/\s.heap.get? l=some { cls:=.type "list",data:=.seq its.toArray n }:=have ⟨z,its,n,r,e⟩:=I.hok l _ a;⟨z,its,n,r,r.length,e⟩
def NP {n:Nat}(h:n<=sizeLine):Builtin.List.listTooLong n=false:=by
 simp_all [Builtin.List.listTooLong]
end
section
variable {X:Cx}
def Aj:V->YE->Hp->VK->Prop:=λx b H Q=>∃l a y,x=.ref l/\b=[y]/\H l=some (.lst a)/\a.length<sizeLine/\Q .non (upd H l (.lst (a++[y])))
def V4:sD X "list.append" Aj:=by
 intro Y s Z H x g v i Q I b c h;obtain⟨l,j,y,rfl,rfl,a,hz,q⟩:=h;cases b;obtain⟨u,rfl,f⟩:=c.one;obtain⟨z,its,n,r,m,e⟩:=I.lstM a;refine call_meets F.slot_list_append ⟨_,e,rfl⟩ F.entry_list_append (F.args_list_append_2 _ _) (PySem.list_append l its.toArray n u ()) ⟨e,⟨.non,_,I.lset a e () (r.append (.cons f .nil)) ?_,rfl,q⟩⟩
 grind
def ES:V->YE->Hp->VK->Prop:=λx e H Q=>∃l b a c,x=.ref l/\e=[.ref b]/\H l=some (.lst a)/\H b=some (.lst c)/\a.length+c.length<=sizeLine/\Q .non (upd H l (.lst (a++c)))
def NQ:sD X "list.extend" ES:=by
 intro Y s Z H x y v A Q I g i h;obtain⟨l,b,B,C,rfl,rfl,f,j,hz,q⟩:=h;cases g;obtain⟨u,rfl,m⟩:=i.one;cases m;obtain⟨z,its,n,r,E,e⟩:=I.lstM f;obtain⟨G,a,o,p,t,w⟩:=I.lstM j;have hsz:its.toArray.size+a.toArray.size<=sizeLine:=by simp_all
 have c:¬(!its.toArray.isEmpty&&Builtin.List.listTooLong (its.toArray.size+a.toArray.size))=true:=by
  rw[NP hsz,Bool.and_false];exact Zj
 refine call_meets F.slot_list_extend ⟨_,e,rfl⟩ F.entry_list_extend (F.args_list_extend_2 _ _)
  (AutoSeq1.list_extend_list_list_0 l its.toArray n b a.toArray o c () ()) ⟨e,w,⟨.non,_,I.lset f e () (r.append p) ?_,rfl,q⟩⟩
 simp_all
end
section
variable {prog:Program}{w:World}{A:Around}{E:Ya}{s:Shared}
set_option maxRecDepth 100000 in
end
section
variable {κ: Type}[DecidableEq κ]
def q0 (a:List (κ × V))(k:κ):YF:=(a.find? λb=>decide (b.1=k)).map (·.2)
def qA (a:List (κ × V))(k:κ)(v:V):List (κ × V):=
 if(a.any λb=>decide (b.1=k))=true then a.map (λb=>if b.1=k then(b.1,v) else b) else a++[(k,v)]
def Cd {p:κ × V}{r:List (κ × V)}{k:κ}(e:p.1=k):q0 (p::r) k=some p.2:=by simp[q0,e]
theorem Ce {p:κ × V}{r:List (κ × V)}{k:κ}(e:¬p.1=k):q0 (p::r) k=q0 r k:=by simp[q0,e]
theorem ET (k):∀a:List (κ × V),(a.any λb=>decide (b.1=k))=(q0 a k).isSome
 | []=>rfl
 |p::r=>by
  rw[List.any_cons];by_cases e:p.1=k
  .simp[Cd e,Zp e]
  .rw[Ce e,Zo e,Bool.false_or];exact ET k r
def Cf (a:List (κ × V))(k)(v):(qA a k v).length<=a.length+1:=by
 grind[qA,Zql,List.length_append,List.length_cons,List.length_nil]
def xm.isSome_eq {o:YF}{u:Yg}(r:xm o u):o.isSome=u.isSome:=by
 cases o with
 |none=>cases u with
  |none=>rfl
  |some _=>exact(r).elim
 |some _=>cases u with
  |none=>exact(r).elim
  |some _=>rfl
theorem xm.getD {o:YF}{u:Yg}{d:V}{a:Value}(r:xm o u)(b:jp d a):jp (o.getD d) (u.getD a):=by
 cases o with
 |none=>cases u with
  |none=>exact b
  |some _=>exact(r).elim
 |some _=>cases u with
  |none=>exact(r).elim
  |some _=>exact r
def KV.val {a:List (κ × V)}{c:List (κ × Value)}(r:KV a c)(k):xm (q0 a k) (valueAt c k):=by
 induction r with
 |nil=>exact True.intro
 | @cons p q ps f h t g =>
  obtain⟨i,j⟩:=h;by_cases e:p.1=k
  .have b:valueAt (q::f) k=some q.2:=by simp_all [valueAt]
   rwa [Cd e,b]
  grind[valueAt,Ce]
theorem KV.any {a:List (κ × V)}{c:List (κ × Value)}(r:KV a c)(k):(a.any λb=>decide (b.1=k))=c.any λb=>decide (b.1=k):=by
 induction r with
 |nil=>rfl
 |cons h t e=>simp_all
def KV.repl {b:List (κ × V)}{c:List (κ × Value)}(r:KV b c)(k){y:V}{u:Value}(f:jp y u):
 KV (b.map λa=>if a.1=k then(a.1,y) else a) (c.map λa=>if a.1=k then(a.1,u) else a):=by
 induction r with
 |nil=>exact .nil
 | @cons p q ps g h t e =>
  refine .cons ?_ e
  grind
def KV.put {a:List (κ × V)}{b:List (κ × Value)}(r:KV a b)(k){y:V}{u:Value}(c:jp y u):KV (qA a k y) (stored b k u):=by
 unfold qA stored;rw[r.any k];by_cases e:(b.any λf=>decide (f.1=k))=true
 .rw[Zd e,Zd e];exact r.repl k c
 .rw[Ze e,Ze e];exact Paired.snoc r ⟨rfl,c⟩
theorem KV.length {a:List (κ × V)}{b:List (κ × Value)}(r:KV a b):a.length=b.length:=Paired.length r
end
def XL {P:Program}{w:World}{k:j5}{u:Value}(r:jp (kV k) u):(Qz P w).is k u=true:=by
 cases k with
 |inl i=>have ⟨t,e⟩:=(r);subst e;exact MA P w i t
 |inr x=>have ⟨t,e⟩:=(r);subst e;exact MB P w x t
theorem EU {P:Program}{w:World}:∀{ks:List j5} {a:Yf},jo (ks.map kV) a->ItemsAre (Qz P w) ks a
 | [],_,r=>by cases r;exact .nil
 |k::ks,_,r=>by
  cases r with
  |cons h t=>exact .cons (XL h) (EU t)
abbrev KT (H:Hp):List (List j5×V)->List (List j5×Addr×Value)->Prop:=Paired λp q=>p.1=q.1/\H q.2.1=some (.tup (p.1.map kV))/\jp p.2 q.2.2
def KT.val {H:Hp}{a:List (List j5×V)}{c:List (List j5×Addr×Value)}(r:KT H a c)(k):xm (q0 a k) ((atKey c k).map (·.2)):=by
 induction r with
 |nil=>exact True.intro
 | @cons p q ps f h t g =>
  obtain⟨i,_,j⟩:=h;by_cases e:p.1=k
  .have b:atKey (q::f) k=some q.2:=by simp_all [atKey]
   rwa [Cd e,b]
  grind[atKey,Ce]
def KT.repl {H:Hp}{a:List (List j5×V)}{c:List (List j5×Addr×Value)}(r:KT H a c)(k){y:V}{u:Value}(f:jp y u):
 KT H (a.map λb=>if b.1=k then(b.1,y) else b) (c.map (putAt k u)):=by
 induction r with
 |nil=>exact .nil
 | @cons p q ps g h t e =>
  refine .cons ?_ e
  grind[putAt]
def KT.put {H:Hp}{a:List (List j5×V)}{c:List (List j5×Addr×Value)}(r:KT H a c)(k){b:Addr}{y:V}{u:Value}(g:H b=some (.tup (k.map kV)))(f:jp y u):
 KT H (qA a k y) (storedH c k b u):=by
 have e:(a.any λh=>decide (h.1=k))=(atKey c k).isSome:=by
  rw[ET,(r.val k).isSome_eq,Option.isSome_map]
 unfold qA storedH;rw[e];by_cases q:(atKey c k).isSome=true
 .rw[Zd q,Zd q];exact r.repl k f
 .rw[Ze q,Ze q];exact Paired.snoc r ⟨rfl,g,f⟩
def KT.keeps {H c:Hp}{a:List (List j5×V)}{e:List (List j5×Addr×Value)}(r:KT H a e)(f:∀b ys,H b=some (.tup ys)->c b=some (.tup ys)):KT c a e:=
 xG r ()
section
variable {P:Program}{w:World}{H:Hp}{h:Heap}{a:Addr}
def EV {u:HO}(ok:qQ P w H h)(e:Rd H a u):yd P w H h a u:=e.ok ok
def W3 {b:List (j5×V)}(ok:qQ P w H h)(e:Rd H a (.dK b)):b.length<=sizeLine/\(a == sysModules)=false/\∃c,KV b c/\h.DictOf (Qz P w) a c:=
 EV ok e
def Cg {b:List (j5×V)}(ok:qQ P w H h)(e:H a=some (.dK b)):b.length<=sizeLine/\(a == sysModules)=false/\∃c,KV b c/\h.DictOf (Qz P w) a c:=W3 ok (.inl e)
theorem XM {ks:List j5}(ok:qQ P w H h)(e:H a=some (.tup (ks.map kV))):(tupleKind (Qz P w)).is h ks a:=have ⟨_,its,r,o,b,c,n,f⟩:=(ok a _ e);⟨o,its.toArray,n,b,c,f,by simpa using EU r⟩
def Xc {b:List (List j5×V)}(ok:qQ P w H h)(e:Rd H a (.dT b)):b.length<=sizeLine/\(a == sysModules)=false /\
 ∃c,KT H b c/\h.DictOfH (tupleKind (Qz P w)) a c:=by
 obtain⟨z,y,c,r,o,es,ep,g,i,j,n,s⟩:=(EV ok e);refine⟨z,y,c,r,o,es,ep,g,i,j,n,λx f=>?_,s⟩;have all:∀{l:List (List j5×V)} {m:List (List j5×Addr×Value)},KT H l m->∀x∈m,(tupleKind (Qz P w)).is h x.1 x.2.1:=by
  intro l m q
  induction q with
  |nil=>intro x f;exact nomatch f
  | @cons p q ps u v t A =>
   grind[XM]
 exact all r x f
def fA {b:List (List j5×V)}(ok:qQ P w H h)(e:H a=some (.dT b)):b.length<=sizeLine/\(a == sysModules)=false /\
 ∃c,KT H b c/\h.DictOfH (tupleKind (Qz P w)) a c:=Xc ok (.inl e)
end
def xE (H:Hp)(a:Addr)(y:V)(r:YF):Prop:=
 (∃c k,Rd H a (.dK c)/\y=kV k/\r=q0 c k)\/∃c k b,Rd H a (.dT c)/\y=.ref b/\H b=some (.tup (k.map kV))/\r=q0 c k
def zS (H:Hp)(a:Addr)(y v:V)(e:Hp):Prop:=
 (∃c k,H a=some (.dK c)/\y=kV k/\c.length<sizeLine/\e=upd H a (.dK (qA c k v))) \/
 ∃c k b,H a=some (.dT c)/\y=.ref b/\H b=some (.tup (k.map kV))/\c.length<sizeLine/\e=upd H a (.dT (qA c k v))
theorem xE.k {H:Hp}{a:Addr}{b:List (j5×V)}{k:j5}(e:H a=some (.dK b)):xE H a (kV k) (q0 b k):=.inl ⟨b,k,.inl e,rfl,rfl⟩
theorem zS.k {H:Hp}{a:Addr}{b:List (j5×V)}{k:j5}{v:V}(e:H a=some (.dK b))(c:b.length<sizeLine):zS H a (kV k) v (upd H a (.dK (qA b k v))):=.inl ⟨b,k,e,rfl,c,rfl⟩
section
variable {X:Cx}{Y:Yb}{Z: St}{H:Hp}{s:Shared}{a:Addr}{y v:V}{u r:Value}{o:YF}{A:Around}{E:Ya}
def Inv.big (I:Inv X Y Z H s):sysModules<s.heap.objs.size:=have h:=(I.mod.glob.keeps I.bk).lt;Ug (by decide) h
def NR {Q:Ya}(w:A.units+1<cLine)(I:Inv X Y Z H s)(g:xE H a y (some v))(t:jp y u)(h:∀i s',Inv X Y Z H s'->jp v i->Q i s'):
 wpAny (model X.prog X.w) A (getItem (.ref a) u) Q E s:=by
 rcases g with ⟨j,k,e,m,l⟩|⟨j,k,b,e,m,x,l⟩
 .subst m;obtain⟨z,B,C,c,dd⟩:=W3 I.hok e;obtain⟨i,n,f⟩:=qF (by rw[l];exact c.val k);exact wpAny_getItem_of (XL t) dd.mapOf n (h i _ (I.tok _) f)
 .subst m;cases (t);obtain⟨z,B,F,c,dd⟩:=Xc I.hok e;obtain⟨i,n,f⟩:=qF (by rw[l];exact c.val k);obtain⟨p,hp,q⟩:=Jk.mp n;refine wpAny_getItem_heap (tupleKind_room_in1 w) (XM I.hok x) dd hp ?_;rw[q];exact h i _ (I.tok _) f
def NS {Q:Ya}(n:A.units+1<cLine)(I:Inv X Y Z H s)(g:xE H a y o)(m:jp y u)(h:∀s',Inv X Y Z H s'->Q (.bool (!o.isSome)) s'):
 wpAny (model X.prog X.w) A (compareOp .NotIn u (.ref a)) Q E s:=by
 rcases g with ⟨f,k,e,i,l⟩|⟨f,k,b,e,i,p,l⟩
 .subst i;obtain⟨z,j,t,c,dd⟩:=W3 I.hok e;refine wpAny_notIn_of (XL m) j dd.mapOf ?_;rw[<- (c.val k).isSome_eq,<- l];exact h _ (I.tok _)
 .subst i;cases (m);obtain⟨z,j,w,c,dd⟩:=Xc I.hok e;refine wpAny_notIn_heap (tupleKind_room_in1 n) (XM I.hok p) j dd ?_;have q:=(c.val k).isSome_eq;rw[Option.isSome_map] at q;rw[<- q,<- l];exact h _ (I.tok _)
def EW {c:Heap}{t':Nat}{e:HO}(I:Inv X Y Z H s)(f:hJ (H a))(hs:Heap.SameBut a s.heap c)(g:∃q,c.get? a=some q)(new:yd X.prog X.w (upd H a e) c a e):
 Inv X Y Z (upd H a e) { s with heap:=c,toks:=t' } :=
 I.write f (.inl rfl) (λb q h z=>(hs.2 b h).trans z) g new
def EX {P:Program}{w:World}{g:Hp}{f:Heap}{b:List (j5×V)}{c:List (j5×Value)}(z:b.length<=sizeLine)(h:(a == sysModules)=false)(e:KV b c)(dd:f.DictOf (Qz P w) a c):
 yd P w g f a (.dK b):=⟨z,h,c,e,dd⟩
def NT {x:Hp}{Q:Unit->YC}(J:A.units+1<cLine)(I:Inv X Y Z H s)(g:zS H a y v x)(B:jp y u)(C:jp v r)(h:∀s',Inv X Y Z x s'->Q Yt s'):
 wpAny (model X.prog X.w) A (setItem (.ref a) u r) Q E s:=by
 rcases g with ⟨f,k,e,n,l,p⟩|⟨f,k,b,e,n,F,l,p⟩
 .subst n p;obtain⟨z,t,K,i,dd⟩:=Cg I.hok e;have hz:K.length<=sizeLine:=by rwa [<- i.length]
  have w:(qA f k v).length<=sizeLine:=by have:=Cf f k v;lia
  refine wpAny_setItem_pairs (hsz:=hz) (XL B) dd λG j hs=>h _ ?_;have L:∃q,G.get? a=some q:=let ⟨q,_,_,m,_⟩:=j;⟨q,m⟩
  exact EW I (by rw[e];exact True.intro) hs L (EX w t (i.put k C) j)
 .subst n p;cases (B);obtain⟨z,t,M,i,dd⟩:=fA I.hok e;have hz:M.length<=sizeLine:=by rwa [<- Paired.length i]
  have w:(qA f k v).length<=sizeLine:=by have:=Cf f k v;lia
  refine wpAny_setItem_heap (hsz:=hz) (tupleKind_room_in1 J) (XM I.hok F) dd λG j hs=>h _ ?_;obtain⟨q,es,ep,m,N,O,P,_,R⟩:=j;refine EW I (by rw[e];exact True.intro) hs ⟨q,m⟩ ⟨w,t,_,(i.put k F C).keeps λc ys S=>?_,q,es,ep,m,N,O,P,R⟩
  rwa [JI ()]
end
section
variable {X:Cx}{Y:Yb}{Z: St}{H:Hp}{s:Shared}{a:Addr}{kvs:List (j5×V)}{k:j5}{u:Value}{A:Around}{E:Ya}
def fG {Q:Ya}(I:Inv X Y Z H s)(e:Rd H a (.dK kvs))(h:∀t s',Inv X Y Z H s'->Q (.int kvs.length t) s'):wpAny (model X.prog X.w) A (call (.builtin "len") [.ref a]) Q E s:=by
 obtain⟨z,c,f,b,dd⟩:=W3 I.hok e;refine call_len_dict c dd (by rw[<- b.length];rw[sizeLine_eq] at z;lia) ?_;rw[<- b.length];exact h _ _ (I.tok _)
end
def ww (i:Expr):Prop:=∀a b,subscripted i false a b=operate [a,b] (getItem a b)
def NU {prog:Program}{w:World}{A:Around}{E:Ya}{s:Shared}{env:Env}{b a:Expr}{c:Pos}{T id:String}{Q:Ya}
 (e:typeLookup (.type T) "__getitem__" = pure (some (.builtin id))) (hs:ww a)
 (h:YJ prog w A (eval b env) (λo s₁=>YJ prog w A (eval a env) (λi s₂=>s₂.TypeIs o T/\YJ prog w A (getItem o i) Q E s₂) E s₁) E s):
 YJ prog w A (eval (.Subscript b a c) env) Q E s:=by
 refine Subscript_ (Zc h (λo s₁ h₁=>Zc h₁ (λi s₂ h₂=>?_) λ_ _ x=>x) λ_ _ x=>x);obtain⟨f,h₂⟩:=h₂;refine Za (Za (wpAny_specialOf f e ?_));have g:YJ prog w A (subscripted a false o i) (λr s₃=>YJ prog w A (letTemporaryGo b o r >>= λ_=>pure r) Q E s₃) E s₂:=by
  rw[hs o i];exact wpAny_operating (Zc h₂ (λr s₃ h₃=>Za (wpAny_letTemporaryGo (Zb h₃))) λ_ _ x=>x)
 grind[wpAny_pure,wpAny_bind]
def NV {X:Cx}{Y:Yb}{Z: St}{H:Hp}{s:Shared}{a:Addr}{y:V}{o:YF}(I:Inv X Y Z H s)(g:xE H a y o):s.TypeIs (.ref a) "dict" := by
 rcases g with ⟨c,k,e,_,_⟩|⟨c,k,b,e,_,_,_⟩
 .obtain⟨_,_,f,_,dd⟩:=W3 I.hok e;exact dd.typeIs
 .obtain⟨_,_,h,_,dd⟩:=Xc I.hok e;exact dd.typeIs
def uE (c e:TE):TE:=λZ H Q=>c Z H λx f=>e Z f λy b=>∃a v,x=.ref a/\xE b a y (some v)/\Q v b
def NW (c e:TE):TE:=λZ H Q=>c Z H λy f=>e Z f λx b=>∃a o,x=.ref a/\xE b a y o/\Q (.bl (!o.isSome)) b
def uN (c e f:TE):TS:=λD Z H=>f Z H λv g=>c Z g λx h=>e Z h λy i=>∃a b,x=.ref a/\zS i a y v b/\D.nx Z b
section
variable {X:Cx}{o i e value:Expr}{pos pos' tpos:Pos}{td ty tv:TE}
def Ch (f:X.A.units+1<cLine)(j:PE X o td)(l:PE X i ty)(hs:ww i):PE X (.Subscript o i pos) (uE td ty):=by
 intro Y s Z H Q I h;refine NU PySem.F.slot_dict_getitem.lookup hs (jH (j Y s Z H _ I h) λu m ⟨x,n,p,q,r⟩=>jH (l Y m Z n _ p r) λC E ⟨y,t,c,w,a,v,z,g,A⟩=>?_);subst z;obtain rfl:=q;exact⟨NV c g,NR f c g w λF G B b=>⟨v,t,B,b,A⟩⟩
def NX (b:X.A.units+1<cLine)(c:PE X i ty)(f:PE X o td):PC X .NotIn i o (NW ty td):=by
 intro Y s Z H Q I h;refine jH (c Y s Z H _ I h) λB j ⟨y,l,m,n,p⟩=>jH (f Y j Z l _ m p) λu C ⟨x,q,r,t,a,v,w,g,z⟩=>?_;subst w;obtain rfl:=t;exact NS b r g n λE A=>⟨.bl (!v.isSome),q,A,rfl,z⟩
def EY (b:X.A.units+1<cLine)(c:PE X o td)(f:PE X i ty)(j:PE X value tv)(hs:swapsWith value (some (.Subscript o i pos')) pos.line X.env=pure false):
 PS X (.Assign [.Subscript o i pos'] value pos) (uN td ty tv):=by
 intro Y s Z H D I h;refine wpAny_Assign_Subscript (jH (j Y s Z H _ I h) λr l ⟨v,m,n,p,q⟩=>jH (c Y l Z m _ n q) λu t ⟨x,w,z,A,B⟩=>jH (f Y t Z w _ z B) λL M ⟨y,N,C,E,a,F,G,g,J⟩=>?_) hs;subst G;obtain rfl:=A;exact NT b C g E p λO K=>⟨Z,F,K,J⟩
end
def NY {P:Program}{w:World}{H:Hp}(h:Heap)(a:sysModules<h.objs.size):yd P w H (h.push { cls:=.type "dict",data:=.dict #[] }) h.objs.size (.dK []):=
 ⟨Ua _,(),[],.nil,Heap.DictOf.new h⟩
def NZ:TE:=λ_ H Q=>∀p,H p=none->Q (.ref p) (upd H p (.dK []))
section
variable {X:Cx}{pos:Pos}
def Oa:PE X (.Dict [] [] pos) NZ:=λY s Z H Q I h =>
 wpAny_Dict_empty ⟨.ref s.heap.objs.size,_,I.laid (λ_ _ q=>Zq _ q) (Zf _) (NY s.heap I.big),rfl,h _ (I.hok.fresh (Zf _))⟩
end
def W4 (a more:List (j5×V)):List (j5×V):=more.foldl (λb c=>qA b c.1 c.2) a
def w6:∀{more:List (j5×V)} {rs:List (j5×Value)} {a:List (j5×V)} {b:List (j5×Value)},KV more rs->KV a b->KV (W4 a more) (merged b rs):=by
 intro more rs a b r
 induction r generalizing a b with
 |nil=>intro q;exact q
 | @cons p q ps g h t c =>
  intro f;have e:KV (qA a p.1 p.2) (stored b q.1 q.2):=by
   have:=f.put p.1 h.2
   rwa [<- h.1]
  exact c e
theorem EZ:∀more a,(W4 a more).length<=a.length+more.length
 | [],a=>by show a.length<=a.length+0;lia
 |p::r,a=>by
  have b:=EZ r (qA a p.1 p.2);have c:=Cf a p.1 p.2;show(W4 (qA a p.1 p.2) r).length<=_
  grind
structure M2 (X:Cx)(o:Expr)(m:Str)(apos:Pos)(e f:Expr)(cpos:Pos):Prop where
 base:attributeBase o m X.env (eval o X.env)=eval o X.env
 few:((backTo cpos (starEach [e,f] X.env)).all (λx => !x.1)&&(backToKw cpos (keywordEach [] X.env)).all (λx=>x.1.isSome)
  && decide (([e,f]:Ym).length+([]:List Keyword).length+(if([]:List Keyword).isEmpty then 0 else 1)<30))=true
 line:(apos.endLine == cpos.line)=true
 trees:backTo cpos (starEach [e,f] X.env)=[(false,eval e X.env),(false,eval f X.env)]
def jf (H:Hp)(a:Addr):Prop:=(∃b,Rd H a (.dK b))\/∃b,Rd H a (.dT b)
def Ob {X:Cx}{Y:Yb}{Z: St}{H:Hp}{s:Shared}{a:Addr}(I:Inv X Y Z H s)(d:jf H a):
 s.TypeIs (.ref a) "dict" /\ (∀b,Value.ref a=.ref b->∃c,s.heap.get? b=some c/\c.dict=none)/\(a == sysModules)=false:=by
 rcases d with ⟨f,e⟩|⟨f,e⟩
 .obtain⟨_,g,j,_,dd⟩:=W3 I.hok e;refine⟨dd.typeIs,λb q=>?_,g⟩;cases q;obtain⟨c,_,_,h,i,_⟩:=dd;exact⟨c,h,i.2.1⟩
 .obtain⟨_,g,l,_,dd⟩:=Xc I.hok e;refine⟨dd.typeIs,λb q=>?_,g⟩;cases q;obtain⟨c,_,_,h,i,_⟩:=dd;exact⟨c,h,i.2.1⟩
section
variable {X:Cx}{Y:Yb}{Z: St}{H:Hp}{s:Shared}{a:Addr}{y d:V}{u r:Value}{o:YF}{A:Around}{E:Ya}
def Oc {Q:Ya}(q:A.units+1<cLine)(I:Inv X Y Z H s)(g:xE H a y o)(m:jp y u)(n:jp d r)(h:∀p s',Inv X Y Z H s'->jp (o.getD d) p->Q p s'):
 wpAny (model X.prog X.w) A (call (.builtin "dict.get") [.ref a,u,r]) Q E s:=by
 rcases g with ⟨f,k,e,i,l⟩|⟨f,k,b,e,i,t,l⟩
 .subst i;obtain⟨z,j,w,c,dd⟩:=W3 I.hok e;refine call_meetsIn PySem.F.slot_dict_get dd.typeIs PySem.F.entry_dict_get (PySem.F.args_dict_get_3 _ _ _) (meets_dict_get_default (Qz X.prog X.w) a (XL m) j r) ⟨_,dd.mapOf,h _ _ (I.tok _) ?_⟩;rw[l];exact(c.val k).getD n
 .subst i;cases (m);obtain⟨z,j,v,c,dd⟩:=Xc I.hok e;refine call_meetsIn PySem.F.slot_dict_get dd.typeIs PySem.F.entry_dict_get (PySem.F.args_dict_get_3 _ _ _) (meetsH_dict_get_default (tupleKind (Qz X.prog X.w)) a b j r) ⟨tupleKind_room_in1 q,k,v,XM I.hok t,dd,h _ _ (I.tok _) ?_⟩;rw[l];exact(c.val k).getD n
end
def Od (e f g:TE):TE:=λZ H Q=>e Z H λx b=>∃a,x=.ref a/\jf b a/\f Z b λy h=>g Z h λz c=>∃o,xE c a y o/\Q (o.getD z) c
section
variable {X:Cx}{o e f:Expr}{apos cpos:Pos}{td ty tx:TE}
def Oe (i:X.A.units+1<cLine)(j:PE X o td)(l:PE X e ty)(n:PE X f tx)(m:M2 X o "get" apos e f cpos):PE X (.Call (.Attribute o "get" apos) [e,f] [] cpos) (Od td ty tx):=by
 intro Y s Z H Q I h;refine wpAny_Call_method m.base m.few m.line PySem.F.plainAttrs_dict PySem.F.slot_dict_get PySem.F.type_dict_get (jH (j Y s Z H _ I h) λu p ⟨x,q,c,r,a,t,d,v⟩=>?_);subst t;obtain rfl:=r;obtain⟨w,A,_⟩:=Ob c d;refine⟨w,A,?_⟩;rw[m.trees];exact Calls.callWith_builtin rfl (Calls.evalArgs_plain (Calls.spliced_cons (jH (l Y p Z q _ c v) λO B ⟨y,C,E,F,G⟩ =>
  Calls.spliced_cons (jH (n Y B Z C _ E G) λP R ⟨z,J,K,L,S,g,M⟩=>Calls.spliced_nil (Oc i K g F L λT U N b=>⟨_,J,N,b,M⟩)))))
end
end L2
namespace Att
open PySem PySem.W PySem.Calls PyProof.Rows
theorem Og {P:Params}{h:Heap}:∀ns c,WellAll P h c (ns.map WData.int)->IntsAre c ns:=by
 intro ns
 induction ns with
 |nil =>
  intro c w;cases w;exact .nil
 |cons n ns e =>
  intro c w;cases w with
  |cons a b =>
   cases a;exact .cons _ _ (e _ b)
def Oh {l:OpenLaw}{n:Nat}(m:l.most=some n){P:Params}{h:Heap}{args:List WData}{b:Yf}
 (c:l.row.toRowW.claim.pre args=true) (e:WellAll P h b args):
 ∃a g ns,b=[Value.ref a]/\args=[WData.list (ns.map WData.int)]/\h.get? a=some { cls:=.type "list",data:=.seq g.toArray }/\IntsAre g ns/\ns.length<=n:=by
 obtain⟨d,r,rfl,o,p⟩:=hasAllW_cons ((pre_splitW c).1);obtain rfl:=hasAllW_nil p;obtain⟨u,rfl,q⟩:=hasW_list o;obtain⟨ns,rfl⟩:=items_int q;have i:ns.length<=n:=by
  have f:(WTm.not (.lt (.lit (.int (n:Int))) (.len (.arg 0)))).holds [] { args:=[.list (ns.map .int)] }=true:=by
   have f:=(holds_andW ((pre_splitW c).2)).1
   rwa [m] at f
  have v:=condW_of f rfl
  simp_all
 cases e with
 |cons s t =>
  cases t;cases s with
  |list w j=>grind[Og]
def Oi (l:OpenLaw)(args):l.row.toRowW.claim.post args (.bool true) args=true:=
 postW_of
  rfl
  (w_eq_bool (w_res rfl) w_lit) rfl
def attach_call {l:OpenLaw}{n:Nat}{q:Program}{b:Yk}{A:(Ye)->Heap->Prop}{B:World->Heap->Prop}{d:DefRec}
 (H:l.most=some n) (t:d.params.defaults=[])
 (call:∀w s₀ s₁ mg u h o v p c a g ns,
  Ground q b [] A w s₀ mg u s₁.heap->B w s₁.heap ->
  s₁.heap.get? h=some o->o.data=.func (docDef d.name d.params d.body d.scope v p c)->s₁.heap.CodeRec p d.name->mg d.name=some (.ref h) ->
  s₁.heap.get? a=some { cls:=.type "list",data:=.seq g.toArray }->IntsAre g ns->ns.length<=n->s₁.gens = #[] ->
  codeAny (model l.prog w) callerA (.call (.ref h) ⟨[.ref a],[]⟩) (λr s'=>r=.ok (.ret (.bool true))/\OldK s₁.heap s'.heap/\s'.os=s₁.os/\AllBare s'.gens) s₁):
 WalkO q b A B l.row.toRowW d [] (λf g=>PySem.call f g):=by
 intro w s₀ s₁ mg u G Yy h o v p c S kV I J x C y K args E T i F L z M;obtain rfl:=Dflts.none C t;obtain rfl:=Dflts.noKw C;obtain⟨a,g,ns,rfl,rfl,j,e,m⟩:=Oh H i z;refine enter_call (codeAny_mono (call w s₀ s₁ mg u h o v p c a g ns G Yy I (fd_plain J) x y j e m K) λr s' N=>?_);obtain⟨rfl,O,P,Q⟩:=N;exact⟨.inl ⟨.bool true,.bool true,[],rfl,λ_=>rfl,.bool true,Oi l _,λ_=>⟨List.Pairwise.nil,λ_ R=>(nomatch R)⟩⟩,O,P,Q⟩
end Att
namespace L2
def Oj:∀{a:Yf} {ns:Yh},IntsAre a ns->jo (ns.map V.int) a:=λh=>by
 induction h with
 |nil=>exact .nil
 |cons n t _ b=>exact .cons ⟨t,rfl⟩ b
def vM (H:Hp):Prop:=∀b,H b=none\/∃o a,H b=some (.frz o (.lst a))
def Ol {P:Program}{w:World}{K:W.Frag}{mg G:Ye}{CX:zT}{k:Nat}{I a:Addr}{R:FuncData}{x:Str}{sp:Sp}{s₁:Shared}{p:Yf}{ns:Yh}
 (S:K.In s₁.heap) (t:s₁.heap.Ns mainGlobals mg) (f:s₁.heap.Ns builtinsNs G) (J:∀x:Str,x ≠ "__name__" -> G x=bootBuiltins x) (y:s₁.heap.NoLimit) (Z:s₁.gens = #[])
 (L:s₁.heap.get? a=some { cls:=.type "list",data:=.seq p.toArray }) (T:IntsAre p ns) (hl:ns.length<=sizeLine) (hr:Room k callerA)
 (F:∀g:Heap,K.In g->g.Ns mainGlobals mg->FnOk P w K mg g CX k I R [x] sp) (l:∀s u,BindsTo s R ⟨[u],[]⟩ [(x,u)])
 (M:∀H:Hp,vM H->qp K H a (ns.map V.int)->sp [.ref a] H (λv _=>v=.bl true) λ_ _ _=>False)
 (N:∀H e s',CX [] H s₁ (λ_ _ _=>False) e s'->False):
 codeAny (model P w) callerA (.call (.ref I) ⟨[.ref a],[]⟩) (λr s'=>r=.ok (.ret (.bool true))/\OldK s₁.heap s'.heap/\s'.os=s₁.os/\AllBare s'.gens) s₁:=by
 have U:=Oj T;have A:=T.length;have j:∀H:Hp,vM H->qp K H a (ns.map V.int)->qQ P w H s₁.heap->(∀b,H b≠none->b=a)->(H a≠none->K.lookup a=none) ->
  codeAny (model P w) callerA (.call (.ref I) ⟨[.ref a],[]⟩) (λr s'=>r=.ok (.ret (.bool true))/\OldK s₁.heap s'.heap/\s'.os=s₁.os/\AllBare s'.gens) s₁:=by
  intro H X hS B hA hK;have c:∀{b:Addr} {o:Obj},s₁.heap.get? b=some o->H b=none->(yB s₁.heap H).get? b=some o:=λe n=>ME e n;have O:∀{b:Addr} {o:Obj} {es:Array DictEntry} {ep:Nat},s₁.heap.get? b=some o->o.data=.dict es ep->H b=none:=by grind
  have i:∀{b:Addr} {m:Ye},s₁.heap.Ns b m->(yB s₁.heap H).Ns b m:=λ{b m} ⟨o,es,ep,e,d,r⟩=>⟨o,es,ep,c e (O e d),d,r⟩;have C:K.In (yB s₁.heap H):=λb o e=>c (S b o e) (by
   grind)
  have hM:Mod K mg (yB s₁.heap H):=⟨C,i t,⟨G,i f,J⟩,let ⟨mc,h1,h2⟩:=y;⟨mc,i h1,h2⟩⟩;have e0:Env0 P w K mg (yB s₁.heap H) callerA [] s₁ H:=⟨rfl,hM,λb o e=>MF e,Yx (MC _ _),trivial,λb f=>Zn (show b∈([]:Yl) from f) (),B,.of_eq Z⟩;refine codeAny_mono ((F _ C (i t)).run callerA [] s₁ H ⟨[.ref a],[]⟩ [.ref a] [.ref a] _ _ hr e0 (l s₁ (.ref a)) (.cons rfl .nil) (M H X hS)) λr s' h=>?_;cases r with
  |error e=>exact(N H e s' h).elim
  |ok fl =>
   cases fl with
   |next=>exact False.elim h
   |brk=>exact False.elim h
   |cont=>exact False.elim h
   |ret u =>
    obtain⟨v,H',os,bare,un,E,r',q⟩:=h;have q':v=.bl true:=q;subst q';obtain rfl:=r';refine⟨rfl,OldK.of_keep λb o e=>?_,os,bare⟩;cases q:H b with
    |none=>exact un.keep b o e q (λz=>Zn (show b∈([]:Yl) from z) ()) ()
    |some u =>
     rcases X b with z|⟨ob,xs,z⟩
     .rw[q] at z;cases z
     .obtain⟨Y,_⟩:=B b _ z;obtain⟨e2,_⟩:=E b _ (un.frzs b ob _ z);rw[e] at Y;cases Y;exact e2
 cases Q:K.lookup a with
 |some o =>
  have e:=S a o Q;rw[L] at e;cases e;refine j (λ_=>none) (λ_=>.inl rfl) (.inr ⟨_,p.toArray,_,Q,rfl,rfl,rfl,by rwa [Zm,A],by simpa using U⟩) (λb u z=>by have z':=z;cases z') () λz=>Zn rfl z
 |none =>
  refine j (λb=>if b=a then some (.frz { cls:=.type "list",data:=.seq p.toArray } (.lst (ns.map V.int))) else none) (λb=>?_) (.inl (.inr ⟨{ cls:=.type "list",data:=.seq p.toArray },Zd rfl⟩)) (λb u z=>?_) (λb z=>?_) λ_=>Q
  .by_cases f:b=a
   .exact by grind
   .exact .inl (Ze f)
  .by_cases f:b=a
   .cases ((Zd f).symm.trans z);subst f;exact⟨L,by rwa [Zql],p,_,U,L⟩
   .cases ((Ze f).symm.trans z)
  .by_cases f:b=a
   .exact f
   .exact Zn (Ze f) z
def walk_of {l:W.OpenLaw}{n k:Nat}{q:Program}{g:Yk}{I:(Ye)->Heap->Prop}{B:World->Heap->Prop}{d:DefRec}{K:Params->W.Frag}{CX:World->zT}{sp:World->Sp}{x:Str}
 (J:l.most=some n) (p:n<=sizeLine) (r:d.params.defaults=[]) (L:Room k callerA)
 (M:∀w h,B w h->(K w.params).In h)
 (F:∀w mg m h,(K w.params).In h->h.Ns mainGlobals mg->mg d.name=some (.ref m) ->
  ∃t:FuncData,(∀s u,BindsTo s t ⟨[u],[]⟩ [(x,u)]) /\
   ∀b:Heap,(K w.params).In b->b.Ns mainGlobals mg->FnOk l.prog w (K w.params) mg b (CX w) k m t [x] (sp w))
 (y:∀w H a (ns:Yh),ns.length<=n->vM H->qp (K w.params) H a (ns.map V.int)->sp w [.ref a] H (λv _=>v=.bl true) λ_ _ _=>False)
 (z:∀w H s e s',CX w [] H s (λ_ _ _=>False) e s'->False):
 W.WalkO q g I B l.row.toRowW d [] (λf C=>PySem.call f C):=by
 refine Att.attach_call J r λw s₀ s₁ mg U m o X Y N a C ns G Yy Z hd O A j i c P=>?_;have E:=M w _ Yy;obtain⟨t,Q,R⟩:=F w mg m _ E G.T.g A;exact Ol E G.T.g G.T.b G.T.builtins G.T.nolimit P j i (Zh c p) L R Q (λH S T=>y w H a ns c S T) λH e s'=>z w H s₁ e s'
def Ak (s:Stmt)(j:Nat):Stmt:=match s with
 | .ClassDef _ _ _ body _ _ _ _ _ _ _=>body.getD j (.Pass ⟨0,0,0,0⟩)
 |_=>.Pass ⟨0,0,0,0⟩
def W5 (s:Stmt):Arguments:=match s with
 | .FunctionDef _ a _ _ _ _ _ _ _ _=>a
 |_=>{ posonlyargs:=[],args:=[],vararg:=none,kwonlyargs:=[],kw_defaults:=[],kwarg:=none,defaults:=[] }
def QL (s:Stmt):List Stmt:=match s with
 | .FunctionDef _ _ b _ _ _ _ _ _ _=>b
 |_=>[]
def JR (s:Stmt):Scope:=match s with
 | .FunctionDef _ _ _ _ _ _ sc _ _ _=>sc
 |_=>{ kind:=.function,names:=[],isGenerator:=false,isCoroutine:=false }
abbrev yw:zT:=λ_ _ _ _ _ _=>False
abbrev E0:XK:=λ_ _ _=>False
def Fa {X:Cx}:Xa yw X E0:=λ_ _ _ _ _ _ _ h=>h.elim
structure Fun (K:W.Frag)(x qual:Str)(st:Stmt)(f:Addr)(fd:FuncData):Prop where
 ex:∃(oc:Value) (od:Option Addr) (kV doc pm:Value) (an:Option Addr) (cdv ct:Value) (osl:Array Yg),
  fd=W.fnOf x qual (W5 st) (QL st) (JR st) .none kV doc pm an cdv ct/\K.lookup f=some ⟨oc,od,.func fd,osl⟩/\W.codeIn K cdv qual=true
 kp:W.keepIn K (.ref f)=true
section
variable {P:Program}{w:World}{K:W.Frag}{mg:Ye}{base:Heap}
def Fun.ok {x b:Str}{st:Stmt}{f:Addr}{l:FuncData}{N ps:Yk}{k:Nat}{sp:Sp}(F:Fun K x b st f l)(S:FnScope N ps (JR st))(len:∀e H Q E,sp e H Q E->e.length=ps.length)
 (g:∀c A a s H e Q E,Room k (A.deeper (envOfC b (JR st) s.heap.objs.size f c))->sp e H Q E ->
  ∃t,qO (jW yw P w K mg base N b (JR st) f c A a s H E).nox (QL st) t/\t { nx:=λ_ m=>Q .non m,rt:=Q } (start N e) H):FnOk P w K mg base yw (k+1) f l ps sp:=by
 obtain⟨u,v,kV,n,y,z,c,ct,o,rfl,p,i⟩:=F.ex;refine EN p i S len λA a s H e Q E r j=>?_;obtain⟨t,h,q⟩:=g c A a s H e Q E r j;exact⟨t,h.nox,q⟩
def Fun.binds {x a:Str}{st:Stmt}{f:Addr}{j:FuncData}{ps:Yk}(F:Fun K x a st f j)
 (h:∀kV b e g c ct i,i.length=ps.length->bindArgs (W.fnOf x a (W5 st) (QL st) (JR st) .none kV b e g c ct) ⟨i,[]⟩=pure (ps.zip i)):zX K j ps []:=by
 obtain⟨n,o,kV,b,e,g,c,ct,l,rfl,p,m⟩:=F.ex;exact .all (h kV b e g c ct)
def fun_mk {x a:Str}{st:Stmt}{f:Addr}{j:Value}{m h:Option Addr}{g:Array Yg}{kV e i b ct:Value}(l:K.lookup f=some ⟨j,m,.func (W.fnOf x a (W5 st) (QL st) (JR st) .none kV e i h b ct),g⟩)
 (c:W.codeIn K b a=true) (k:W.keepIn K (.ref f)=true):Fun K x a st f (W.fnOf x a (W5 st) (QL st) (JR st) .none kV e i h b ct):=⟨⟨j,m,kV,e,i,h,b,ct,g,rfl,l,c⟩,k⟩
end
def Qa {A:Around}{k:Nat}(a:Room k A):A.units+1<cLine:=UH () a.units
def Fb {n:Nat}(h:n<=1000):n<sizeLine:=UH h (by decide)
section
variable {X:Cx}
def pv (i){x:Str}{a:Pos}(c:X.N[i]? = some x:=by rfl)(e:bW X.env.scope x:=by first|exact Or.inl rfl|exact Or.inr (Or.inl rfl)|exact Or.inr (Or.inr rfl))(f:(x == ("__debug__" : Str))=false:=by decide)
 (b:(x == ("__classdict__" : Str))=false:=by decide):PE X (.Name x a) (xy i):=MI c e f b
end
def jk (H a:Hp):Prop:=∀b o,H b=some o->a b=some o
theorem jk.refl (H):jk H H:=λ_ _ h=>h
theorem jk.trans {H e f:Hp}(a:jk H e)(b:jk e f):jk H f:=λc o h=>b c o (a c o h)
def jk.free {H a:Hp}(e:jk H a){l:Addr}(h:a l=Option.none):H l=Option.none:=by
 cases q:H l with
 |none=>rfl
 |some o =>
  rw[e l o q] at h;cases h
def jk.seq {K:W.Frag}{H b:Hp}{a:Addr}{c:YE}(e:jk H b)(h:qp K H a c):qp K b a c:=by
 rcases h with (h|⟨o,h⟩)|h
 .exact .inl (.inl (e _ _ h))
 .exact .inl (.inr ⟨o,e _ _ h⟩)
 .exact .inr h
section
variable {X:Cx}
def Om:jO X (.builtin "len") (λc H Q=>∃a b,c=[V.ref a]/\H a=some (.dK b)/\Q (.int b.length) H):=by
 intro Y s Z H c i Q I r h;obtain⟨a,b,rfl,e,q⟩:=h;obtain⟨u,rfl,f⟩:=QD r;cases f;exact fG I (.inl e) λt s' g=>⟨.int b.length,H,g,⟨t,rfl⟩,q⟩
end
end L2
def J5 {P:Prop}{α: Type}{z:α}(h:none=some z):P:=by cases  h
def JC {P:Prop}(h:false=true):P:=by cases  h
namespace L2
theorem Ci (env):∀(names:List (Str×NameKind)) b,(∀y∈names,y.2=.free->∃c,env.cells.lookup y.1=some c) ->
 ∃f,(forIn names b λ(x:Str×NameKind) (r:List (Str×Addr))=>(match x with
  | (name,kind)=>if(kind == NameKind.free)=true then do let a <- cellOf env name;pure (ForInStep.yield ((name,a)::r)) else pure (ForInStep.yield r):Sem (ForInStep (List (Str×Addr)))))=(pure f:Sem (List (Str×Addr))) /\
  (∀x c,f.lookup x=some c->env.cells.lookup x=some c\/b.lookup x=some c)/\(∀x c,b.lookup x=some c->∃g,f.lookup x=some g)/\∀y∈names,y.2=.free->∃c,f.lookup y.1=some c
 | [],b,_=>⟨b,rfl,λ_ _ h=>.inr h,λx c h=>⟨c,h⟩,λ_ h=>nomatch h⟩
 | (n,k)::r,b,h=>by
  rw[List.forIn_cons];cases j:(k == NameKind.free) with
  |true =>
   have i:k=.free:=by simp_all
   obtain⟨c,l⟩:=h (n,k) Zqs i;obtain⟨f,e,m,o,p⟩:=Ci env r ((n,c)::b) ();refine⟨f,?_,λx g q=>?_,λx g q=>?_,λy s t=>?_⟩
   .simp only[j,cellOf,l];exact e
   .grind
   .grind
   grind
  |false =>
   have ⟨f,e,m,o,p⟩:=Ci env r b ()
   grind
def Oo (env)(a)(h:∀y∈a.names,y.2=.free->∃c,env.cells.lookup y.1=some c):
 ∃b,closureFor a env=pure b/\(∀x c,b.lookup x=some c->env.cells.lookup x=some c)/\∀y∈a.names,y.2=.free->∃c,b.lookup y.1=some c:=by
 obtain⟨b,e,f,_,g⟩:=Ci env a.names [] h;refine⟨b,?_,λx c i=>(f x c i).elim id (λq=>by simp at q),g⟩
 first
 | (rfl)
 |exact(Zt (· >>= λj=>pure j) e)
theorem Am {env:Env}{x:Str}:∀{names:List (Str×NameKind)},
 (names.lookup x=some .free->(names.map λ(n,k)=>if(k == NameKind.free&&env.scope.kind == .function&&env.kindOf n == some .cell) then(n,NameKind.cell) else(n,k)).lookup x=some .cell\/(names.map λ(n,k)=>if(k == NameKind.free&&env.scope.kind == .function&&env.kindOf n == some .cell) then(n,NameKind.cell) else(n,k)).lookup x=some .free) /\
 (∀a,(names.map λ(n,k)=>if(k == NameKind.free&&env.scope.kind == .function&&env.kindOf n == some .cell) then(n,NameKind.cell) else(n,k)).lookup x=some a->(a=.cell\/a=.free)->names.lookup x=some .free\/names.lookup x=some .cell)
 | []=>by simp
 | (n,k)::r=>by
  obtain⟨b,c⟩:=@Am env x r
  grind
theorem XN:∀names n a,cellsFrom n names a=cellsFrom n names []++a
 | [],_,_=>rfl
 | (name,kind)::r,n,a=>by
  unfold cellsFrom
  split
  .rw[XN r (n+1) ((name,n)::a),XN r (n+1) [(name,n)],Uh];rfl
  .exact XN r n a
theorem Cj:∀names n a,(x,c)∈cellsFrom n names a->(x,c)∈a\/(x,NameKind.cell)∈names
 | [],_,_,h=>.inl h
 | (name,kind)::r,n,a,h=>by
  unfold cellsFrom at h
  split at h
  .rcases Cj r (n+1) ((name,n)::a) h with z|z
   .grind
   simp_all
  .rcases Cj r n a h with z|z
   .exact .inl z
   simp_all
def Fc:Option NameKind->Bool
 |some .cell=>true
 |_=>false
def Op (h:Fc o=true):o=some .cell:=by
 cases o with
 |none=>exact JC h
 |some k=>cases k<;>first|rfl|exact JC h
structure CellsAt (scope:Scope)(env:Env)(cl:List (Str×Addr))(C:Addr)(h1:Heap):Prop where
 from_:∀x c,cl.lookup x=some c->(env.cells.lookup x=some c/\scope.names.lookup x≠some .cell)\/(C<c/\h1.IsCell c none)
 free:∀x,scope.names.lookup x=some .free->∃c,cl.lookup x=some c/\env.cells.lookup x=some c
 own:∀x,scope.names.lookup x=some .cell->∃c,cl.lookup x=some c
 inj:∀x y c,cl.lookup x=some c->cl.lookup y=some c->x=y
def Oq (f:∀x c,cl.lookup x=some c->env.cells.lookup x=some c)(g:∀y∈a.names,y.2=.free->∃c,cl.lookup y.1=some c)
 (inj:∀x y c,env.cells.lookup x=some c->env.cells.lookup y=some c->x=y) (low:∀x c,env.cells.lookup x=some c->c<=C) (h:h0.objs.size=C+1) (i:∀y∈a.names,y.2=.cell->a.names.lookup y.1=some .cell):
 CellsAt a env (cellsFrom (C+1) a.names cl) C (pushCells h0 a.names):=by
 have ok:=cellsFrom_ok a.names h0 (C+1) [] ⟨(),List.Pairwise.nil⟩ ();rw[h] at ok;have look:∀x c,(cellsFrom (C+1) a.names cl).lookup x=some c->((x,c)∈cellsFrom (C+1) a.names [])\/(cl.lookup x=some c/\a.names.lookup x≠some .cell):=λx c e=>by
  rw[XN,List.lookup_append] at e;cases q:(cellsFrom (C+1) a.names []).lookup x with
  |some d =>
   grind[Zqi,PySem.mem_of_lookup]
  |none =>
   rw[q] at e;refine .inr ⟨e,λz=>?_⟩;have:=W.cellsFrom_some a.names (C+1) [] (.inl z);rw[q] at this;exact JC this
 refine⟨λx c e=>?_,λx e=>?_,λx e=>?_,λx y c j l=>?_⟩
 .rcases look x c e with z|⟨z1,z2⟩
  .exact .inr ⟨(ok.empty x c z).2,(ok.empty x c z).1⟩
  simp_all
 .obtain⟨c,b⟩:=g (x,.free) (PySem.mem_of_lookup e) rfl;refine⟨c,?_,f x c b⟩;rw[XN,List.lookup_append];cases q:(cellsFrom (C+1) a.names []).lookup x with
  |some d =>
   rcases Cj _ _ _ (PySem.mem_of_lookup q) with z|z
   .cases z
   .have:=i (x,.cell) z rfl;rw[e] at this;cases this
  |none=>exact b
 .exact Jt.mp (W.cellsFrom_some a.names (C+1) cl (.inl e))
 .rcases look x c j with z|⟨z1,_⟩<;>rcases look y c l with w|⟨w1,_⟩
  .exact PySem.name_of_addr ok.apart z w
  .exact Zn (low y c (f y c w1)) (Nat.not_le_of_lt (ok.empty x c z).2)
  .exact Zn (low x c (f x c z1)) (Nat.not_le_of_lt (ok.empty y c w).2)
  .exact by grind
def Os
 (a:Q (newEnv scope s.heap.objs.size globals (cellsFrom (s.heap.objs.size+1) scope.names cl) qual none .none (some env) builtinsNs) { s with heap:=pushCells (s.heap.push { cls:=.type "dict",data:=.dict #[] }) scope.names }):
 wpAny M A (newFunctionEnv scope globals cl [] qual none .none (some env)) Q E s:=by
 refine Za (wpAny_alloc (Za (wpAny_layCells _ () _ _ _ _ ?_)));rw[Heap.size_push ..];exact Za (Zb (Zb a))
def XO (X:Cx)(C:Addr):Ya:=λx s'=>∃m,s'.heap.Ns C m/\∀b,Heap.SameBut C s'.heap b->∀a:Env,a.locals=C->YI X (passOn "comprehension.variables-let-go" x a:Sem Value) (λ_ _=>False) X.xe { s' with heap:=b }
def JJ (X:Cx)(a:Scope)(N:Yk)(b:List (Str×Addr))(C:Addr)(s:Shared)(H:Hp)(ex:Yl):Cx where
 prog:=X.prog
 w:=X.w
 K:=X.K
 mg:=X.mg
 base:=X.base
 A:=X.A
 N:=N
 s₀:=s
 H₀:=H
 env:=compEnvC a b C X.env
 outer:=X.stack
 stack:=X.stack
 ex:=ex
 fn:=λx=>Fc (a.names.lookup x)
 calm:=X.calm
 pn:=[]
 xe:=notedBy (model X.prog X.w) X.A (compEnvC a b C X.env) (XO X C)
def W6 (X:Cx)(C:Addr)(s:Shared)(H:Hp)(a:Yl):Prop:=∃Y Z,Inv X Y Z H s/\(∀b∈a,xg X Y H b)/\s.heap.objs.size<=C
def KP (cap:List (Option Nat))(Z: St):St:=cap.map λo=>o.bind λj=>(Z[j]?).join
structure CompOk (X:Cx)(scope:Scope)(N:Yk)(cap:List (Option Nat)):Prop where
 kind:scope.kind=.function
 loc:∀y∈scope.names,y.2=.local->scope.names.lookup y.1=some .local
 cell:∀y∈scope.names,y.2=.cell->scope.names.lookup y.1=some .cell
 free:∀y∈scope.names,y.2=.free->X.env.kindOf y.1=some .cell\/X.env.kindOf y.1=some .free
 len:cap.length=N.length
 cap:∀(i j:Nat) (x:Str),cap[i]? = some (some j)->N[i]? = some x->X.N[j]? = some x/\scope.names.lookup x=some .free
def QF (a:Scope)(env:Env)(b N:Yk)(cap:List (Option Nat)):Bool:=
 decide (a.kind=.function)&&a.names.all (λy => !decide (y.2=.local)||decide (a.names.lookup y.1=some .local))&&a.names.all (λy => !decide (y.2=.cell)||decide (a.names.lookup y.1=some .cell)) &&
 a.names.all (λy => !decide (y.2=.free)||(decide (env.kindOf y.1=some .cell)||decide (env.kindOf y.1=some .free)))&&decide (cap.length=b.length) &&
 (b.zip cap).all (λp=>match p.2 with|none=>true|some j=>decide (N[j]? = some p.1)&&decide (a.names.lookup p.1=some .free))
def CompOk.of {X:Cx}{a:Scope}{N:Yk}{cap:List (Option Nat)}(h:QF a X.env N X.N cap=true):CompOk X a N cap:=by
 unfold QF at h;simp only[Ue,decide_eq_true_eq,U7] at h;obtain⟨⟨⟨⟨⟨c,m⟩,n⟩,o⟩,e⟩,p⟩:=h;refine⟨c,λy b f=>?_,λy b f=>?_,λy b q=>?_,e,λi j x g l=>?_⟩
 .grind
 .grind
 .grind
 .have r:(x,some j)∈N.zip cap:=by
   refine Ud (i:=i) ?_;rw[VN];exact⟨l,g⟩
  grind
section
variable {X:Cx}{scope:Scope}{N:Yk}{cap:List (Option Nat)}{Y:Yb}{Z: St}{H:Hp}{s:Shared}{cl:List (Str×Addr)}{C D:Addr}{fp:Yl}
def Ot (ok:CompOk X scope N cap)(I:Inv X Y Z H s)(B:∀b∈fp,xg X Y H b)(y:∀b∈fp,b<s.heap.objs.size)
 (a:CellsAt scope X.env cl C h1)
 (t:s.heap.objs.size<=C) (g:∀b o,s.heap.get? b=some o->h1.get? b=some o) (E:h1.Ns C m):
 Inv (JJ X scope N cl C s H fp) [] (KP cap Z) H { s with heap:=h1,toks:=tk }:=by
 have K:∀x,(JJ X scope N cl C s H fp).env.kindOf x=some .cell\/(JJ X scope N cl C s H fp).env.kindOf x=some .free->scope.names.lookup x=some .free\/scope.names.lookup x=some .cell:=λx h=>by
  rcases h with h|h
  .exact(Am (env:=X.env) (x:=x) (names:=scope.names)).2 _ h (.inl rfl)
  .exact(Am (env:=X.env) (x:=x) (names:=scope.names)).2 _ h (.inr rfl)
 refine⟨⟨I.ok.mod,ok.kind,I.ok.glob,I.ok.blt,t,a.inj,λx h=>?_,λx c z e=>?_,I.ok.hd,I.ok.frames,.inl rfl,λb n=>⟨?_,λx c e=>?_⟩,I.bs,Zh I.ok.bsz I.sz,
  λb o e n=>?_,λb n z=>?_,I.stack,I.stkFree⟩,rfl,I.bare,Un.kept g,⟨m,E,λi x v F f U=>?_⟩,λx c e=>?_,I.hok.fresh t,λx c e=>?_,λp hp=>Zn hp (by show ¬p∈([]:Yb)++[];simp),I.hok.kept g,?_⟩
 .rcases K x h with q|q
  .obtain⟨c,e,_⟩:=a.free x q;exact⟨c,e⟩
  .exact a.own x q
 .rcases a.from_ x c e with ⟨_,q⟩|⟨q,_⟩
  .exact Zn (Op z) q
  .exact Zh t (Zz q)
 .exact Zi (Zg (y b n) t)
 .rcases a.from_ x c e with ⟨q,_⟩|⟨q,_⟩
  .exact(B b n).2.2.2.2.1 x c q
  .exact U6 (Ug (Zg (y b n) t) q)
 .rcases(B b n).2.2.2.1 with z|z
  .exact I.ok.noex b o e z
  .exact Zn (Zg (Zk e) (Zh I.ok.bsz z)) (Zy _)
 .rcases UV.mp (I.stkSub b z) with q|q
  .exact(B b n).2.1 q
  .exact(B b n).2.2.1 q
 .have F:N[i]? = some x:=F;have L:∃j,cap[i]? = some (some j) /\ Z[j]? = some (some v):=by
   have f:(cap.map λo=>o.bind λj=>(Z[j]?).join)[i]? = some (some v):=f;rw[Zv] at f;cases q:cap[i]? with
   |none=>rw[q] at f;exact J5 f
   |some o =>
    rw[q] at f;cases o with
    |none=>cases f
    |some j =>
     have f:some ((Z[j]?).join)=some (some v):=f;cases G:Z[j]? with
     |none=>rw[G] at f;cases f
     |some w=>rw[G] at f;exact⟨j,rfl,by cases f;exact G⟩
  obtain⟨j,M,O⟩:=L;obtain⟨P,J⟩:=ok.cap i j x M F;obtain⟨m0,_,Q⟩:=I.loc;have R:=ok.free (x,.free) (PySem.mem_of_lookup J) rfl;obtain⟨u,r,l⟩:=Q j x v P O (R.elim (λz=>.inr (.inl z)) λz=>.inr (.inr z));refine⟨u,r,.inr ⟨(Am (x:=x)).1 J,?_⟩⟩;rcases l with ⟨k,_⟩|⟨_,c,S,z⟩
  .simp_all
  .obtain⟨c',T,A⟩:=a.free x J;rw[S] at A;obtain rfl:=Zqi A;exact⟨c,T,z.keeps g⟩
 .rcases a.from_ x c e with ⟨q,_⟩|⟨_,q⟩
  .obtain⟨v,z⟩:=I.cell x c q;exact⟨v,z.keeps g⟩
  .exact⟨none,q⟩
 .rcases a.from_ x c e with ⟨q,_⟩|⟨q,_⟩
  .exact I.freeC x c q
  .exact I.hok.fresh (Zh t (Zz q))
 .show(cap.map _).length=N.length;rw[Zql];exact ok.len
def Ou (I:Inv X Y Z H s)(g:∀b∈fp,xg X Y H b)(l:s.heap.objs.size<=C)(m:s.heap.objs.size<=D)(h:D≠C)
 (J:Inv (JJ X scope N cl C s H fp) [] Z' H' s') (p:s'.heap.get? D=some { cls:=.type "list",data:=.seq its.toArray k }) (y:H' D=none) (r:jo ys its) (hz:ys.length<=sizeLine) (hs:Heap.SameBut C s'.heap h')
 (q:Q (.ref D) (upd H' D (.lst ys))):EP X Y Z Q (.ref D) { s' with heap:=h' }:=by
 have i:∀b o,s.heap.get? b=some o->b≠C:=λb o e=>Zi (Zg (Zk e) l);have t:∀b o,s.heap.get? b=some o->b≠D:=λb o e=>Zi (Zg (Zk e) m);have tD:∀b u,H' b=some u->b≠D:=by grind
 have tC:∀b u,H' b=some u->b≠C:=λb u e z=>by
  have:=J.free;rw[z,show H' C=none from this] at e;exact J5 e
 have B:=J.base;refine⟨.ref D,upd H' D (.lst ys),I.call' J.os ?_ ?_ J.bare (λb a=>⟨(g b a).2.2.2.1,(g b a).2.1,(g b a).2.2.2.2.1,(g b a).2.2.2.2.2⟩),rfl,q⟩
 .refine⟨λb o e n a f=>(hs.2 b (i b o e)).trans (B.keep b o e n a f),λb o e n a f=>?_,λb o e n f=>?_,λb o e f=>?_,λb j e=>?_,λb o u e=>?_,λb ps e=>?_⟩
  .obtain⟨w,z⟩:=B.slot b o e n a f;exact⟨w,(hs.2 b (i b o e)).trans z⟩
  .rw[JI (t b o e)];exact B.free b o e n f
  .obtain⟨x,z⟩:=B.there b o e f;exact⟨x,(hs.2 b (i b o e)).trans z⟩
  .have z:=B.tups b j e
   rwa [JI (tD b _ z)]
  .have z:=B.frzs b o u e
   rwa [JI (tD b _ z)]
  .obtain⟨more,z⟩:=B.tbls b ps e;exact⟨more,by rwa [JI (tD b _ z)]⟩
 .intro b u e;by_cases a:b=D
  .subst a;rw[JL] at e;obtain rfl:=Zqi e;exact⟨hz,its,k,r,(hs.2 b h).trans p⟩
  .rw[JI a] at e;refine(J.hok b u e).stay (λc v A z=>(hs.2 c ?_).trans z) (λc z=>by rwa [JI (tD c _ z)]) (λc j z=>by rwa [JI (tD c _ z)])
   grind
end
def fM (cap:List (Option Nat))(g:TG)(h:TE)(Z: St)(Q:VK):It->Hp->Prop:=λJ j=>∃W:Nat->Nat->YE->St->Hp->Prop,(∃m,W 0 m [] (KP cap Z) j)/\∀i m ys b a,W i m ys b a->ys.length<sizeLine /\
 (
  (J.stop i a/\∀D,a D=none->Q (.ref D) (upd a D (.lst ys))) \/
  (J.go i a/\∀x c,J.yld i a x c->g x b c λe l=>h e l λy n=>∃f,f<m/\W (i+1) f (ys++[y]) e n))
def Xd (cap:List (Option Nat))(wi:TI)(g:TG)(a:TE):TE:=λZ H Q=>wi Z H (fM cap g a Z Q)
def Ov (cap:List (Option Nat))(g:TG)(l:TT)(n:TE)(Z: St)(Q:VK):It->Hp->Prop:=λJ o=>∃W:Nat->Nat->YE->St->Hp->Prop,(∃m,W 0 m [] (KP cap Z) o)/\∀i m ys f a,W i m ys f a->ys.length<sizeLine /\
 (
  (J.stop i a/\∀D,a D=none->Q (.ref D) (upd a D (.lst ys))) \/
  (J.go i a/\∀x h,J.yld i a x h->g x f h λe p=>l e p λb j=>if b=true then n e j (λy q=>∃c,c<m/\W (i+1) c (ys++[y]) e q) else ∃c,c<m/\W (i+1) c ys e j))
def XP (cap:List (Option Nat))(wi:TI)(g:TG)(a:TT)(b:TE):TE:=λZ H Q=>wi Z H (Ov cap g a b Z Q)
section
variable {X:Cx}{tg iter elt c:Expr}{scope:Scope}{pos:Pos}{wi:TI}{g:TG}{te:TE}{tt:TT}
def XQ (X:Cx)(Y:Yb)(Z: St)(Q:VK)(use:Option (Value->Sem Unit))(R:Ya):Prop:=
 ∀(C D:Addr) (m:Ye) (a:Shared) (r:Flow),a.heap.Ns C m->¬C=X.env.locals->C∉X.fs->X.s₀.heap.objs.size<=C->(∀x c,X.env.cells.lookup x=some c->c≠C)->(∀p∈X.pn++Y,p.1≠C) ->
  (∀b,Heap.SameBut C a.heap b->EP X Y Z (λv e=>e C=none/\Q v e) (.ref D) { a with heap:=b })->compPost (model X.prog X.w) X.A X.xe use R (.ref D) C (.ok r) a
def Fd:XQ X Y Z Q none (EP X Y Z Q):=λC D m j r b _ _ _ _ _ k=>⟨m,b,λe a=>by
 obtain⟨v,f,h,i,_,q⟩:=k e a;exact⟨v,f,h,i,q⟩⟩
def fY (X:Cx)(tg elt:Expr)(it a:Value)(env:Env)(R:Result->YC)(I:Nat->YC)(test:(Bool->YC)->YC)(n:Nat)(s:Shared):Prop:=
 let E:Ya:=notedBy (model X.prog X.w) X.A env λe s'=>R (.error e) s'
 YI X (pyNext it) (λr b=>match r with
  |none=>R (.ok .next) b
  |some v=>YI X (letOwnedTupleGo tg it v) (λ_ h=>YI X (assign tg env v) (λ_ i=>test (λok f=>if ok=true then YI X (eval elt env) (λx j=>YI X (call (.builtin "list.append") [a,x]) (λ_ l=>∃m,m<n/\I m l) E j) E f else ∃m,m<n/\I m f) i) E h) E b) E s
def Fe {ifs:Ym}(N){test:Env->(Result->YC)->(Bool->YC)->YC}
 (lp:∀{it acc:Value} {env:Env} {R:Result->YC} {s:Shared} I,(∀n s,I n s->fY X tg elt it acc env R I (test env R) n s)->∀n,I n s->codeAny (model X.prog X.w) X.A (.compLoop (.ListComp elt [⟨tg,iter,ifs,0⟩] scope pos) 0 it acc env) R s)
 (ht:∀t C s H S {Y:Yb} {s7:Shared} {U:St} {H7:Hp} {R:Result->YC} {q:Bool->Hp->Prop} {Q:Bool->YC},W6 X C s H S->(∀e s',XO X C e s'->R (.error e) s')->Inv (JJ X scope N t C s H S) Y U H7 s7->tt U H7 q->(∀b s8 H8,Inv (JJ X scope N t C s H S) Y U H8 s8->q b H8->Q b s8)->test (compEnvC scope t C X.env) R Q s7)
 (cap) (hc:X.calm=true) (okB:QF scope X.env N X.N cap=true) (hi:PI X tg iter wi) (hg:∀t C s H S,PG (JJ X scope N t C s H S) tg g) (he:∀t C s H S,W6 X C s H S->PE (JJ X scope N t C s H S) elt te)
 (hs:∀x,foldedSetIterable iter X.env x=pure x) {use:Option (Value->Sem Unit)} {R:Ya} {fpos:Pos} {Y:Yb} {s:Shared} {Z: St} {H:Hp} {Q:VK} (I:Inv X Y Z H s) (h:XP cap wi g tt te Z H Q) (fin:XQ X Y Z Q use R):
 YI X (comprehension (.ListComp elt [⟨tg,iter,ifs,0⟩] scope pos) scope X.env fpos (newList []) false (eval iter X.env) use) R X.xe s:=by
 have ok:=CompOk.of okB;obtain⟨cl0,hcl,hcl1,hcl2⟩:=Oo X.env scope λy hy hf=>I.ok.has y.1 (ok.free y hy hf);refine wpAny_comprehension_free (use:=use) rfl hs hcl ok.kind ok.loc (jH (hi Y s Z H _ I h) λxv s1 h1=>jH h1 λitv a h2=>?_);obtain⟨it,l,tn,J,B,e,A,T,st2,f2,W,⟨m0,w0⟩,turn⟩:=h2;subst e;have G:∀b∈l,b<a.heap.objs.size:=λb w=>let ⟨_,e,_⟩:=T.obj _ _ st2 b w;Zk e
 refine wpAny_newObj_type (Os ?_);dsimp only;generalize hP:a.heap.push { cls:=.type "list",dict:=none,data:=.seq ([]:Yf).toArray }=P2;have hC:P2.objs.size=a.heap.objs.size+1:=by rw[<- hP,Heap.size_push]
 have K:a.heap.objs.size≠P2.objs.size:=by rw[hC];exact by lia
 have j:a.heap.objs.size<=P2.objs.size:=by rw[hC];exact Nat.le_succ _
 have below:∀b,b<a.heap.objs.size->b≠P2.objs.size/\b≠a.heap.objs.size:=()
 have L:CellsAt scope X.env (cellsFrom (P2.objs.size+1) scope.names cl0) P2.objs.size (pushCells (P2.push { cls:=.type "dict",data:=.dict #[] }) scope.names):=
  Oq hcl1 hcl2 A.ok.inj (λx c e=>Zh (Zz (let ⟨_,_,ho,_⟩:=A.cell x c e;Zk ho)) j) (Heap.size_push ..) ok.cell
 have hns1:(pushCells (P2.push { cls:=.type "dict",data:=.dict #[] }) scope.names).Ns P2.objs.size (λ_=>none):=(Heap.Ns.new P2 (.type "dict")).keeps (pushCells_keeps _ _);generalize cellsFrom (P2.objs.size+1) scope.names cl0=t at L ⊢;have M:∀b o,a.heap.get? b=some o->(pushCells (P2.push { cls:=.type "dict",data:=.dict #[] }) scope.names).get? b=some o:=λb o e=>pushCells_keeps _ _ b o (Zq _ (hP ▸ Zq _ e));have hacc:(pushCells (P2.push { cls:=.type "dict",data:=.dict #[] }) scope.names).get? a.heap.objs.size=some { cls:=.type "list",data:=.seq ([]:Yf).toArray 0 }:=pushCells_keeps _ _ _ _ (Zq _ (hP ▸ Zr _ rfl));generalize pushCells (P2.push { cls:=.type "dict",data:=.dict #[] }) scope.names=g1 at L hns1 M hacc ⊢;have E:∀{H':Hp} {pl:Yb},(∀b∈l,H' b=none)->(∀p∈pl,p.1∉l)->∀b∈l,xg (JJ X scope N t P2.objs.size a B l) pl H' b:=λ{H' pl} hn hp b w=>by
  refine⟨hn b w,(below b (G b w)).1,λz=>?_,.inl w,λx c e=>?_,λp hq z=>?_⟩
  .rcases UV.mp (A.stkSub b z) with q|q
   .exact(f2 b w).2.1 q
   .exact(f2 b w).2.2.1 q
  .rcases L.from_ x c e with ⟨q,_⟩|⟨q,_⟩
   .exact(f2 b w).2.2.2.2.1 x c q
   .exact U6 (Ug (Zg (G b w) j) q)
  .have hq:p∈([]:Yb)++pl:=hq
   grind[List.nil_append]
 have nD:a.heap.objs.size∉l:=λz=>Zn (G _ z) (Zy _);have loop:∀s3:Shared,s3={ a with heap:=g1 } ->
  codeAny (model X.prog X.w) X.A (.compLoop (.ListComp elt [⟨tg,iter,ifs,0⟩] scope pos) 0 (.ref it) (.ref a.heap.objs.size) (compEnvC scope t P2.objs.size X.env))
   (compPost (model X.prog X.w) X.A X.xe use R (.ref a.heap.objs.size) P2.objs.size) s3:=by
  rintro s3 rfl;have I0:=Ot (tk:=a.toks) ok A f2 G L j M hns1;refine lp (λn s'=>∃i ys its k Z' H',Inv (JJ X scope N t P2.objs.size a B l) [] Z' H' s'/\tn i s'.heap/\(∀b∈l,H' b=none)/\s'.heap.get? a.heap.objs.size=some { cls:=.type "list",data:=.seq (List.toArray its) k } /\
   H' a.heap.objs.size=none/\jo ys its/\W i n ys Z' H') ?_ m0
   ⟨0,[],[],0,KP cap Z,B,I0,T.keep _ _ _ st2 (λb _ o e=>M b o e),λb w=>(f2 b w).1,hacc,A.hok.fresh (Zf _),.nil,w0⟩
  have cat:W6 X P2.objs.size a B l:=⟨_,_,A,f2,j⟩;have ce:∀e s',XO X P2.objs.size e s'->compPost (model X.prog X.w) X.A X.xe use R (.ref a.heap.objs.size) P2.objs.size (.error e) s':=λe s' h=>by cases use<;>exact h
  have xe:∀e s',(JJ X scope N t P2.objs.size a B l).xe e s'->notedBy (model X.prog X.w) X.A (compEnvC scope t P2.objs.size X.env) (λe s'=>compPost (model X.prog X.w) X.A X.xe use R (.ref a.heap.objs.size) P2.objs.size (.error e) s') e s':=λe s' h=>Zc h (λ_ a q=>ce e a q) λe a q=>ce e a q;rintro n s4 ⟨i,ys,its,k,Z4,H4,I4,st4,fr4,hd4,hn4,O,w4⟩;obtain⟨hz,tn4⟩:=turn i n ys Z4 H4 w4;have J4:Inv (JJ X scope N t P2.objs.size a B l) [(a.heap.objs.size,{ cls:=.type "list",data:=.seq its.toArray k })] Z4 H4 s4:=I4.pins_of λp hp=>by
   have e:=Jd.mp hp;subst e;refine⟨hd4,hn4,K,?_,λv z=>by cases z⟩;exact λz=>Zn (Zg (by
    rcases UV.mp (A.stkSub _ z) with q|q
    .exact UH (Yx q) A.lt
    .obtain⟨_,o,ho,_⟩:=A.ok.funs.mem q;exact Zg (Zk ho) A.sz) (Zf a.heap.objs.size)) (Zy _)
  have np:∀p ∈ [(a.heap.objs.size,({ cls:=.type "list",data:=.seq its.toArray k }:Obj))],p.1∉l:=λp hp=>by
   have e:=Jd.mp hp;subst e;exact nD
  rcases tn4 with ⟨stop,qn⟩|⟨go,step⟩
  .refine Zc (T.done (JJ X scope N t P2.objs.size a B l) rfl rfl rfl hc i _ s4 Z4 H4 (λ_ _=>False) J4 (E fr4 np) st4 stop) (λr s5 h5=>?_) λ_ _ f=>f.elim;obtain⟨rfl,I5⟩:=h5;obtain⟨m,hm,_⟩:=id I5.loc;have p5:=I5.pin (a.heap.objs.size,_) (Ut _ Zqs);refine fin _ _ m _ _ hm (U6 (Zg A.lt j)) (A.nofs j) (Zh A.sz j) (λx c e z=>?_) (λp hp z=>?_) λh' hs'=>Ou A f2 j (Zf _) K (I5.pins_of λp hp=>nomatch hp) p5.1 p5.2.1 O (Zz hz) hs' ⟨by rw[JI (Ne.symm K)];exact I5.free,qn _ p5.2.1⟩
   .obtain⟨v,o,ho,hd⟩:=A.cell x c e;have:=Zk ho;rw[z] at this;exact Zn (Zg this j) (Zy _)
   .have:=Zk (A.pin p hp).1;rw[z] at this;exact Zn (Zg this j) (Zy _)
  .refine Zc (T.item (JJ X scope N t P2.objs.size a B l) rfl rfl rfl hc i _ s4 Z4 H4 (λ_ _=>False) J4 (E fr4 np) st4 go) (λr s5 h5=>?_) λ_ _ f=>f.elim;obtain⟨u,rfl,h5⟩:=h5;refine Zc h5 (λ_ s6 h6=>?_) λ_ _ f=>f.elim;obtain⟨x,H6,I6,r6,y6,P,fr6⟩:=h6;have I6':=I6.pinned (E fr6 np) (T.obj _ _ P);refine Zc (hg t P2.objs.size a B l _ s6 Z4 H6 x u _ I6' r6 (step x H6 y6)) (λ_ s7 h7=>?_) xe;obtain⟨U,H7,I7,q7⟩:=h7;refine ht t P2.objs.size a B l cat ce I7 q7 λbv s8 H8 I8 q8=>?_;have F:∀H9 s9 Z9,Inv (JJ X scope N t P2.objs.size a B l) ([(a.heap.objs.size,{ cls:=.type "list",data:=.seq its.toArray k })]++XH l s6.heap) Z9 H9 s9->(∀b∈l,∀o,s6.heap.get? b=some o->s9.heap.get? b=some o)/\∀b∈l,H9 b=none:=λH9 s9 Z9 I9=>by
    refine⟨λb w o e=>(I9.pin (b,o) (Ut _ (Ut _ (Ae w e)))).1,λb w=>?_⟩;obtain⟨o,e,d⟩:=T.obj _ _ P b w;exact(I9.pin (b,o) (Ut _ (Ut _ (Ae w e)))).2.1
   have p8:=I8.pin (a.heap.objs.size,_) (Ut _ (List.mem_append_left _ Zqs));cases bv with
   |false =>
    rw[Ze ()] at q8 ⊢;obtain⟨m',hm',w8⟩:=q8;obtain⟨z1,z2⟩:=F _ _ _ I8;exact⟨m',hm',i+1,ys,its,k,U,H8,I8.pins_of (λp hp=>nomatch hp),T.keep _ _ _ P z1,z2,p8.1,p8.2.1,O,w8⟩
   |true =>
    rw[Zd rfl] at q8 ⊢;refine Zc (he t P2.objs.size a B l cat _ s8 U H8 _ I8 q8) (λyv s9 h9=>?_) xe;obtain⟨y,H9,I9,ry,m',hm',w9⟩:=h9;have p9:=I9.pin (a.heap.objs.size,_) (Ut _ (List.mem_append_left _ Zqs));have hl:=O.length;refine append_at (hsz:=by show its.toArray.size<=sizeLine;rw[Zm,<- hl];exact Zz hz) p9.1 λh10 hs10 hd10=>?_;have I10:Inv (JJ X scope N t P2.objs.size a B l) [] U H9 { s9 with heap:=h10 }:=(I9.pins_of (Y':=[]) λp hp=>nomatch hp).turned (t':=s9.toks) (it:=a.heap.objs.size) (λb o w e=>(hs10.2 b w).trans e) p9.2.1 K (.inr (Zf _))
     (λx c e z=>by
      obtain⟨v,o,ho,hd⟩:=I9.cell x c e;rw[z,p9.1] at ho;cases ho;cases hd) (λp hp=>Zn hp (by show ¬p∈([]:Yb)++[];simp))
    obtain⟨z1,z2⟩:=F _ _ _ I9;refine⟨m',hm',i+1,ys++[y],its++[yv],k+1,U,H9,I10,T.keep _ _ _ P (λb w o e=>?_),z2,?_,p9.2.1,jo.append O (.cons ry .nil),w9⟩
    .have hb':b≠a.heap.objs.size:=λz=>nD (by rw[<- z];exact w);exact(hs10.2 b hb').trans (z1 b w o e)
    .refine hd10.trans ?_;simp
 exact codeAny_compStart_list (loop _ rfl) (T.self _ 0 _ _ _ (T.keep _ _ _ st2 (λb _ o e=>M b o e)) (loop _ rfl))
def Ff (N)(cap)(l:X.calm=true)(f:QF scope X.env N X.N cap=true)(m:PI X tg iter wi)(o:∀i C s H e,PG (JJ X scope N i C s H e) tg g)(p:∀i C s H e,W6 X C s H e->PE (JJ X scope N i C s H e) elt te)
 (hs:∀x,foldedSetIterable iter X.env x=pure x) {use:Option (Value->Sem Unit)} {R:Ya} {a:Pos} {Y:Yb} {s:Shared} {Z: St} {H:Hp} {Q:VK} (I:Inv X Y Z H s) (h:Xd cap wi g te Z H Q) (j:XQ X Y Z Q use R):
 YI X (comprehension (.ListComp elt [⟨tg,iter,[],0⟩] scope pos) scope X.env a (newList []) false (eval iter X.env) use) R X.xe s:=
 Fe (test:=λ_ _ Q s=>Q true s) N (λI b n h=>W.kcp_loop I b n h) (λ_ _ _ _ _ _ _ _ _ _ _ _ _ _ I q k=>k true _ _ I q) cap l f m o p hs I h j
def Fg (N)(cap)(f:X.calm=true)(b:QF scope X.env N X.N cap=true)(i:PI X tg iter wi)(j:∀e C s H a,PG (JJ X scope N e C s H a) tg g)(l:∀e C s H a,W6 X C s H a->PE (JJ X scope N e C s H a) elt te)
 (hs:∀x,foldedSetIterable iter X.env x=pure x:=by intro _;rfl):PE X (.ListComp elt [⟨tg,iter,[],0⟩] scope pos) (Xd cap wi g te):=λY s Z H Q I h=>Ff N cap f b i j l hs I h Fd
def Ow (N)(cap)(f:X.calm=true)(a:QF scope X.env N X.N cap=true)(h:PI X tg iter wi)(i:∀b C s H e,PG (JJ X scope N b C s H e) tg g)(j:∀b C s H e,PE (JJ X scope N b C s H e) elt te)
 (hs:∀x,foldedSetIterable iter X.env x=pure x:=by intro _;rfl):PE X (.ListComp elt [⟨tg,iter,[],0⟩] scope pos) (Xd cap wi g te):=Fg N cap f a h i () hs
end
mutual
def Is (H:Hp):PyData->V->Prop
 | .none,v=>v=.non
 | .bool b,v=>v=.bl b
 | .int i,v=>v=.int i
 | .str x,v=>v=.str x
 | .list ds,v=>∃a c,v=.ref a/\H a=some (.lst c)/\qk H ds c
 | .tuple ds,v=>∃a c,v=.ref a/\H a=some (.tup c)/\qk H ds c
 | .dict _,_=>False
def qk (H:Hp):List PyData->YE->Prop
 | [],xs=>xs=[]
 |d::ds,xs=>∃x r,xs=x::r/\Is H d x/\qk H ds r
end
mutual
theorem Is.same (e:jk H H'):∀d v,Is H d v->Is H' d v
 | .none,_,h=>h
 | .bool _,_,h=>h
 | .int _,_,h=>h
 | .str _,_,h=>h
 | .list ds,v,h=>have ⟨a,b,c,f,g⟩:=h;⟨a,b,c,e _ _ f,qk.same e ds b g⟩
 | .tuple ds,v,h=>have ⟨a,b,c,f,g⟩:=h;⟨a,b,c,e _ _ f,qk.same e ds b g⟩
 | .dict _,_,h=>h.elim
theorem qk.same (e:jk H H'):∀ds a,qk H ds a->qk H' ds a
 | [],_,h=>by simp_all [qk]
 |d::ds,a,h=>have ⟨x,r,b,c,f⟩:=h;⟨x,r,b,Is.same e d x c,qk.same e ds r f⟩
end
theorem qk.length:∀{ds:List PyData} {a:YE},qk H ds a->a.length=ds.length
 | [],_,h=>by simp_all [qk]
 |d::ds,a,h=>by
  obtain⟨x,r,rfl,_,b⟩:=h;rw[Zu,Zu,qk.length b]
theorem qk.get:∀{ds:List PyData} {a:YE} {i:Nat} {d:PyData},qk H ds a->ds[i]? = some d->∃x,a[i]? = some x/\Is H d x
 | [],_,_,_,_,e=>by simp at e
 |d::ds,a,0,d',h,e=>by
  grind[qk]
 |d::ds,a,i+1,d',h,e=>by
  obtain⟨x,r,rfl,_,b⟩:=h;obtain⟨y,c,f⟩:=qk.get b (by simpa using e)
  simp_all
theorem Fh:∀(ns:Yh),qk H (ns.map PyData.int) (ns.map V.int)
 | []=>by rfl
 |n::ns=>⟨_,_,rfl,by rfl,Fh ns⟩
theorem Fi:∀{ns:Yh} {a:YE},qk H (ns.map PyData.int) a->a=ns.map V.int
 | [],_,h=>by
  simp_all [qk]
 |n::ns,a,h=>by
  obtain⟨x,r,rfl,b,c⟩:=h;rw[b,Fi c];rfl
def xH:Is H (.list ds) v↔∃a b,v=.ref a/\H a=some (.lst b)/\qk H ds b:=Iff.rfl
def yH:Is H (.tuple ds) v↔∃a b,v=.ref a/\H a=some (.tup b)/\qk H ds b:=Iff.rfl
mutual
def QQ:PyData->Bool
 | .int _=>true
 | .list xs=>XR xs
 | .tuple xs=>XR xs
 | .none=>false
 | .bool _=>false
 | .str _=>false
 | .dict _=>false
def XR:List PyData->Bool
 | []=>true
 |x::xs=>QQ x&&XR xs
end
mutual
theorem Ck:∀d e:PyData,QQ d=true->QQ e=true->(PyData.eqv d e=true↔d=e)
 | .int i,.int j,_,_=>by unfold PyData.eqv;simp
 | .int i,.list ys,_,_=>by unfold PyData.eqv;simp
 | .int i,.tuple ys,_,_=>by unfold PyData.eqv;simp
 | .list xs,.int j,_,_=>by unfold PyData.eqv;simp
 | .list xs,.list ys,h1,h2=>by
  have q:=Cm xs ys h1 h2
  simp_all [PyData.eqv]
 | .list xs,.tuple ys,_,_=>by unfold PyData.eqv;simp
 | .tuple xs,.int j,_,_=>by unfold PyData.eqv;simp
 | .tuple xs,.list ys,_,_=>by unfold PyData.eqv;simp
 | .tuple xs,.tuple ys,h1,h2=>by
  have q:=Cm xs ys h1 h2
  simp_all [PyData.eqv]
 | .none,_,h,_=>by simp_all [QQ]
 | .bool _,_,h,_=>by simp_all [QQ]
 | .str _,_,h,_=>by simp_all [QQ]
 | .dict _,_,h,_=>by simp_all [QQ]
 |_,.none,_,h=>by simp_all [QQ]
 |_,.bool _,_,h=>by simp_all [QQ]
 |_,.str _,_,h=>by simp_all [QQ]
 |_,.dict _,_,h=>by simp_all [QQ]
theorem Cm:∀a ys:List PyData,XR a=true->XR ys=true->(PyData.eqvAll a ys=true↔a=ys)
 | [],[],_,_=>by unfold PyData.eqvAll;simp
 | [],y::ys,_,_=>by unfold PyData.eqvAll;simp
 |x::a,[],_,_=>by unfold PyData.eqvAll;simp
 |x::a,y::ys,h1,h2=>by
  have ⟨b,c⟩:=Ju.mp h1;have ⟨e,f⟩:=Ju.mp h2;unfold PyData.eqvAll;rw[Bool.and_eq_true_iff,Ck x y b e,Cm a ys c f];simp
end
def Ox (a:QQ d=true)(b:QQ e=true)(h:d≠e):PyData.eqv d e=false:=by
 grind[Ck]
def Oy (a:QQ d=true):PyData.eqv d d=true:=(Ck d d a a).mpr rfl
section
variable {X:Cx}
def qK:Yh->Int
 | []=>0
 |x::r=>r.foldl max x
def xb:Yh->Int
 | []=>0
 |x::r=>r.foldl min x
theorem Fj:∀(r:Yh) x,x<=r.foldl max x/\(∀y∈r,y<=r.foldl max x)/\(r.foldl max x=x\/r.foldl max x∈r)
 | [],x=>by simp
 |y::r,x=>by
  obtain⟨b,a,c⟩:=Fj r (max x y);show x<=r.foldl max (max x y)/\(∀z∈y::r,z<=r.foldl max (max x y))/\(r.foldl max (max x y)=x\/r.foldl max (max x y)∈y::r);refine⟨(),λz hz=>?_,?_⟩
  .rcases UV.mp hz with rfl|hz
   .omega
   .exact a z hz
  grind
def W7 (h:l ≠ []):qK l∈l/\∀y∈l,y<=qK l:=by
 cases l with
 |nil=>simp_all
 |cons x r =>
  obtain⟨a,b,h3⟩:=Fj r x;refine⟨?_,λy hy=>?_⟩
  .rcases h3 with h3|h3
   .show r.foldl max x∈x::r;rw[h3];exact Zqs
   .exact Zqm _ h3
  .rcases UV.mp hy with rfl|hy
   .exact a
   .exact b y hy
def Fk (a:M∈l)(b:∀y∈l,y<=M):M=qK l:=by
 obtain⟨c,e⟩:=W7 (l:=l) ()
 grind
theorem Fl:∀(r:Yh) x,r.foldl min x<=x/\(∀y∈r,r.foldl min x<=y)/\(r.foldl min x=x\/r.foldl min x∈r)
 | [],x=>by simp
 |y::r,x=>by
  obtain⟨b,a,c⟩:=Fl r (min x y);show r.foldl min (min x y)<=x/\(∀z∈y::r,r.foldl min (min x y)<=z)/\(r.foldl min (min x y)=x\/r.foldl min (min x y)∈y::r);refine⟨(),λz hz=>?_,?_⟩
  .rcases UV.mp hz with rfl|hz
   .omega
   .exact a z hz
  grind
def An (h:l ≠ []):xb l∈l/\∀y∈l,xb l<=y:=by
 cases l with
 |nil=>simp_all
 |cons x r =>
  obtain⟨a,b,h3⟩:=Fl r x;refine⟨?_,λy hy=>?_⟩
  .rcases h3 with h3|h3
   .show r.foldl min x∈x::r;rw[h3];exact Zqs
   .exact Zqm _ h3
  .rcases UV.mp hy with rfl|hy
   .exact a
   .exact b y hy
def Co (a:M∈l)(b:∀y∈l,M<=y):M=xb l:=by
 obtain⟨c,e⟩:=An (l:=l) ()
 grind
def Oz (m:X.calm=true):jO X (.builtin "max") (λg H Q=>∃a ns,g=[.ref a]/\qp X.K H a (ns.map V.int)/\ns ≠ []/\Q (.int (qK ns)) H):=by
 intro Y s Z H g C Q I r h;obtain⟨a,ns,rfl,n,o,q⟩:=h;obtain⟨u,rfl,w⟩:=QD r;obtain rfl:=w;obtain⟨its,x,p,hz⟩:=I.list n;have i:=Cb x;obtain⟨ys,e⟩:=i.allInts.items;have c:ns=ys.toList.map (·.1):=by
  rw[<- i.numsOf,<- nums_intItems,<- e]
 have hsz:0<ys.size:=by
  grind
 have f:=p.isList;rw[e] at f;refine max_intList (I.ok.hd m) f hsz λv E tk y z=>?_;obtain⟨t,rfl⟩:=intItems_at y;obtain⟨F,A⟩:=argBest_gt (numAt ys) (ys.size-1);refine⟨.int (qK ns),H,I.kept z,⟨t,?_⟩,q⟩
 congr 1
 refine Fk ?_ λb l=>?_
 .rw[c,numAt_eq];exact PySem.getD_mem (by rw[Zql,Uo];lia)
 .rw[c] at l;obtain⟨j,B,rfl⟩:=PySem.mem_getD l;rw[Zql,Uo] at B;rw[<- numAt_eq];exact A j ()
def O0 (m:X.calm=true):jO X (.builtin "min") (λg H Q=>∃a ns,g=[.ref a]/\qp X.K H a (ns.map V.int)/\ns ≠ []/\Q (.int (xb ns)) H):=by
 intro Y s Z H g C Q I r h;obtain⟨a,ns,rfl,n,o,q⟩:=h;obtain⟨u,rfl,w⟩:=QD r;obtain rfl:=w;obtain⟨its,x,p,hz⟩:=I.list n;have i:=Cb x;obtain⟨ys,e⟩:=i.allInts.items;have c:ns=ys.toList.map (·.1):=by
  rw[<- i.numsOf,<- nums_intItems,<- e]
 have hsz:0<ys.size:=by
  grind
 have f:=p.isList;rw[e] at f;refine min_intList (I.ok.hd m) f hsz λv E tk y z=>?_;obtain⟨t,rfl⟩:=intItems_at y;obtain⟨F,A⟩:=argBest_lt (numAt ys) (ys.size-1);refine⟨.int (xb ns),H,I.kept z,⟨t,?_⟩,q⟩
 congr 1
 refine Co ?_ λb l=>?_
 .rw[c,numAt_eq];exact PySem.getD_mem (by rw[Zql,Uo];lia)
 .rw[c] at l;obtain⟨j,B,rfl⟩:=PySem.mem_getD l;rw[Zql,Uo] at B;rw[<- numAt_eq];exact A j ()
def zU (P:Program)(w:World)(K:W.Frag)(mg:Ye)(a:Heap)(name:Str)(k:Nat)(ps:Yk)(sp:Sp):Prop:=
 ∃f b,FnOk P w K mg a yw k f b ps sp/\zX K b ps []/\W.keepIn K (.ref f)=true/\mg name=some (.ref f)
theorem zU.mono {P:Program}{w:World}{K:W.Frag}{mg:Ye}{a:Heap}{name:Str}{j k:Nat}{ps:Yk}{sp:Sp}(c:zU P w K mg a name j ps sp)(h:j<=k):zU P w K mg a name k ps sp:=by
 obtain⟨f,b,F,r⟩:=c;exact⟨f,b,F.mono h,r⟩
def Xe (c:zU X.prog X.w X.K X.mg X.base name k ps sp)(h:Room k X.A)(i:Gl X name)(j:PA X (e::es) t)
 (a:(name == ("__debug__" : Str))=false:=by decide) (l:starEach (e::es) X.env=(false,eval e X.env)::starEach es X.env:=by rfl) (g:(backTo pos (starEach es X.env)).any (·.1)=false:=by rfl):
 PE X (.Call (.Name name p) (e::es) [] pos) (BZ sp [] E0 t):=by
 obtain⟨f,o,F,b,m,n⟩:=c;exact EH F h i n m b .nil Fa j a l g
end
def KB (h:H p=none)(o):jk H (upd H p o):=λb u q=>by rwa [JI (Kb q h)]
def QR (h:n<=1000):n<=sizeLine:=Zz (Fb h)
def pD (p:Int×Int):PyData:=.tuple [.int p.1,.int p.2]
def rD (r:Jz):PyData:=.tuple (r.map pD)
def mh:Is H (pD p) v↔∃a,v=.ref a/\H a=some (.tup [.int p.1,.int p.2]):=by
 constructor
 .rintro⟨a,g,b,c,f⟩;have e:=Fi (ns:=[p.1,p.2]) f
  simp_all
 .rintro⟨a,b,c⟩;exact⟨a,_,b,c,Fh [p.1,p.2]⟩
def Cp (o)(s:jk H H')(h:H l=none):jk H (upd H' l o):=λb u e=>by
 rw[JI (Kb e h)];exact s b u e
def Cq (p):QQ (pD p)=true:=by rfl
def QU:bootBuiltins "len" = some (.builtin "len"):=boot_len
def Ao:bootBuiltins "max" = some (.builtin "max"):=boot_max
def Cr:bootBuiltins "min" = some (.builtin "min"):=boot_min
def Ap:bootBuiltins "sorted" = some (.builtin "sorted"):=boot_sorted
def O1:bootBuiltins "sum" = some (.builtin "sum"):=boot_sum
def Cs:bootBuiltins "str" = some (.type "str"):=boot_str
def Aq:bootBuiltins "list" = some (.type "list"):=boot_list
def Ar:bootBuiltins "tuple" = some (.type "tuple"):=boot_tuple
def Ct:bootBuiltins "dict" = some (.type "dict"):=boot_dict
def bt_set:bootBuiltins "set" = some (.type "set"):=boot_set
def Fo:entryFor table "dict.update.loop" = some Builtin.«dict.update.loop»:=entryFor_of_tree (by rfl)
def Au:plainId "dict.update.loop" = true:=by decide +kernel
section
variable {prog:Program}{w:World}{K:Type}[DecidableEq K]{knd:KeyKind prog w K}
def fB (knd:KeyKind prog w K)(it t d:Addr)(c:Yn)(ps:List (K×Value))(z:Heap)(hlen:c.size=ps.length)
 (L:∀(j:Nat) k v,ps[j]? = some (k,v)->∃n h,c[j]? = some (.ref n)/\z.IsTuple n #[h,v]/\knd.is k h=true/\n≠it/\n≠d)
 (B:z.IsTuple t c) (n1:t≠it) (n2:t≠d) (M:d≠it) (m:Nat):
 ∀i:Nat,ps.length-i=m->∀A R s (a:List (K×Value)),A.handled=none->s.heap.IsTupleIter it t i->(∀b o,b≠it->b≠d->z.get? b=some o->s.heap.get? b=some o) ->
  s.heap.DictOf knd d a->a.length+(ps.length-i)<=sizeLine ->
  (∀p tk,p.DictOf knd d (merged a (ps.drop i))->(∀b o,b≠it->b≠d->z.get? b=some o->p.get? b=some o)->R (.ok (.ret .none)) { s with heap:=p,toks:=tk }) ->
  wpAny (model prog w) A.in1 (Builtin.«dict.update.loop» ⟨[.ref d,.ref it,rawInt i,.none],[]⟩) (λu s'=>match u with | .done f=>R (.ok f) s' | .again c'=>c'.quiet=true/\codeAny (model prog w) A c' R s') (λe s'=>R (.error e) s') s:=by
 induction m with
 |zero =>
  intro i I A R s a N st keep O hz J;have P:c[i]? = none:=by rw[Array.getElem?_eq_none_iff];lia
  have Q:s.heap.IsTuple t c:=by
   obtain⟨o,l,r⟩:=B;exact⟨o,keep t o n1 n2 l,r⟩
  unfold Builtin.«dict.update.loop»;refine Za (wpAny_pyNext_tuple_end N st Q P λp eb=>?_);have S:ps.drop i=[]:=Vg ();rw[S] at J;have C:p.DictOf knd d a:=by
   obtain⟨o,es,ep,l,r⟩:=O;exact⟨o,es,ep,eb d o M l,r⟩
  have u:=J p s.toks C (λb o E F e=>eb b o E (keep b o E F e));unfold Builtin.Dict.addKeywords;exact Za (Zb (Zb u))
 |succ m ih =>
  intro i I A R s a N st keep O hz J;have x:i<ps.length:=()
  obtain⟨g,hkv⟩:∃g,ps[i]? = some g:=⟨_,Zqg x⟩;obtain⟨n,h,P,U,G,a1,a2⟩:=L i g.1 g.2 hkv;have Q:s.heap.IsTuple t c:=by
   obtain⟨o,l,r⟩:=B;exact⟨o,keep t o n1 n2 l,r⟩
  unfold Builtin.«dict.update.loop»;refine Za (wpAny_pyNext_tuple_item st Q P λE X y=>?_);obtain⟨Y,Z,hoc,nn,hod⟩:=U;have q:E.get? n=some Y:=(y.2 n a1).trans (keep n Y a1 a2 Z);have hD1:E.DictOf knd d a:=by
   obtain⟨o,es,ep,l,r⟩:=O;exact⟨o,es,ep,(y.2 d M).trans l,r⟩
  dsimp only;refine Za (wpAny_holding (Za (wpAny_tryCatch ?_)));unfold Builtin.Dict.pairItems;refine Za (wpAny_typeOf (T:= "tuple") ⟨Y,q,hoc⟩ ?_);rw[Zd (by decide)];refine Za (wpAny_seqItems q hod (Zb ?_));show wpAny _ _ (holding [h,g.2] (dictSet d h g.2)) _ _ _;refine wpAny_holding (wpAny_dictSet_pairs G hD1 (λF hD2 H=>?_) ());have hc:((i:Int)+1)=((i+1:Nat):Int):=by push_cast;rfl
  refine Zb ?_;rw[hc];have st2:F.IsTupleIter it t (i+1):=by
   obtain⟨o,l,r⟩:=X;exact⟨o,(H.2 it (Ne.symm M)).trans l,r⟩
  have k2:∀b o,b≠it->b≠d->z.get? b=some o->F.get? b=some o:=λb o b1 b2 e=>(H.2 b b2).trans ((y.2 b b1).trans (keep b o b1 b2 e));have z2:(stored a g.1 g.2).length+(ps.length-(i+1))<=sizeLine:=by
   have:(stored a g.1 g.2).length<=a.length+1:=by
    unfold stored
    split
    .rw[Zql];lia
    .rw[Ub,Ui];lia
   rw[I] at hz;rw[Nat.sub_succ,I];exact Zh (Nat.add_le_add_right this m) (Zh (Yx (Nat.succ_add_eq_add_succ a.length m)) hz)
  have e:merged a (ps.drop i)=merged (stored a g.1 g.2) (ps.drop (i+1)):=by
   rw[Uq x];have:ps[i]=g:=by
    have:=Zqg x;rw[this] at hkv;exact Zqi hkv
   rw[this];rfl
  exact⟨plainId_quiet Au _,codeAny_builtin Fo (by
   rw[Around.under_plainId Au _];exact ih (i+1) (by rw[Nat.sub_succ,I];rfl) A R { s with heap:=F,toks:=s.toks+1 } (stored a g.1 g.2) N st2 k2 hD2 z2 λp tk C kk=>J p tk (by rwa [e]) kk)⟩
end
def O2:typeLookup (.type "tuple") "keys" = pure none:=by rw[typeLookup_type,builtinLookup_eq_fast];kernel_rfl
def O3
 (p:s.heap.get? a=some o) (q:o.cls=.type "tuple") (f:o.data=.seq xs k) (r:o.dict=none) (i:typeLookup (.type "tuple") name=pure none) (j:(["__module__", "__name__", "__qualname__", "__doc__", "__annotations__"]:Yk).contains name=false) (u:A.handled=none)
 (h:∀n tk,(∀b o,s.heap.get? b=some o->n.get? b=some o)->Q none { s with heap:=n,toks:=tk }) (hsz:name.length+100<=sizeLine:=by size_fits):
 YJ prog w A (getAttr? (.ref a) name) Q E s:=by
 obtain⟨c,v,x,y⟩:=o;simp only at q f r;subst q f r;obtain⟨hp,g,d,tk,os⟩:=s;have t:∀l,(⟨hp,g,d,l,os⟩:Shared).TypeIs (.ref a) "tuple" := λ_=>⟨_,p,rfl⟩;have z:=sub_AttributeError;have B:=F.slot_tuple_getattribute.lookup;have C:=F.slot_tuple_getattribute.bind (.ref a);have G:=am_tuple_getattr_none;unfold getAttr? getAttrBy? getAttrBy
 repeat (any_goals (first|assumption|exact t _|((with_reducible show wpAny _ _ (call (Value.builtin "tuple.__getattribute__") _ _) _ _ _);refine call_meets F.slot_tuple_getattribute (t _) am_entry_tuple_getattribute (F.args_tuple_getattribute_2 _ _) (meets_getattribute_miss_tuple a xs k y name _ i j hsz) ⟨p,u,λn l e m=>?_⟩)|wp_step))
 obtain⟨t',H,I⟩:=m.there;show wpAny _ _ (getattributeRaised _ _ _ _ _ _ _) _ _ _;unfold getattributeRaised
 repeat (any_goals (first|assumption|wp_step))
 exact h _ _ m.of.keeps
section
variable {prog:Program}{w:World}{K:Type}[DecidableEq K]{A:Around}{E:Ya}{s:Shared}
def O4 (knd:KeyKind prog w K)(N:A.handled=none)(G:s.heap.get? t=some o)(H:o.cls=.type "tuple")(l:o.data=.seq items n)(P:o.dict=none)
 (p:items.size=ps.length) (I:∀(j:Nat) k v,ps[j]? = some (k,v)->∃g a,items[j]? = some (.ref g)/\s.heap.IsTuple g #[a,v]/\knd.is k a=true) (hz:ps.length<=sizeLine)
 (h:∀q tk,q.DictOf knd s.heap.objs.size (merged [] ps)->(∀b u,s.heap.get? b=some u->q.get? b=some u)->Q (.ref s.heap.objs.size) { s with heap:=q,toks:=tk }):
 YJ prog w A (call (.type "dict") [.ref t]) Q E s:=by
 refine callType_codes (Q₁:=λx s₁=>x=.ref s.heap.objs.size/\s₁={ s with heap:=s.heap.push { cls:=.type "dict",data:=.dict #[] } }) F.kt_called_dict (F.kt_typeCall_dict_1 _) F.entry_dict_init (kt_code_dict_new _ ⟨rfl,rfl⟩) ?_;rintro x s₁ ⟨rfl,rfl⟩;have c:(s.heap.push { cls:=.type "dict",data:=.dict #[] }).DictOf knd s.heap.objs.size []:=Heap.DictOf.new s.heap;refine⟨c.typeIs,F.args_dict_init_2 _ _,?_⟩;have m:(s.heap.push { cls:=.type "dict",data:=.dict #[] }).get? t=some o:=Zq _ G;unfold Builtin.«dict.__init__»;refine Za ?_;unfold Builtin.Dict.selfAndRest;refine Za (wpAny_notOrdered_dict c.typeIs ?_);show wpAny _ _ (pure (s.heap.objs.size,[Value.ref t])) _ _ _;refine Zb ?_;show wpAny _ _ (Builtin.Dict.updateFrom "dict.__init__" s.heap.objs.size (.ref t) [] .none) _ _ _;unfold Builtin.Dict.updateFrom;refine Za (wpAny_typeOf (T:= "tuple") ⟨o,m,H⟩ ?_);rw[Zd (by decide)];refine Za (O3 m H l P O2 (by decide +kernel) N (λi R k2=>?_) (by decide));rw[Zd (by rfl)];have y:i.IsTuple t items:=⟨o,k2 _ _ m,H,n,l⟩;have lt:s.heap.objs.size<i.objs.size:=by
  obtain⟨C,_,_,e,_⟩:=c;exact Zk (k2 _ _ e)
 have S:i.DictOf knd s.heap.objs.size []:=by
  obtain⟨C,es,ep,e,r⟩:=c;exact⟨C,es,ep,k2 _ _ e,r⟩
 refine Za (wpAny_rule ?_);refine Za (wpAny_pyIter_tuple y ?_);have f:∀b u,s.heap.get? b=some u->b≠s.heap.objs.size/\b≠i.objs.size:=λb u e=>by
  have z:=Zk e;exact⟨Zi z,Zi (Ug z lt)⟩
 have O:∀b u,s.heap.get? b=some u->i.get? b=some u:=λb u e=>k2 b u (Zq _ e);have B:∀(j:Nat) k v,ps[j]? = some (k,v)->∃g a,items[j]? = some (.ref g)/\i.IsTuple g #[a,v]/\knd.is k a=true/\g≠i.objs.size/\g≠s.heap.objs.size:=λj k v e=>by
  obtain⟨g,a,U,⟨J,L,X⟩,Y⟩:=I j k v e;exact⟨g,a,U,⟨J,O _ _ L,X⟩,Y,(f g J L).2,(f g J L).1⟩
 refine Zb ⟨plainId_quiet Au _,codeAny_builtin Fo ?_⟩;rw[Around.under_plainId Au _];refine fB knd i.objs.size t s.heap.objs.size items ps i p B y (f t o G).2 (f t o G).1 (Zi lt) ps.length 0 () A.in1 _ _ [] N ⟨_,Zr _ rfl,rfl,rfl⟩ (λb u _ _ e=>Zq _ e) ?_ (by simpa using hz) ?_
 .obtain⟨C,es,ep,e,r⟩:=S;exact⟨C,es,ep,Zq _ e,r⟩
 .intro q tk M Z;exact⟨rfl,h q tk M λb u e=>Z b u (f b u e).2 (f b u e).1 (O b u e)⟩
end
def x9 (r:Jz):List (j5×V):=r.map λp=>(Uf p.1,V.int p.2)
def Av (r:Jz):List (j5×V):=W4 [] (x9 r)
theorem Fp (ok:qQ P w H h):∀{r:Jz} {f:YE} {b:Yf},qk H (r.map pD) f->jo f b ->
 ∃ps:List (j5×Value),KV (x9 r) ps/\b.length=ps.length/\∀(j:Nat) k v,ps[j]? = some (k,v)->∃g c,b[j]? = some (.ref g)/\h.IsTuple g #[c,v]/\(Qz P w).is k c=true
 | [],f,b,ha,r=>by
  subst ha;cases r;exact⟨[],.nil,rfl,()⟩
 |p::r,f,b,ha,rv=>by
  obtain⟨x,ys,rfl,l,m⟩:=ha;cases rv with
  | @cons _ u _ q s t =>
   obtain⟨ps,k1,k2,k3⟩:=Fp ok m t;obtain⟨a,rfl,y⟩:=mh.mp l;obtain rfl:=s;obtain⟨_,its,z,o,A,B,n,C⟩:=(ok a _ y);obtain⟨I,E,rfl,F,G⟩:=Ag z;obtain⟨i,rfl⟩:=(F);refine⟨(Uf p.1,E)::ps,.cons ⟨rfl,G⟩ k1,(),λj k v e=>?_⟩;cases j with
   |zero =>
    cases e;exact⟨a,.int p.1 i,rfl,⟨o,A,B,n,C⟩,Ey p.1 i⟩
   |succ j =>
    exact k3 j k v (by simpa using e)
section
variable {X:Cx}
def O5 (g:X.calm=true):jO X (.type "dict") (λb H Q=>∃a r,b=[.ref a]/\Is H (rD r) (.ref a)/\r.length<=100/\∀p,H p=none->Q (.ref p) (upd H p (.dK (Av r)))):=by
 intro Y s Z H b G Q I i h;obtain⟨a,r,rfl,l,hz,q⟩:=h;obtain⟨u,rfl,m⟩:=QD i;obtain rfl:=m;obtain⟨J,b,t,w,x⟩:=l;cases t;obtain⟨⟨K,L,c,d0⟩,its,y,o,f,A,n,B⟩:=(I.hok a _ w);rw[c] at f;obtain rfl:=Zqi f;obtain⟨ps,k1,k2,k3⟩:=Fp I.hok x y;have M:=k1.length;have C:(x9 r).length=r.length:=Zql _;refine O4 (Qz X.prog X.w) (I.ok.hd g) c A B d0 () (λj k v e=>?_) (QR ()) λN tk E F=>?_
 .simp_all
 .refine⟨.ref s.heap.objs.size,upd H s.heap.objs.size (.dK (Av r)),I.laid F (Zf _) (EX ?_ (beq_eq_false_iff_ne.mpr (Ne.symm (Zi I.big))) (w6 k1 .nil) E),rfl,q _ (I.hok.fresh (Zf _))⟩;have z:=EZ (x9 r) [];rw[ZC,C] at z;exact QR (by unfold Av;lia)
end
def JA:Jz->Int->Option Int
 | [],_=>none
 |p::r,t=>match JA r t with
  |some w=>some w
  |none=>if p.1=t then some p.2 else none
def O6 (r s)(t):JA (r++s) t=match JA s t with|some w=>some w|none=>JA r t:=by
 induction r with
 |nil=>grind[JA]
 |cons p r a =>
  grind[List.cons_append,JA]
def Qj (h:JA r t=some w):(t,w)∈r:=by
 induction r with
 |nil=>simp[JA] at h
 |cons p r a =>
  grind[JA]
theorem Fq (h:JA r t=none):∀w,(t,w)∉r:=by
 induction r with
 |nil=>simp
 |cons p r a =>
  grind[JA]
def j4 (r:Jz):Prop:=(r.map (·.1)).Nodup
def j4.eq (h:j4 r)(a:(t,v)∈r)(b:(t,w)∈r):v=w:=by
 induction r with
 |nil=>cases a
 |cons p r c =>
  obtain⟨f,e⟩:=Jm.mp (h);rcases UV.mp a with e1|e1<;>rcases UV.mp b with e2|e2
  .grind
  .grind
  .grind
  .exact c e e1 e2
def j4.look (h:j4 r)(a:(t,w)∈r):JA r t=some w:=by
 cases q:JA r t with
 |none=>exact Zn a (Fq q w)
 |some v=>rw[h.eq (Qj q) a]
def qY (o:Jz)(p:Int×Int):Bool:=match JA o p.1 with
 |some w=>decide (p.2<=w)
 |none=>false
def JF (r o:Jz):Bool:=r.all (qY o)
def Aw {r o:Jz}{i:Nat}{p:Int×Int}(hp:r[i]? = some p)(h:qY o p=false):JF r o=false:=by
 grind[JF,List.all_eq_false]
def Wg {α: Type}{r:List α}{p:α}(hp:r[i]? = some p):r.take (i+1)=r.take i++[p]:=by
 rw[U8,hp];rfl
def Fs {r o:Jz}{i:Nat}{p:Int×Int}(hp:r[i]? = some p)(h:JF (r.take i) o=true)(a:qY o p=true):JF (r.take (i+1)) o=true:=by
 rw[Wg hp]
 simp_all [JF]
open PySem PyProof.Rows
def Ft (h:l<r)(c:r-l<=k-x):∃m,(l+r) / 2=m/\l<=m/\m<r/\m-l<=k-(x+1)/\r-(m+1)<=k-(x+1):=by
 have a:l<=(l+r) / 2:=()
 have b:(l+r) / 2<r:=()
 generalize (l+r) / 2=m at a b ⊢;exact⟨m,rfl,a,b,Nat.le_pred_of_lt (Zg (Nat.sub_lt_sub_right a b) c),Nat.pred_le_pred (Zh (Nat.sub_le_sub_left a r) c)⟩
structure Wk (lt:Yd):Prop where
 asy:∀i j,lt i j=true->lt j i=false
 neg:∀i j k,lt i k=true->lt i j=true\/lt j k=true
def jG (lt:Yd)(i j:Nat):Prop:=lt i j=true\/(lt j i=false/\i<j)
section
variable {lt:Yd}(W:Wk lt)
include W
theorem jG.no (h:jG lt i j):lt j i=false:=by
 rcases h with h|h
 .exact W.asy _ _ h
 .exact h.1
theorem jG.trans (c:jG lt i j)(e:jG lt j k):jG lt i k:=by
 have g:=jG.no W e;have f:lt k i=false:=by
  cases q:lt k i with
  |false=>rfl
  |true =>
   rcases W.neg k j i q with z|z
   .simp_all
   .rw[(jG.no W c)] at z;exact JC z
 rcases c with a|a
 .rcases W.neg i k j a with z|z
  .exact .inl z
  simp_all
 .rcases e with b|b
  .rcases W.neg j i k b with z|z
   .simp_all
   .exact .inl z
  .exact .inr ⟨f,()⟩
end
def gx (ix:Yi)(k:Nat):Nat:=(ix[k]?).getD 0
theorem Cu (h:k<ix.size):ix[k]? = some (gx ix k):=by
 simp_all [gx]
def Fu (hs:src<ix.size)(a:d<=src)(k):gx (bubble ix src d) k=if k=src-d then gx ix src else if src-d<k/\k<=src then gx ix (k-1) else gx ix k:=by
 unfold gx;rw[getElem?_bubble hs d a k]
 repeat' split
 all_goals rfl
def XS (a:j<=ix.size)(k):gx (mirror ix i j ((j-i) / 2)) k=if i<=k/\k<j then gx ix (i+j-1-k) else gx ix k:=by
 unfold gx;rw[getElem?_mirror_all a k]
 split
 all_goals rfl
def O7 {α β: Type}(f:α -> β)(b:Array α)(i j:Nat):(b.map f).swapIfInBounds i j=(b.swapIfInBounds i j).map f:=by
 apply Array.ext_getElem?;intro k;by_cases a:i<b.size
 .by_cases c:j<b.size
  .rw[getElem?_swapIB (by simpa using a) (by simpa using c),UN,UN,UN,UN,getElem?_swapIB a c]
   repeat' split
   all_goals rfl
  .rw[VC,VC,dif_pos (by simpa using a),dif_neg (by simpa using c),dif_pos a,dif_neg c]
 .rw[VC,VC,dif_neg (by simpa using a),dif_neg a]
theorem Cv {α β γ: Type}(f:α -> β)(p q:γ -> Nat):∀(l:List γ) (b:Array α),l.foldl (λa k=>a.swapIfInBounds (p k) (q k)) (b.map f)=(l.foldl (λa k=>a.swapIfInBounds (p k) (q k)) b).map f
 | [],b=>rfl
 |k::l,b=>by
  rw[Vh,Vh,O7,Cv f p q l]
def O8 {α β: Type}(f:α -> β)(xs)(src d):bubble (xs.map f) src d=(bubble xs src d).map f:=Cv f _ _ _ xs
def O9 {α β: Type}(f:α -> β)(xs)(i j d):mirror (xs.map f) i j d=(mirror xs i j d).map f:=Cv f _ _ _ xs
structure Pl (n:Nat)(ix:Yi)(k:Nat):Prop where
 size:ix.size=n
 perm:ix.Perm (Array.range n)
 pre:∀a,a<k->gx ix a<k
 suf:∀a,k<=a->a<n->gx ix a=a
def Pl.lt (h:Pl n ix k)(b:k<=n)(e:a<n):gx ix a<n:=by
 by_cases c:a<k
 .exact Zg (h.pre a c) b
 .rwa [h.suf a () e]
def Up (lt:Yd)(ix:Yi)(k:Nat):Prop:=∀a b,a<b->b<k->jG lt (gx ix a) (gx ix b)
structure SB (it:Nat->Keyed)(kind:SortKind)(ix:Yi)(st:SortSt):Prop where
 arr:arrOf st=ix.map it
 kd:kindOf st=kind
 fl:failedOf st=none
 pd:pendingOf st = #[]
def yq (prog:Program)(w:World)(A:Around)(s:Shared)(kind:SortKind)(it:Nat->Keyed)(lt:Yd)(n:Nat):Prop:=
 ∀i j,i<n->j<n->∀(E:Ya) (Q:Bool->YC),Q (lt i j) s->YJ prog w A (keyLt' kind (it i).1 (it j).1) Q E s
end L2
set_option maxHeartbeats 4000000
namespace L2
def Wh:Bool->Keyed->Array Keyed->Nat->Nat->Nat->StateT SortSt Sem (Option Nat):=sortPriv% PySem.Builtin.gallop
def Cw:Array Keyed->Array Keyed->StateT SortSt Sem (Array Keyed):=sortPriv% PySem.Builtin.mergeLo
def Cy:Array Keyed->Array Keyed->StateT SortSt Sem (Array Keyed):=sortPriv% PySem.Builtin.mergeHi
abbrev KA:=Array Keyed
abbrev SM:=StateT SortSt Sem
abbrev C3:=Option (Option Nat)×Nat×Nat
def be (lt:Yd)(left:Bool)(x k:Nat):Bool:=if left then lt x k else !lt k x
section
variable {prog:Program}{w:World}{A:Around}{E:Ya}{s:Shared}{kind:SortKind}{it:Nat->Keyed}{lt:Yd}{N:Nat}{st:SortSt}
def XT {i j:Nat}{Q:Option Bool->YB}(O:yq prog w A s kind it lt N)(a:kindOf st=kind)(b:i<N)(c:j<N)(h:Q (some (lt i j)) st):YK prog w A E s (lt' (it i) (it j)) Q st:=by
 rw[lt'_eq];refine Yo (wpS_get ?_);rw[a];exact Yo (wpS_lift (wpAny_attempt (O _ _ b c _ _ ⟨rfl,Yp h⟩)))
def Qw {a:Yi}{p:Nat}{Q:Keyed->YB}(hp:p<a.size)(h:Q (it (gx a p)) st):YK prog w A E s (elem' (a.map it) p) Q st:=by
 grind[Array.getElem?_map,elem'_eq,Cu,PyProof.Rows.wpS_pure]
noncomputable def wi {α: Type}{c:Prop}[Decidable c]{m n:SM α}{Q:α -> YB}(h:c->YK prog w A E s m Q st)(k:¬c->YK prog w A E s n Q st):YK prog w A E s (if c then m else n) Q st:=()
noncomputable def gj (left:Bool)(a:Keyed)(e:KA)(c i:Nat):SM (Option Bool):=elem' e (c+i) >>= λx=>if left=true then lt' x a else lt' a x >>= λr=>pure (r.map λb => !b)
def nE {left:Bool}{k:Nat}{b:Yi}{p a:Nat}{Q:Option Bool->YB}(O:yq prog w A s kind it lt N)(c:kindOf st=kind)(e:k<N)(hp:a+p<b.size)(f:gx b (a+p)<N)(h:Q (some (be lt left (gx b (a+p)) k)) st):
 YK prog w A E s (gj left (it k) (b.map it) a p) Q st:=by
 refine Yo (Qw hp ?_);cases left with
 |true=>exact XT O c f e h
 |false=>exact Yo (XT O c e f (Yp h))
noncomputable def pJ (b:Nat->SM (Option Bool))(lo a:Nat):SM (ForInStep C3):=if lo ≥ a then pure (.done (none,lo,a)) else b (lo+(a-lo) / 2) >>= λr=>match r with
 |some t=>if t=true then pure (.yield (none,lo+(a-lo) / 2+1,a)) else pure (.yield (none,lo,lo+(a-lo) / 2))
 |_=>pure (.done (some none,lo,a))
noncomputable def gi (b:Nat->SM (Option Bool))(n lo a:Nat):SM (Option Nat):=(forIn [:n] ((none,lo,a):C3) λ_ c=>pJ b c.2.1 c.2.2) >>= λc=>match c.1 with
 |some r=>pure r
 |none=>pure (some c.2.2)
noncomputable def pL (b:Nat->SM (Option Bool))(a c l o:Nat):SM (ForInStep C3):=if o ≥ c then pure (.done (none,l,o)) else b (a+o) >>= λr=>match r with
 |some t=>if(!t)=true then pure (.done (none,l,o)) else pure (.yield (none,o,2*o+1))
 |_=>pure (.done (some none,l,o))
noncomputable def pK (b:Nat->SM (Option Bool))(a c l o:Nat):SM (ForInStep C3):=if o ≥ c then pure (.done (none,l,o)) else b (a-o) >>= λr=>match r with
 |some t=>if t=true then pure (.done (none,l,o)) else pure (.yield (none,o,2*o+1))
 |_=>pure (.done (some none,l,o))
noncomputable def si (b:Nat->SM (Option Bool))(n a:Nat):SM (Option Nat):=(forIn [:n] ((none,0,1):C3) λ_ c=>pL b a (n-a) c.2.1 c.2.2) >>= λc=>match c.1 with
 |some r=>pure r
 |none=>gi b n (a+c.2.1+1) (a+min c.2.2 (n-a))
noncomputable def sj (b:Nat->SM (Option Bool))(n a:Nat):SM (Option Nat):=(forIn [:n] ((none,0,1):C3) λ_ c=>pK b a (a+1) c.2.1 c.2.2) >>= λc=>match c.1 with
 |some r=>pure r
 |none=>gi b n (a+1-min c.2.2 (a+1)) (a-c.2.1)
set_option smartUnfolding false in
def gf {left:Bool}{k:Keyed}{a:KA}{b n c:Nat}:Wh left k a b n c=(gj left k a b c >>= λr=>match r with
 |some t=>if t=true then si (gj left k a b) n c else sj (gj left k a b) n c
 |_=>pure none):=rfl
section
variable {P:Nat->Bool}{b:Nat->SM (Option Bool)}{n:Nat}{Q:Option Nat->YB}(hb:∀{i:Nat} {Q:Option Bool->YB},i<n->Q (some (P i)) st->YK prog w A E s (b i) Q st)
 (mono:∀i j,i<j->j<n->P j=true->P i=true) (h:∀m,m<=n->(∀i,i<m->P i=true)->(∀i,m<=i->i<n->P i=false)->Q (some m) st)
include hb mono h
theorem gh {lo a:Nat}(l:lo<=a)(f:a<=n)(t:∀i,i<lo->P i=true)(u:∀i,a<=i->i<n->P i=false):YK prog w A E s (gi b n lo a) Q st:=by
 refine Yo (Yq (Yr (I:=λx c j=>j=st/\∃lo a,c=(none,lo,a)/\lo<=a/\a<=n/\(∀i,i<lo->P i=true)/\(∀i,a<=i->i<n->P i=false)/\a-lo<=n-x) (Q:=λc j=>j=st/\∃m,c=(none,m,m)/\m<=n/\(∀i,i<m->P i=true)/\∀i,m<=i->i<n->P i=false) ?_ ?_ ()) ?_)
 .rintro x c j _ B ⟨rfl,lo,a,rfl,l,f,t,u,g⟩;refine wi (λc=>?_) λc=>?_
  .have e:lo=a:=Nat.le_antisymm l c;subst e;exact Yp ⟨rfl,lo,rfl,f,t,u⟩
  .have c:lo<a:=Yv c;obtain⟨m,em,m0,m1⟩:∃m,lo+(a-lo) / 2=m/\lo<=m/\m<a:=⟨_,rfl,Uj _ _,Nat.add_lt_of_lt_sub' (Nat.div_lt_self (Nat.sub_pos_of_lt c) (by decide))⟩;have o:a-(m+1)<=n-(x+1):=Nat.pred_le_pred (Zh (Nat.sub_le_sub_left m0 a) g);have p:m-lo<=n-(x+1):=Nat.le_pred_of_lt (Zg (Nat.sub_lt_sub_right m0 m1) g);rw[em];refine Yo (hb (Zg m1 f) (wi (λq=>Yp ⟨rfl,_,_,rfl,m1,f,λi r=>?_,u,o⟩) λq=>Yp ⟨rfl,_,_,rfl,m0,Zh (Zz m1) f,t,λi C v=>?_,p⟩))
   .by_cases z:i=m
    .rw[z];exact q
    .exact mono _ _ () (Zg m1 f) q
   .cases y:P i with
    |false=>rfl
    |true =>
     by_cases z:i=m
     .rw[z] at y;exact Zn y q
     .exact Zn (mono _ _ () v y) q
 .rintro c j ⟨rfl,lo,a,rfl,l,f,t,u,g⟩;rw[Nat.zero_max,Nat.sub_self] at g;have e:lo=a:=Nat.le_antisymm l (Nat.le_of_sub_eq_zero (Nat.le_zero.mp g));subst e;exact⟨rfl,lo,rfl,f,t,u⟩
 grind[PyProof.Rows.wpS_pure]
theorem nA {a:Nat}(t:a<n)(e:P a=true):YK prog w A E s (si b n a) Q st:=by
 refine Yo (Yq (Yr (I:=λx c j=>j=st/\∃l o,c=(none,l,o)/\l<o/\x+1<=o/\a+l<n/\P (a+l)=true) (Q:=λc j=>j=st/\∃l o,c=(none,l,o)/\l<o/\a+l<n/\P (a+l)=true/\(n-a<=o\/(o<n-a/\P (a+o)=false))) ?_ ?_ ⟨rfl,0,1,rfl,Yw,Zf _,t,e⟩) ?_)
 .rintro x c j _ _ ⟨rfl,l,o,rfl,m,u,f,g⟩;refine wi (λc=>Yp ⟨rfl,l,o,rfl,m,f,g,.inl c⟩) λc=>?_;have v:o<n-a:=Yv c;have B:a+o<n:=Nat.add_lt_of_lt_sub' v;refine Yo (hb B (wi (λq=>Yp ⟨rfl,l,o,rfl,m,f,g,.inr ⟨v,by simpa using q⟩⟩) λq=>Yp ⟨rfl,o,2*o+1,rfl,(),(),B,by simpa using q⟩))
 .rintro c j ⟨rfl,l,o,rfl,m,u,f,g⟩;rw[Nat.zero_max] at u;exact⟨rfl,l,o,rfl,m,f,g,.inl (Zh (U9 _ _) (Uw u))⟩
 .rintro c j ⟨rfl,l,o,rfl,m,f,g,p⟩;show wpS _ _ _ _ (gi b n (a+l+1) (a+min o (n-a))) _ _;refine gh hb mono h (Nat.add_lt_add_left (Nat.lt_min.mpr ⟨m,Nat.lt_sub_iff_add_lt'.mpr f⟩) a) (Zh (Nat.add_le_add_left (Nat.min_le_right _ _) _) (Yx (Vp (Zz t)))) (λi F=>?_) λi r C=>?_
  .by_cases z:i=a+l
   .rw[z];exact g
   .exact mono _ _ () f g
  .rcases p with p|⟨p,h8⟩
   .rw[Nat.min_eq_right p,Vp (Zz t)] at r;exact Zn C (Nat.not_lt_of_le r)
   .rw[Vi (Zz p)] at r;cases y:P i with
    |false=>rfl
    |true =>
     by_cases z:i=a+o
     .rw[z,h8] at y;cases y
     .rw[mono _ _ (UB r (Ne.symm z)) C y] at h8;cases h8
theorem nB {a:Nat}(r:a<n)(e:P a=false):YK prog w A E s (sj b n a) Q st:=by
 refine Yo (Yq (Yr (I:=λx c g=>g=st/\∃l o,c=(none,l,o)/\l<o/\x+1<=o/\l<=a/\P (a-l)=false) (Q:=λc g=>g=st/\∃l o,c=(none,l,o)/\l<o/\l<=a/\P (a-l)=false/\(a+1<=o\/(o<a+1/\P (a-o)=true))) ?_ ?_ ⟨rfl,0,1,rfl,Yw,Zf _,Ua _,e⟩) ?_)
 .rintro x c g _ _ ⟨rfl,l,o,rfl,j,u,m,f⟩;refine wi (λc=>Yp ⟨rfl,l,o,rfl,j,m,f,.inl c⟩) λc=>?_;have v:o<a+1:=Yv c;refine Yo (hb (UH (U9 _ _) r) (wi (λq=>Yp ⟨rfl,l,o,rfl,j,m,f,.inr ⟨v,q⟩⟩) λq=>Yp ⟨rfl,o,2*o+1,rfl,(),(),Ur v,Yu.mpr q⟩))
 .rintro c g ⟨rfl,l,o,rfl,j,u,m,f⟩;rw[Nat.zero_max] at u;exact⟨rfl,l,o,rfl,j,m,f,.inl (Zh r (Uw u))⟩
 .rintro c g ⟨rfl,l,o,rfl,j,m,f,p⟩;show wpS _ _ _ _ (gi b n (a+1-min o (a+1)) (a-l)) _ _;refine gh hb mono h (Zh (Nat.sub_le_sub_left (Nat.lt_min.mpr ⟨j,Nat.lt_succ_of_le m⟩) (a+1)) (Yx (Nat.add_sub_add_right a 1 l))) (Zh (U9 _ _) (Zz r)) (λi t=>?_) λi F B=>?_
  .rcases p with p|⟨p,h8⟩
   .rw[Nat.min_eq_right p,Nat.sub_self] at t;exact Zn t (UO _)
   .rw[Vi (Zz p),Nat.succ_sub (Ur p)] at t;have C:a-o<n:=UH (U9 _ _) r;by_cases z:i=a-o
    .rwa [z]
    .exact mono _ _ (UB (Ur t) z) C h8
  .cases y:P i with
   |false=>rfl
   |true =>
    by_cases z:i=a-l
    .rw[z,f] at y;cases y
    .rw[mono _ _ () B y] at f;cases f
end
def Xf {left:Bool}{k:Nat}{b:Yi}{a n c:Nat}{Q:Option Nat->YB}(O:yq prog w A s kind it lt N)(l:kindOf st=kind)(o:k<N)(hz:a+n<=b.size)(p:∀i,i<n->gx b (a+i)<N)(f:c<n)
 (mono:∀i j,i<j->j<n->be lt left (gx b (a+j)) k=true->be lt left (gx b (a+i)) k=true)
 (h:∀m,m<=n->(∀i,i<m->be lt left (gx b (a+i)) k=true)->(∀i,m<=i->i<n->be lt left (gx b (a+i)) k=false)->Q (some m) st):YK prog w A E s (Wh left (it k) (b.map it) a n c) Q st:=by
 have g:∀{i:Nat} {Q:Option Bool->YB},i<n->Q (some (be lt left (gx b (a+i)) k)) st->YK prog w A E s (gj left (it k) (b.map it) a i) Q st:=λr q=>nE O l o () (p _ r) q;rw[gf];exact Yo (g f (wi (λe=>nA g mono h f e) λe=>nB g mono h f (Yu.mpr e)))
end
structure MInv (lt:Yd)(xs ys:Yi)(ia ib:Nat)(o:Yj):Prop where
 a:(o++xs.toList.drop ia).Pairwise (jG lt)
 b:(o++ys.toList.drop ib).Pairwise (jG lt)
 pm:(o++xs.toList.drop ia++ys.toList.drop ib).Perm (xs.toList++ys.toList)
def zW (lt:Yd)(a ys:Yi)(o:Yj):Prop:=o.Perm (a.toList++ys.toList)/\o.Pairwise (jG lt)
section
variable {lt:Yd}{xs ys:Yi}{ia ib:Nat}{o:Yj}
theorem Xg {ix:Yi}{i:Nat}(h:i<ix.size):ix.toList.drop i=gx ix i::ix.toList.drop (i+1):=by
 rw[Uq (by simpa using h)];unfold gx;rw[Uy h];simp
def Q4 {ix:Yi}{i:Nat}(h:i<ix.size):gx ix i∈ix.toList:=by
 simp_all [gx]
def Fv {ix:Yi}{i x:Nat}(h:x∈ix.toList.drop i):∃j,i<=j/\j<ix.size/\x=gx ix j:=by
 obtain⟨j,a,e⟩:=Jv.mp h;have hz:i+j<ix.size:=by grind
 refine⟨i+j,(),hz,?_⟩
 simp_all [gx]
def MInv.addA {k:Nat}(M:MInv lt xs ys ia ib o)(h:∀c∈(xs.toList.drop ia).take k,∀y∈ys.toList.drop ib,jG lt c y):MInv lt xs ys (ia+k) ib (o++(xs.toList.drop ia).take k):=by
 have e:xs.toList.drop ia=(xs.toList.drop ia).take k++xs.toList.drop (ia+k):=by rw[<- List.drop_drop,UI]
 have a:=M.a;have b:=M.b;have f:=M.pm;rw[e,<- Uh] at a f;refine⟨a,?_,f⟩;rw[VD] at a b ⊢;refine⟨a.1,b.2.1,λx i y g=>?_⟩;rcases Jb.mp i with z|z
 .exact b.2.2 x z y g
 .exact h x z y g
def MInv.addB {k:Nat}(M:MInv lt xs ys ia ib o)(g:∀c∈(ys.toList.drop ib).take k,∀x∈xs.toList.drop ia,jG lt c x):MInv lt xs ys ia (ib+k) (o++(ys.toList.drop ib).take k):=by
 have e:ys.toList.drop ib=(ys.toList.drop ib).take k++ys.toList.drop (ib+k):=by rw[<- List.drop_drop,UI]
 have b:=M.a;have a:=M.b;have h:=M.pm;rw[e] at a h;rw[<- Uh] at a;refine⟨?_,a,?_⟩
 .rw[VD] at b a ⊢;refine⟨a.1,b.2.1,λx i y f=>?_⟩;rcases Jb.mp i with z|z
  .exact b.2.2 x z y f
  .exact g x z y f
 .exact by grind
def MInv.doneA (M:MInv lt xs ys ia ib o)(h:ys.size<=ib):zW lt xs ys (o++xs.toList.drop ia++ys.toList.drop ib):=by
 have e:=Vg ();refine⟨M.pm,?_⟩;rw[e,ZA];exact M.a
def MInv.doneB (M:MInv lt xs ys ia ib o)(h:xs.size<=ia):zW lt xs ys (o++xs.toList.drop ia++ys.toList.drop ib):=by
 refine⟨M.pm,?_⟩;rw[(Vg ()),ZA];exact M.b
def MInv.last (M:MInv lt xs ys ia ib o)(h:ia+1=xs.size)(a:∀y∈ys.toList,jG lt y (gx xs ia)):zW lt xs ys (o++ys.toList.drop ib++xs.toList.drop ia):=by
 have e:xs.toList.drop ia=[gx xs ia]:=by
  grind[Xg,List.drop_eq_nil_of_le]
 have b:=M.a;have c:=M.b;refine⟨Vq ?_ M.pm,?_⟩
 .grind
 grind
def MInv.one (W:Wk lt)(M:MInv lt xs ys ia ib o)(a:ib<ys.size)(b:ia<xs.size)(q:lt (gx ys ib) (gx xs ia)=true):MInv lt xs ys ia (ib+1) (o++[gx ys ib]):=by
 have e:(ys.toList.drop ib).take 1=[gx ys ib]:=by rw[Xg a];rfl
 have:=M.addB λc f x g=>by
  rw[e] at f;rw[Jd.mp f];have hs:=(VD.mp M.a).2.1;rw[Xg b] at g hs;rcases UV.mp g with z|z
  .rw[z];exact .inl q
  .exact jG.trans W (.inl q) ((Ji.mp hs).1 x z)
 simp_all
def MInv.two (W:Wk lt)(f:∀x∈xs.toList,∀y∈ys.toList,x<y)(M:MInv lt xs ys ia ib o)(a:ib<ys.size)(b:ia<xs.size)(q:lt (gx ys ib) (gx xs ia)=false):MInv lt xs ys (ia+1) ib (o++[gx xs ia]):=by
 have e:(xs.toList.drop ia).take 1=[gx xs ia]:=by rw[Xg b];rfl
 have r:jG lt (gx xs ia) (gx ys ib):=.inr ⟨q,f _ (Q4 b) _ (Q4 a)⟩;have:=M.addA λc g y h=>by
  rw[e] at g;rw[Jd.mp g];have hs:=(VD.mp M.b).2.1;rw[Xg a] at h hs;rcases UV.mp h with z|z
  .rwa [z]
  .exact jG.trans W r ((Ji.mp hs).1 y z)
 simp_all
end
def ar (it:Nat->Keyed)(o:Yj):Array Keyed:=(o.map it).toArray
section
variable {it:Nat->Keyed}{o:Yj}{xs ys:Yi}{i j k:Nat}
def Fw {x:Nat}:(ar it o).push (it x)=ar it (o++[x]):=by simp[ar]
def Ax:(xs.map it).extract i j=ar it ((xs.toList.take j).drop i):=by
 apply Vj;simp[ar,List.drop_take]
def Ay {p:Yj}:ar it o++ar it p=ar it (o++p):=by simp[ar]
def Fx:(ar it o).reverse=ar it o.reverse:=by simp[ar]
def Az {x:Nat} : #[it x]=ar it [x]:=by simp[ar]
def fJ:(xs.toList.take (i+k)).drop i=(xs.toList.drop i).take k:=by simp_all [List.drop_take]
def OA:(xs.toList.take xs.size).drop i=xs.toList.drop i:=by rw[UJ ()]
theorem gO:ar it o++(xs.map it).extract i xs.size++(ys.map it).extract j ys.size=ar it (o++xs.toList.drop i++ys.toList.drop j):=by
 simp_all [Ax,OA,Ay]
theorem Xh (h:xs.toList.Pairwise R)(b:i<j)(a:j<xs.size):R (gx xs i) (gx xs j):=by
 have:=Jj.mp h i j (by simp;lia) (by simpa using a) b;unfold gx;rw[Uy (),Uy a];simpa using this
def Cz {x:Nat}(h:x∈(xs.toList.drop i).take k):∃j,j<k/\i+j<xs.size/\x=gx xs (i+j):=by
 obtain⟨j,a,e⟩:=Jv.mp h;rw[Uv,List.length_drop] at a;have hz:i+j<xs.size:=by grind
 refine⟨j,(),hz,?_⟩
 simp_all [gx]
end
structure SEq (s t:SortSt):Prop where
 arr:arrOf t=arrOf s
 kd:kindOf t=kindOf s
 fl:failedOf t=failedOf s
 pd:pendingOf t=pendingOf s
theorem SEq.refl (s):SEq s s:=⟨rfl,rfl,rfl,rfl⟩
theorem SEq.trans {s t u:SortSt}(h:SEq s t)(k:SEq t u):SEq s u:=⟨k.arr.trans h.arr,k.kd.trans h.kd,k.fl.trans h.fl,k.pd.trans h.pd⟩
section
variable {lt:Yd}{xs ys:Yi}{ia ib m:Nat}{o:Yj}(W:Wk lt)
include W
theorem Fy {k:Nat}(a:xs.toList.Pairwise (jG lt)){n:Nat}(b:ia+n<=xs.size):∀i j,i<j->j<n->be lt false (gx xs (ia+j)) k=true->be lt false (gx xs (ia+i)) k=true:=λi j c e h=>by
 have h:(!lt k (gx xs (ia+j)))=true:=h;show(!lt k (gx xs (ia+i)))=true;cases q:lt k (gx xs (ia+i)) with
 |false=>rfl
 |true =>
  rcases W.neg _ (gx xs (ia+j)) _ q with z|z
  .simp_all
  grind[jG.no,Xh]
theorem Fz {k:Nat}(a:xs.toList.Pairwise (jG lt)){n:Nat}(b:ia+n<=xs.size):∀i j,i<j->j<n->be lt true (gx xs (ia+j)) k=true->be lt true (gx xs (ia+i)) k=true:=λi j c e h=>by
 rcases W.neg _ (gx xs (ia+i)) _ h with z|z
 .grind[jG.no,Xh]
 .exact z
theorem MInv.galA (a:∀x∈xs.toList,∀y∈ys.toList,x<y)(n:ys.toList.Pairwise (jG lt))(M:MInv lt xs ys ia ib o)(b:ib<ys.size)(h:∀i,i<m->be lt false (gx xs (ia+i)) (gx ys ib)=true):MInv lt xs ys (ia+m) ib (o++(xs.toList.drop ia).take m):=by
 refine M.addA λc e y f=>?_;obtain⟨j,g,hz,rfl⟩:=Cz e;obtain⟨l,p,s,rfl⟩:=Fv f;have q:(!lt (gx ys ib) (gx xs (ia+j)))=true:=h j g;have q:lt (gx ys ib) (gx xs (ia+j))=false:=by simpa using q
 have r:jG lt (gx xs (ia+j)) (gx ys ib):=.inr ⟨q,a _ (Q4 hz) _ (Q4 b)⟩
 grind[jG.trans,Xh]
theorem MInv.galB (f:xs.toList.Pairwise (jG lt))(M:MInv lt xs ys ia ib o)(g:ia<xs.size)(h:∀i,i<m->be lt true (gx ys (ib+i)) (gx xs ia)=true):MInv lt xs ys ia (ib+m) (o++(ys.toList.drop ib).take m):=by
 refine M.addB λc a y b=>?_;obtain⟨j,e,hz,rfl⟩:=Cz a;obtain⟨l,n,p,rfl⟩:=Fv b;have r:jG lt (gx ys (ib+j)) (gx xs ia):=.inl (h j e)
 grind[jG.trans,Xh]
end
section
variable {prog:Program}{w:World}{A:Around}{E:Ya}{s:Shared}{kind:SortKind}{it:Nat->Keyed}{lt:Yd}{N:Nat}{st:SortSt}
structure MH (lt:Yd)(N:Nat)(xs ys:Yi):Prop where
 W:Wk lt
 xn:∀x∈xs.toList,x<N
 yn:∀y∈ys.toList,y<N
 hxy:∀x∈xs.toList,∀y∈ys.toList,x<y
 px:xs.toList.Pairwise (jG lt)
 py:ys.toList.Pairwise (jG lt)
abbrev G7 (α β γ: Type):=Option KA × α × β × γ × Nat×Nat×Nat
abbrev G6 (α β γ: Type):=Option KA × α × β × γ × Nat×Nat
abbrev G5 (α β γ: Type):=Option KA × α × β × γ × Nat
def A0:Nat->SM PUnit:=sortPriv% PySem.Builtin.setMinGallop
def C0 {m:Nat}{a:SortSt}{Q:PUnit->YB}(b:SEq a st)(h:∀s',SEq a s'->Q ⟨⟩ s'):YK prog w A E s (A0 m) Q st:=wpS_modify (h _ (b.trans ⟨rfl,rfl,rfl,rfl⟩))
section
variable {α β γ: Type}(n:Nat)(f:Nat -> α -> β -> γ -> Nat->Nat->SM (ForInStep (G6 α β γ)))(k:α -> β -> γ -> Nat->Nat->Nat->SM (ForInStep (G7 α β γ)))
noncomputable def mC (c:G7 α β γ):SM (ForInStep (G5 α β γ)):=match c.1 with
 |some r=>pure (.done (some r,c.2.1,c.2.2.1,c.2.2.2.1,c.2.2.2.2.1))
 |none=>A0 (c.2.2.2.2.1+1) >>= λ_=>pure (.yield (none,c.2.1,c.2.2.1,c.2.2.2.1,c.2.2.2.2.1+1))
noncomputable def m2 (x:α)(y:β)(z:γ)(mg ac bc:Nat):SM (ForInStep (G7 α β γ)):=if mg > 1 then k x y z ac bc (mg-1) else k x y z ac bc mg
noncomputable def mB (mg:Nat)(c:G6 α β γ):SM (ForInStep (G5 α β γ)):=match c.1 with
 |some r=>pure (.done (some r,c.2.1,c.2.2.1,c.2.2.2.1,mg))
 |none=>(liftM (rule "list.sort.gallop"):SM PUnit) >>= λ_=>(forIn [:n] ((none,c.2.1,c.2.2.1,c.2.2.2.1,mg+1,c.2.2.2.2.1,c.2.2.2.2.2):G7 α β γ) λ_ c=>m2 k c.2.1 c.2.2.1 c.2.2.2.1 c.2.2.2.2.1 c.2.2.2.2.2.1 c.2.2.2.2.2.2) >>= mC
noncomputable def mA (c:G5 α β γ):SM (ForInStep (G5 α β γ)):=
 (forIn [:n] ((none,c.2.1,c.2.2.1,c.2.2.2.1,0,0):G6 α β γ) λ_ d=>f c.2.2.2.2 d.2.1 d.2.2.1 d.2.2.2.1 d.2.2.2.2.1 d.2.2.2.2.2) >>= mB n k c.2.2.2.2
noncomputable def mT (x:α)(y:β)(z:γ):SM KA:=get >>= λs=>(forIn [:n] ((none,x,y,z,gallopOf s):G5 α β γ) λ_ c=>mA n f k c) >>= λc=>match c.1 with
 |some r=>pure r
 |none=>liftM (unsupported "internal:list.sort.merge-bound")
variable {n f k}{P:Nat -> α -> β -> γ -> Prop}{D:KA->Prop}
structure MR (P:α -> β -> γ -> Prop)(D:KA->Prop)(st0:SortSt)(R:ForInStep (G7 α β γ)->YB):Prop where
 dn:∀{v t sy},SEq st0 sy->D v->R (.done (some v,t)) sy
 go:∀{x y z mg ac bc sy},SEq st0 sy->P x y z->R (.done (none,x,y,z,mg,ac,bc)) sy/\R (.yield (none,x,y,z,mg,ac,bc)) sy
def pA {x:α}{y:β}{z:γ}{mg ac bc:Nat}{R:ForInStep (G7 α β γ)->YB}(h:∀mg,YK prog w A E s (k x y z ac bc mg) R st):YK prog w A E s (m2 k x y z mg ac bc) R st:=wi (λ_=>h _) λ_=>h _
def rT {x:α}{y:β}{z:γ}{Q:KA->YB}(m:kindOf st=kind)(o:P 1 x y z)(q:∀{g x y z},P g x y z->1<=n/\g<=n)(le:∀{g l x y z},P g x y z->l<=g->P l x y z)
 (r:∀{g mg x y z ac bc st} {R:ForInStep (G6 α β γ)->YB},kindOf st=kind->P g x y z->(∀{v t},D v->R (.done (some v,t)) st)->(∀{x y z ac bc},P (g+1) x y z->R (.done (none,x,y,z,ac,bc)) st/\R (.yield (none,x,y,z,ac,bc)) st)->YK prog w A E s (f mg x y z ac bc) R st)
 (u:∀{g x y z ac bc mg i R},MR (P g) D st R->SEq st i->P g x y z->YK prog w A E s (k x y z ac bc mg) R i)
 (h:∀{v i},SEq st i->D v->Q v i):YK prog w A E s (mT n f k x y z) Q st:=by
 refine Yo (wpS_get (Yo (Yq (Yr (I:=λg c j=>SEq st j/\c.1=none/\P (g+1) c.2.1 c.2.2.1 c.2.2.2.1) (Q:=λc j=>SEq st j/\∃v,D v/\c.1=some v) ?_ ?_ ⟨.refl _,rfl,o⟩) ?_)))
 .rintro g c j _ _ ⟨a,_,p⟩;refine Yo (Yq (Yr (I:=λy c b=>b=j/\c.1=none/\P (g+1+y) c.2.1 c.2.2.1 c.2.2.2.1) (Q:=λc b=>b=j/\((∃v,D v/\c.1=some v)\/c.1=none/\P (g+2) c.2.1 c.2.2.1 c.2.2.2.1)) ?_ ?_ ⟨rfl,rfl,p⟩) ?_)
  .rintro y c b _ _ ⟨rfl,_,p⟩;exact r (a.kd.trans m) p (λd=>⟨rfl,.inl ⟨_,d,rfl⟩⟩) λp=>⟨⟨rfl,.inr ⟨rfl,le p ()⟩⟩,rfl,rfl,p⟩
  .rintro c b ⟨rfl,e,p⟩;exact()
  .rintro c b ⟨rfl,⟨v,d,e⟩|⟨e,p⟩⟩
   .unfold mB;rw[e];exact Yp ⟨a,v,d,rfl⟩
   .unfold mB;rw[e];refine Yo (wpS_lift (wpAny_rule ⟨rfl,?_⟩));refine Yo (Yq (Yr (I:=λ_ c b=>SEq st b/\c.1=none/\P (g+2) c.2.1 c.2.2.1 c.2.2.2.1) (Q:=λc b=>SEq st b/\((∃v,D v/\c.1=some v)\/c.1=none/\P (g+2) c.2.1 c.2.2.1 c.2.2.2.1)) ?_ (λc b h=>⟨h.1,.inr h.2⟩) ⟨a,rfl,p⟩) ?_)
    .rintro y c b _ _ ⟨a,_,p⟩;exact pA λ_=>u ⟨λa d=>⟨a,.inl ⟨_,d,rfl⟩⟩,λa p=>⟨⟨a,.inr ⟨rfl,p⟩⟩,a,rfl,p⟩⟩ a p
    .rintro c b ⟨a,⟨v,d,e⟩|⟨e,p⟩⟩
     .unfold mC;rw[e];exact Yp ⟨a,v,d,rfl⟩
     .unfold mC;rw[e];exact Yo (C0 a λb a=>Yp ⟨a,rfl,p⟩)
 .rintro c j ⟨_,_,p⟩;have:=(q p).2;lia
 grind[PyProof.Rows.wpS_pure]
end
theorem sz {a:Yi}:(a.map it).size=a.size:=Ul
def bz {a:Yi}{p:Nat}(h:(p == (a.map it).size)=true):p=a.size:=()
def nz {a:Yi}{p:Nat}(h:¬(p == (a.map it).size)=true):p≠a.size:=()
def v0 {v:KA}{o:Yj}{x:Nat}(e:v=ar it o):v.push (it x)=ar it (o++[x]):=by rw[e,Fw]
def wm {a:Yi}{v:KA}{o:Yj}{i k:Nat}(e:v=ar it o):v++(a.map it).extract i (i+k)=ar it (o++(a.toList.drop i).take k):=by rw[e,Ax,fJ,Ay]
def MD (lt:Yd)(it:Nat->Keyed)(a ys:Yi)(v:KA):Prop:=∃o,zW lt a ys o/\v=ar it o
abbrev L7:=G7 KA Nat Nat
def wH (a b o:KA)(i j:Nat):KA:=o++a.extract i a.size++b.extract j b.size
def vW (a b o:KA)(i j:Nat):KA:=o++b.extract j b.size++a.extract i a.size
noncomputable def nh (a b:KA)(mg ac bc i:Nat)(o:KA)(j:Nat):SM (ForInStep L7):=
 elem' a i >>= λx=>if(i+1+1 == a.size)=true then pure (.done (some (vW a b (o.push x) (i+1) j),o.push x,i+1,j,mg,ac,bc))
  else if(decide (ac<7)&&decide (bc<7))=true then pure (.done (none,o.push x,i+1,j,mg,ac,bc)) else pure (.yield (none,o.push x,i+1,j,mg,ac,bc))
noncomputable def rV (a b:KA)(mg ac i:Nat)(o:KA)(j k:Nat):SM (ForInStep L7):=
 if k > 0 then if(j+k == b.size)=true then pure (.done (some (wH a b (o++b.extract j (j+k)) i (j+k)),o++b.extract j (j+k),i,j+k,mg,ac,k))
  else nh a b mg ac k i (o++b.extract j (j+k)) (j+k) else nh a b mg ac k i o j
noncomputable def nj (a b:KA)(mg ac bc j:Nat)(o:KA)(i:Nat):SM (ForInStep L7):=
 elem' b j >>= λx=>if(j+1 == b.size)=true then pure (.done (some (wH a b (o.push x) i (j+1)),o.push x,i,j+1,mg,ac,bc))
  else elem' a i >>= λy=>Wh true y b (j+1) (b.size-(j+1)) 0 >>= λr=>match r with
   |some k=>rV a b mg ac i (o.push x) (j+1) k
   |_=>pure (.done (some (wH a b (o.push x) i (j+1)),o.push x,i,j+1,mg,ac,bc))
noncomputable def pB (a b:KA)(bc j:Nat)(o:KA)(i mg k:Nat):SM (ForInStep L7):=
 if k > 0 then if(i+k+1 == a.size)=true then pure (.done (some (vW a b (o++a.extract i (i+k)) (i+k) j),o++a.extract i (i+k),i+k,j,mg,k,bc))
  else if(i+k == a.size)=true then pure (.done (some (wH a b (o++a.extract i (i+k)) (i+k) j),o++a.extract i (i+k),i+k,j,mg,k,bc))
  else nj a b mg k bc j (o++a.extract i (i+k)) (i+k) else nj a b mg k bc j o i
noncomputable def rW (a b o:KA)(i j ac bc mg:Nat):SM (ForInStep L7):=
 A0 mg >>= λ_=>elem' b j >>= λx=>Wh false x a i (a.size-i) 0 >>= λr=>match r with
  |some k=>pB a b bc j o i mg k
  |_=>pure (.done (some (wH a b o i j),o,i,j,mg,ac,bc))
noncomputable def vg (a b:KA)(mg:Nat)(o:KA)(i j ac bc:Nat):SM (ForInStep (G6 KA Nat Nat)):=
 elem' b j >>= λx=>elem' a i >>= λy=>lt' x y >>= λr=>match r with
  |some t=>if t=true then elem' b j >>= λx=>if(j+1 == b.size)=true then pure (.done (some (wH a b (o.push x) i (j+1)),o.push x,i,j+1,0,bc+1))
   else if bc+1 ≥ mg then pure (.done (none,o.push x,i,j+1,0,bc+1)) else pure (.yield (none,o.push x,i,j+1,0,bc+1))
   else elem' a i >>= λx=>if(i+1+1 == a.size)=true then pure (.done (some (vW a b (o.push x) (i+1) j),o.push x,i+1,j,ac+1,0))
    else if ac+1 ≥ mg then pure (.done (none,o.push x,i+1,j,ac+1,0)) else pure (.yield (none,o.push x,i+1,j,ac+1,0))
  |_=>pure (.done (some (wH a b o i j),o,i,j,ac,bc))
set_option smartUnfolding false in
noncomputable def kP {a b:KA}:Cw a b=((liftM (rule "list.sort.merge-lo"):SM PUnit) >>= λ_=>elem' b 0 >>= λx=>if(1 == b.size)=true then pure (wH a b #[x] 0 1) else if(0+1 == a.size)=true then pure (vW a b #[x] 0 1)
 else mT (a.size+b.size) (vg a b) (rW a b) #[x] 0 1):=rfl
end
structure LI (lt:Yd)(xs ys:Yi)(g i j:Nat)(o:Yj):Prop where
 M:MInv lt xs ys i j o
 a:i+1<xs.size
 b:j<ys.size
 g:g<=i+j
def LP (lt:Yd)(it:Nat->Keyed)(a ys:Yi)(g:Nat)(v:KA)(i j:Nat):Prop:=∃o,LI lt a ys g i j o/\v=ar it o
section
variable {prog:Program}{w:World}{A:Around}{E:Ya}{s:Shared}{kind:SortKind}{it:Nat->Keyed}{lt:Yd}{N:Nat}{st st0:SortSt}{xs ys:Yi}{g mg ac bc i j k:Nat}{o:Yj}{v:KA}{R:ForInStep L7->YB}
def XU (e:v=ar it o):wH (xs.map it) (ys.map it) v i j=ar it (o++xs.toList.drop i++ys.toList.drop j):=by
 grind[wH,sz,gO]
def A1 (e:v=ar it o):vW (xs.map it) (ys.map it) v i j=ar it (o++ys.toList.drop j++xs.toList.drop i):=by
 grind[vW,sz,gO]
variable (lst:∀y∈ys.toList,jG lt y (gx xs (xs.size-1)))
include lst
theorem bm (M:MInv lt xs ys i j o)(z:i+1=xs.size):zW lt xs ys (o++ys.toList.drop j++xs.toList.drop i):=M.last z ()
variable (H:MH lt N xs ys)(L:LI lt xs ys g i j o)(e:v=ar it o)
include H L e
section
variable (C:MR (LP lt it xs ys g) (MD lt it xs ys) st0 R)(se:SEq st0 st)
include C se
theorem kQ (q:lt (gx ys j) (gx xs i)=false):YK prog w A E s (nh (xs.map it) (ys.map it) mg ac bc i v j) R st:=by
 have a:=UY L.a;refine Yo (Qw a ?_);have M2:=L.M.two H.W H.hxy L.b a q;refine wi (λz=>Yp (C.dn se ⟨_,bm lst M2 (bz z),A1 (v0 e)⟩)) λz=>?_;have b:=C.go (mg:=mg) (ac:=ac) (bc:=bc) se ⟨_,⟨M2,UB L.a (nz z),L.b,by have:=L.g;lia⟩,v0 e⟩;exact wi (λ_=>Yp b.1) λ_=>Yp b.2
theorem mZ (k2:j+k<=ys.size)(k3:∀m,m<k->be lt true (gx ys (j+m)) (gx xs i)=true)(q:j+k<ys.size->lt (gx ys (j+k)) (gx xs i)=false):YK prog w A E s (rV (xs.map it) (ys.map it) mg ac i v j k) R st:=by
 refine wi (λk0=>?_) λk0=>?_
 .have a:=L.M.galB H.W H.px (UY L.a) k3;refine wi (λz=>Yp (C.dn se ⟨_,a.doneA (Yx (bz z).symm),XU (wm e)⟩)) λz=>?_;have b:=UB k2 (nz z);exact kQ lst H ⟨a,L.a,b,by have:=L.g;lia⟩ (wm e) C se (q b)
 .have c:=Nat.eq_zero_of_not_pos k0;subst c;exact kQ lst H L e C se (q L.b)
variable (O:yq prog w A s kind it lt N)(kd:kindOf st0=kind)
include O kd
theorem kR (q:lt (gx ys j) (gx xs i)=true):YK prog w A E s (nj (xs.map it) (ys.map it) mg ac bc j v i) R st:=by
 have a:=UY L.a;refine Yo (Qw L.b ?_);have c:=L.M.one H.W L.b a q;refine wi (λz=>Yp (C.dn se ⟨_,c.doneA (),XU (v0 e)⟩)) λz=>?_;have b:=UB L.b (nz z);have z:(ys.map it).size=ys.size:=sz;exact Yo (Qw a (Yo (Xf O (se.kd.trans kd) (H.xn _ (Q4 a)) () (λi h=>H.yn _ (Q4 ())) () (Fz H.W H.py ()) λk k2 k3 f=>(mZ lst H ⟨c,L.a,b,by have:=L.g;lia⟩ (v0 e) C se () k3 λy=>f k (Zf _) ()))))
theorem nc:YK prog w A E s (rW (xs.map it) (ys.map it) v i j ac bc mg) R st:=by
 have a:=L.a;have z:(xs.map it).size=xs.size:=sz;refine Yo (C0 se λst se=>Yo (Qw L.b (Yo (Xf O (se.kd.trans kd) (H.yn _ (Q4 L.b)) () (λi h=>H.xn _ (Q4 ())) () (Fy H.W H.px ()) λk k2 k3 f=>?_))));have q:=λhz=>by
  have:(!lt (gx ys j) (gx xs (i+k)))=false:=f k (Zf _) ();simpa using this
 refine wi (λk0=>?_) λk0=>?_
 .have M2:=L.M.galA H.W H.hxy H.py L.b k3;refine wi (λz=>Yp (C.dn se ⟨_,bm lst M2 (bz z),A1 (wm e)⟩)) λb=>wi (λz=>Yp (C.dn se ⟨_,M2.doneB (),XU (wm e)⟩)) λc=>?_;have b:=nz b;have c:=nz c;exact kR lst H ⟨M2,(),L.b,by have:=L.g;lia⟩ (wm e) C se O kd (q ())
 grind[kR]
end
theorem ng {R:ForInStep (G6 KA Nat Nat)->YB}(O:yq prog w A s kind it lt N)(f:kindOf st=kind)(c:∀{v t},MD lt it xs ys v->R (.done (some v,t)) st)(go:∀{v i j ac bc},LP lt it xs ys (g+1) v i j->R (.done (none,v,i,j,ac,bc)) st/\R (.yield (none,v,i,j,ac,bc)) st):
 YK prog w A E s (vg (xs.map it) (ys.map it) mg v i j ac bc) R st:=by
 have a:=UY L.a;refine Yo (Qw L.b (Yo (Qw a (Yo (XT O f (H.yn _ (Q4 L.b)) (H.xn _ (Q4 a)) (wi (λq=>Yo (Qw L.b ?_)) λq=>Yo (Qw a ?_)))))))
 .have M2:=L.M.one H.W L.b a q;refine wi (λz=>Yp (c ⟨_,M2.doneA (),XU (v0 e)⟩)) λz=>?_;have b:=go (ac:=0) (bc:=bc+1) ⟨_,⟨M2,L.a,UB L.b (nz z),Vr L.g⟩,v0 e⟩;exact wi (λ_=>Yp b.1) λ_=>Yp b.2
 .have M2:=L.M.two H.W H.hxy L.b a ();refine wi (λz=>Yp (c ⟨_,bm lst M2 (bz z),A1 (v0 e)⟩)) λz=>?_;have b:=go (ac:=ac+1) (bc:=0) ⟨_,⟨M2,UB L.a (nz z),L.b,by have:=L.g;lia⟩,v0 e⟩;exact wi (λ_=>Yp b.1) λ_=>Yp b.2
end
section
variable {prog:Program}{w:World}{A:Around}{E:Ya}{s:Shared}{kind:SortKind}{it:Nat->Keyed}{lt:Yd}{N:Nat}{st:SortSt}{xs ys:Yi}
def OB {Q:Array Keyed->YB}(H:MH lt N xs ys)(O:yq prog w A s kind it lt N)(b:kindOf st=kind)(l:1<=xs.size)(f:1<=ys.size)(c:lt (gx ys 0) (gx xs 0)=true)(lst:∀y∈ys.toList,jG lt y (gx xs (xs.size-1)))
 (h:∀o a,SEq st a->zW lt xs ys o->Q (ar it o) a):YK prog w A E s (Cw (xs.map it) (ys.map it)) Q st:=by
 have M1:MInv lt xs ys 0 1 [gx ys 0]:=(MInv.one (o:=[]) (ia:=0) (ib:=0) H.W ⟨H.px,H.py,Vs _⟩ f l c);rw[kP];refine Yo (wpS_lift (wpAny_rule ⟨rfl,Yo (Qw f (wi (λz=>?_) λg=>wi (λz=>?_) λi=>?_))⟩))
 .rw[XU Az];exact Yp (h _ _ (.refl _) (M1.doneA ()))
 .rw[A1 Az];exact Yp (h _ _ (.refl _) (bm lst M1 (bz z)))
 have g:=nz g;have i:=nz i;have n:LI lt xs ys 1 0 1 [gx ys 0]:=⟨M1,(),(),()⟩;have q:(xs.map it).size=xs.size:=sz;have r:(ys.map it).size=ys.size:=sz;exact rT (P:=LP lt it xs ys) b ⟨_,n,Az⟩ (λp=>by
  obtain⟨_,L,_⟩:=p;have:=L.a;have:=L.b;have:=L.g;lia) (λ⟨o,L,e⟩ h=>⟨o,⟨L.M,L.a,L.b,Zh h L.g⟩,e⟩) (λb ⟨_,L,e⟩ dn go=>ng lst H L e O b dn go) (λC j ⟨_,L,e⟩=>nc lst H L e C j O b) λj ⟨o,m,e⟩=>by simp_all
end
structure MInvH (lt:Yd)(xs ys:Yi)(na nb:Nat)(o:Yj):Prop where
 a:(xs.toList.take na++o).Pairwise (jG lt)
 b:(ys.toList.take nb++o).Pairwise (jG lt)
 pm:(xs.toList.take na++ys.toList.take nb++o).Perm (xs.toList++ys.toList)
section
variable {it:Nat->Keyed}{o:Yj}{xs ys:Yi}{i j k:Nat}
def OC {x:Nat}:(ar it o.reverse).push (it x)=ar it (x::o).reverse:=by rw[Fw,List.reverse_cons]
def OD {p:Yj}:ar it o.reverse++(ar it p).reverse=ar it (p++o).reverse:=by rw[Fx,Ay,List.reverse_append]
def nG:(xs.map it).extract 0 i++(ys.map it).extract 0 j++(ar it o.reverse).reverse=ar it (xs.toList.take i++ys.toList.take j++o):=by
 simp_all [Ax,Fx,Ay]
def F6 (h:i<=j):xs.toList.take j=xs.toList.take i++(xs.toList.take j).drop i:=by
 grind[List.take_append_drop]
def C1 {x:Nat}(h:x∈(xs.toList.take j).drop i):∃l,i<=l/\l<j/\l<xs.size/\x=gx xs l:=by
 obtain⟨m,a,e⟩:=Jv.mp h;rw[List.length_drop,Uv] at a;have hz:i+m<xs.size:=by grind
 refine⟨i+m,(),(),hz,?_⟩
 simp_all [gx]
def C4 (h:j<=xs.size)(a:1<=j):(xs.toList.take j).drop (j-1)=[gx xs (j-1)]:=by
 grind[List.drop_take,Xg]
def F7 {x:Nat}(h:x∈xs.toList.take j):∃l,l<j/\l<xs.size/\x=gx xs l:=have ⟨l,_,a,b,c⟩:=C1 (i:=0) ();⟨l,a,b,c⟩
end
section
variable {lt:Yd}{xs ys:Yi}{na nb m:Nat}{o:Yj}
def MInvH.addA (M:MInvH lt xs ys na nb o)(f:m<=na)(g:∀c∈(xs.toList.take na).drop m,∀y∈ys.toList.take nb,jG lt y c):MInvH lt xs ys m nb ((xs.toList.take na).drop m++o):=by
 have a:=M.a;have b:=M.b;have h:=M.pm;rw[(F6 f)] at a h;rw[Uh] at a;refine⟨a,?_,?_⟩
 .rw[VD] at a b ⊢;refine⟨b.1,a.2.1,λy e x i=>?_⟩;rcases Jb.mp i with z|z
  .exact g x z y e
  .exact b.2.2 y e x z
 grind
def MInvH.addB (M:MInvH lt xs ys na nb o)(f:m<=nb)(g:∀c∈(ys.toList.take nb).drop m,∀x∈xs.toList.take na,jG lt x c):MInvH lt xs ys na m ((ys.toList.take nb).drop m++o):=by
 have b:=M.a;have a:=M.b;have h:=M.pm;rw[(F6 f)] at a h;rw[Uh] at a;refine⟨?_,a,?_⟩
 .rw[VD] at b a ⊢;refine⟨b.1,a.2.1,λy e x i=>?_⟩;rcases Jb.mp i with z|z
  .exact g x z y e
  .exact b.2.2 y e x z
 simp_all
def MInvH.doneA (M:MInvH lt xs ys na nb o)(h:na=0):zW lt xs ys (xs.toList.take na++ys.toList.take nb++o):=by
 refine⟨M.pm,?_⟩;rw[h,Vt,List.nil_append];exact M.b
def MInvH.doneB (M:MInvH lt xs ys na nb o)(h:nb=0):zW lt xs ys (xs.toList.take na++ys.toList.take nb++o):=by
 refine⟨M.pm,?_⟩;rw[h,Vt,ZA];exact M.a
def MInvH.first (M:MInvH lt xs ys na nb o)(h:nb=1)(a:1<=ys.size)(b:∀x∈xs.toList,jG lt (gx ys 0) x):zW lt xs ys (ys.toList.take nb++xs.toList.take na++o):=by
 have c:=M.a;have f:=M.b;have e:ys.toList.take 1=[gx ys 0]:=by
  have:=C4 a (Zf _)
  simp_all
 refine⟨Vq () M.pm,?_⟩
 grind
variable (W:Wk lt)
include W
theorem MInvH.galA (n:ys.toList.Pairwise (jG lt))(M:MInvH lt xs ys na nb o)(a:m<=na)(p:1<=nb)(q:nb<=ys.size)(h:∀i,m<=i->i<na->lt (gx ys (nb-1)) (gx xs i)=true):MInvH lt xs ys m nb ((xs.toList.take na).drop m++o):=by
 refine M.addA a λc b y e=>?_;obtain⟨j,f,g,s,rfl⟩:=C1 b;obtain⟨l,t,u,rfl⟩:=F7 e;have r:jG lt (gx ys (nb-1)) (gx xs j):=.inl (h j f g)
 grind[jG.trans,Xh]
theorem MInvH.galB (a:∀x∈xs.toList,∀y∈ys.toList,x<y)(q:xs.toList.Pairwise (jG lt))(M:MInvH lt xs ys na nb o)(b:m<=nb)(s:1<=na)(t:na<=xs.size)(h:∀i,m<=i->i<nb->lt (gx ys i) (gx xs (na-1))=false):MInvH lt xs ys na m ((ys.toList.take nb).drop m++o):=by
 refine M.addB b λc e x f=>?_;obtain⟨j,g,n,p,rfl⟩:=C1 e;obtain⟨l,u,v,rfl⟩:=F7 f;have r:jG lt (gx xs (na-1)) (gx ys j):=.inr ⟨h j g n,a _ (Q4 ()) _ (Q4 p)⟩
 grind[jG.trans,Xh]
theorem MInvH.one (a:ys.toList.Pairwise (jG lt))(M:MInvH lt xs ys na nb o)(b:1<=na)(c:na<=xs.size)(e:1<=nb)(f:nb<=ys.size)(q:lt (gx ys (nb-1)) (gx xs (na-1))=true):MInvH lt xs ys (na-1) nb (gx xs (na-1)::o):=by
 have:=M.galA (m:=na-1) W a () e f ()
 rwa [C4 c b] at this
theorem MInvH.two (a:∀x∈xs.toList,∀y∈ys.toList,x<y)(b:xs.toList.Pairwise (jG lt))(M:MInvH lt xs ys na nb o)(c:1<=na)(e:na<=xs.size)(f:1<=nb)(g:nb<=ys.size)(q:lt (gx ys (nb-1)) (gx xs (na-1))=false):MInvH lt xs ys na (nb-1) (gx ys (nb-1)::o):=by
 have:=M.galB (m:=nb-1) W a b () c e ()
 rwa [C4 g f] at this
end
abbrev H7:=G7 Nat Nat KA
def zu (a b:KA)(i j:Nat)(o:KA):KA:=a.extract 0 i++b.extract 0 j++o.reverse
noncomputable def n8 (a b:KA)(mg ac bc i j:Nat)(o:KA):SM (ForInStep H7):=
 elem' a (i-1) >>= λx=>if(i-1 == 0)=true then pure (.done (some (zu a b (i-1) j (o.push x)),i-1,j,o.push x,mg,ac,bc))
  else if(decide (ac<7)&&decide (bc<7))=true then pure (.done (none,i-1,j,o.push x,mg,ac,bc)) else pure (.yield (none,i-1,j,o.push x,mg,ac,bc))
noncomputable def rY (a b:KA)(mg ac i j:Nat)(o:KA)(t:Nat):SM (ForInStep H7):=
 if j-t > 0 then if(t == 1)=true then pure (.done (some (zu b a t i (o++(b.extract t j).reverse)),i,t,o++(b.extract t j).reverse,mg,ac,j-t))
  else if(t == 0)=true then pure (.done (some (zu a b i t (o++(b.extract t j).reverse)),i,t,o++(b.extract t j).reverse,mg,ac,j-t))
  else n8 a b mg ac (j-t) i t (o++(b.extract t j).reverse) else n8 a b mg ac (j-t) i j o
noncomputable def n9 (a b:KA)(mg ac bc j i:Nat)(o:KA):SM (ForInStep H7):=
 elem' b (j-1) >>= λx=>if(j-1 == 1)=true then pure (.done (some (zu b a (j-1) i (o.push x)),i,j-1,o.push x,mg,ac,bc))
  else elem' a (i-1) >>= λy=>Wh true y b 0 (j-1) (j-1-1) >>= λr=>match r with
   |some t=>rY a b mg ac i (j-1) (o.push x) t
   |_=>pure (.done (some (zu a b i (j-1) (o.push x)),i,j-1,o.push x,mg,ac,bc))
noncomputable def pE (a b:KA)(bc j i:Nat)(o:KA)(mg t:Nat):SM (ForInStep H7):=
 if i-t > 0 then if(t == 0)=true then pure (.done (some (zu a b t j (o++(a.extract t i).reverse)),t,j,o++(a.extract t i).reverse,mg,i-t,bc))
  else n9 a b mg (i-t) bc j t (o++(a.extract t i).reverse) else n9 a b mg (i-t) bc j i o
noncomputable def rZ (a b:KA)(i j:Nat)(o:KA)(ac bc mg:Nat):SM (ForInStep H7):=
 A0 mg >>= λ_=>elem' b (j-1) >>= λx=>Wh false x a 0 i (i-1) >>= λr=>match r with
  |some t=>pE a b bc j i o mg t
  |_=>pure (.done (some (zu a b i j o),i,j,o,mg,ac,bc))
noncomputable def sg (a b:KA)(mg i j:Nat)(o:KA)(ac bc:Nat):SM (ForInStep (G6 Nat Nat KA)):=
 elem' b (j-1) >>= λx=>elem' a (i-1) >>= λy=>lt' x y >>= λr=>match r with
  |some t=>if t=true then elem' a (i-1) >>= λx=>if(i-1 == 0)=true then pure (.done (some (zu a b (i-1) j (o.push x)),i-1,j,o.push x,ac+1,0))
   else if ac+1 ≥ mg then pure (.done (none,i-1,j,o.push x,ac+1,0)) else pure (.yield (none,i-1,j,o.push x,ac+1,0))
   else elem' b (j-1) >>= λx=>if(j-1 == 1)=true then pure (.done (some (zu b a (j-1) i (o.push x)),i,j-1,o.push x,0,bc+1))
    else if bc+1 ≥ mg then pure (.done (none,i,j-1,o.push x,0,bc+1)) else pure (.yield (none,i,j-1,o.push x,0,bc+1))
  |_=>pure (.done (some (zu a b i j o),i,j,o,ac,bc))
set_option smartUnfolding false in
noncomputable def gb {a b:KA}:Cy a b=((liftM (rule "list.sort.merge-hi"):SM PUnit) >>= λ_=>elem' a (a.size-1) >>= λx=>if(a.size-1 == 0)=true then pure (zu a b (a.size-1) b.size #[x]) else if(b.size == 1)=true then pure (zu b a b.size (a.size-1) #[x])
 else mT (a.size+b.size) (sg a b) (rZ a b) (a.size-1) b.size #[x]):=rfl
structure HI (lt:Yd)(xs ys:Yi)(g i j:Nat)(o:Yj):Prop where
 M:MInvH lt xs ys i j o
 a:1<=i
 b:2<=j
 ax:i<=xs.size
 bx:j<=ys.size
 g:g+i+j<=xs.size+ys.size
def HL (lt:Yd)(it:Nat->Keyed)(a ys:Yi)(g i j:Nat)(v:KA):Prop:=∃o,HI lt a ys g i j o/\v=ar it o.reverse
section
variable {prog:Program}{w:World}{A:Around}{E:Ya}{s:Shared}{kind:SortKind}{it:Nat->Keyed}{lt:Yd}{N:Nat}{st st0:SortSt}{xs ys:Yi}{g mg ac bc i j k t:Nat}{o:Yj}{v:KA}{R:ForInStep H7->YB}
def V5 (e:v=ar it o.reverse):zu (xs.map it) (ys.map it) i j v=ar it (xs.toList.take i++ys.toList.take j++o):=by
 unfold zu;rw[e,nG]
def yQ {x:Nat}(e:v=ar it o.reverse):v.push (it x)=ar it (x::o).reverse:=by rw[e,OC]
def wn (e:v=ar it o.reverse):v++((xs.map it).extract t i).reverse=ar it ((xs.toList.take i).drop t++o).reverse:=by rw[e,Ax,OD]
variable (fst:∀x∈xs.toList,jG lt (gx ys 0) x)(H:MH lt N xs ys)(L:HI lt xs ys g i j o)(e:v=ar it o.reverse)
include fst H L e
section
variable (C:MR (HL lt it xs ys g) (MD lt it xs ys) st0 R)(se:SEq st0 st)
include C se
theorem gc (q:lt (gx ys (j-1)) (gx xs (i-1))=true):YK prog w A E s (n8 (xs.map it) (ys.map it) mg ac bc i j v) R st:=by
 have a:=L.a;have c:=L.ax;refine Yo (Qw () ?_);have M2:=L.M.one H.W H.py a c (Uw L.b) L.bx q;refine wi (λz=>Yp (C.dn se ⟨_,M2.doneA (Ys.mp z),V5 (yQ e)⟩)) λz=>?_;have b:=C.go (mg:=mg) (ac:=ac) (bc:=bc) se ⟨_,⟨M2,(),L.b,(),L.bx,by have:=L.g;lia⟩,yQ e⟩;exact wi (λ_=>Yp b.1) λ_=>Yp b.2
theorem ny (f:t<=j)(p:∀m,t<=m->m<j->lt (gx ys m) (gx xs (i-1))=false)(q:1<=t->lt (gx ys (t-1)) (gx xs (i-1))=true):YK prog w A E s (rY (xs.map it) (ys.map it) mg ac i j v t) R st:=by
 have b:=L.b;have c:=L.bx;refine wi (λk0=>?_) λk0=>?_
 .have a:=L.M.galB H.W H.hxy H.px f L.a L.ax p;refine wi (λz=>Yp (C.dn se ⟨_,a.first (Ys.mp z) () fst,V5 (wn e)⟩)) λh=>wi (λz=>Yp (C.dn se ⟨_,a.doneB (Ys.mp z),V5 (wn e)⟩)) λl=>?_;have n:2<=t:=by
   have h:t≠1:=λy=>h (Ys.mpr y);have l:t≠0:=λy=>l (Ys.mpr y);lia
  exact gc fst H ⟨a,L.a,n,L.ax,Zh f c,by have:=L.g;lia⟩ (wn e) C se (q (Uw n))
 .have r:t=j:=()
  subst r;exact gc fst H L e C se (q (Uw b))
variable (O:yq prog w A s kind it lt N)(kd:kindOf st0=kind)
include O kd
theorem ge (q:lt (gx ys (j-1)) (gx xs (i-1))=false):YK prog w A E s (n9 (xs.map it) (ys.map it) mg ac bc j i v) R st:=by
 have a:=L.a;have b:=L.b;have c:=L.bx;have f:=L.ax;refine Yo (Qw () ?_);have h:=L.M.two H.W H.hxy H.px a f (Uw b) c q;refine wi (λz=>Yp (C.dn se ⟨_,h.first (Ys.mp z) () fst,V5 (yQ e)⟩)) λz=>?_;have z:j-1≠1:=λy=>z (Ys.mpr y);have p:i-1<xs.size:=()
 refine Yo (Qw p (Yo (Xf O (se.kd.trans kd) (H.xn _ (Q4 p)) () (λi r=>H.yn _ (Q4 ())) () (Fz H.W H.py ()) λt n l m=>?_)));simp at l m;exact ny fst H ⟨h,a,(),f,(),by have:=L.g;lia⟩ (yQ e) C se n m λy=>l (t-1) (Nat.sub_lt y Yw)
theorem n0:YK prog w A E s (rZ (xs.map it) (ys.map it) i j v ac bc mg) R st:=by
 have a:=L.a;have b:=L.b;have c:=L.bx;have n:=L.ax;have p:j-1<ys.size:=()
 refine Yo (C0 se λst se=>Yo (Qw p (Yo (Xf O (se.kd.trans kd) (H.yn _ (Q4 p)) () (λi B=>H.xn _ (Q4 ())) () (Fy H.W H.px ()) λt f h l=>?_))));simp at h l;have q:=λhz=>by
  have:(!lt (gx ys (j-1)) (gx xs (t-1)))=true:=h (t-1) (Nat.sub_lt hz Yw);simpa using this
 refine wi (λk0=>?_) λk0=>?_
 .have M2:=L.M.galA H.W H.py f (Uw b) c λi r u=>by
   have:(!lt (gx ys (j-1)) (gx xs i))=false:=l i r u;simpa using this
  refine wi (λz=>Yp (C.dn se ⟨_,M2.doneA (Ys.mp z),V5 (wn e)⟩)) λz=>?_;have m:=Nat.pos_of_ne_zero λy=>z (Ys.mpr y);exact ge fst H ⟨M2,m,b,Zh f n,c,by have:=L.g;lia⟩ (wn e) C se O kd (q m)
 .have x:t=i:=()
  subst x;exact ge fst H L e C se O kd (q a)
end
theorem n7 {R:ForInStep (G6 Nat Nat KA)->YB}(O:yq prog w A s kind it lt N)(p:kindOf st=kind)(n:∀{v t},MD lt it xs ys v->R (.done (some v,t)) st)(go:∀{i j v ac bc},HL lt it xs ys (g+1) i j v->R (.done (none,i,j,v,ac,bc)) st/\R (.yield (none,i,j,v,ac,bc)) st):
 YK prog w A E s (sg (xs.map it) (ys.map it) mg i j v ac bc) R st:=by
 have a:=L.a;have b:=L.b;have c:=L.bx;have m:=L.ax;have r:=L.g;have h:i-1<xs.size:=()
 have l:j-1<ys.size:=()
 refine Yo (Qw l (Yo (Qw h (Yo (XT O p (H.yn _ (Q4 l)) (H.xn _ (Q4 h)) (wi (λq=>Yo (Qw h ?_)) λq=>Yo (Qw l ?_)))))))
 .have M2:=L.M.one H.W H.py a m (Uw b) c q;refine wi (λz=>Yp (n ⟨_,M2.doneA (Ys.mp z),V5 (yQ e)⟩)) λz=>?_;have f:=go (ac:=ac+1) (bc:=0) ⟨_,⟨M2,(),b,Zz h,c,()⟩,yQ e⟩;exact wi (λ_=>Yp f.1) λ_=>Yp f.2
 .have M2:=L.M.two H.W H.hxy H.px a m (Uw b) c (Yu.mpr q);refine wi (λz=>Yp (n ⟨_,M2.first (Ys.mp z) () fst,V5 (yQ e)⟩)) λz=>?_;have f:=go (ac:=0) (bc:=bc+1) ⟨_,⟨M2,a,(),m,Zz l,()⟩,yQ e⟩;exact wi (λ_=>Yp f.1) λ_=>Yp f.2
end
section
variable {prog:Program}{w:World}{A:Around}{E:Ya}{s:Shared}{kind:SortKind}{it:Nat->Keyed}{lt:Yd}{N:Nat}{st:SortSt}{xs ys:Yi}
def OE {Q:Array Keyed->YB}(H:MH lt N xs ys)(O:yq prog w A s kind it lt N)(c:kindOf st=kind)(j:1<=xs.size)(g:1<=ys.size)(a:∀x∈xs.toList,jG lt (gx ys 0) x)(lst:lt (gx ys (ys.size-1)) (gx xs (xs.size-1))=true)
 (h:∀o b,SEq st b->zW lt xs ys o->Q (ar it o) b):YK prog w A E s (Cy (xs.map it) (ys.map it)) Q st:=by
 have M1:MInvH lt xs ys (xs.size-1) ys.size [gx xs (xs.size-1)]:=by
  refine MInvH.one (o:=[]) (na:=xs.size) (nb:=ys.size) H.W H.py ⟨?_,?_,?_⟩ j (Zf _) g (Zf _) lst
  .rw[UJ (),ZA];exact H.px
  .rw[UJ (),ZA];exact H.py
  grind[List.append_nil,List.take_of_length_le]
 rw[gb,sz,sz];have p:xs.size-1<xs.size:=()
 have f: #[it (gx xs (xs.size-1))]=ar it [gx xs (xs.size-1)].reverse:=Az;refine Yo (wpS_lift (wpAny_rule ⟨rfl,Yo (Qw p (wi (λz=>?_) λl=>wi (λz=>?_) λn=>?_))⟩))
 .rw[V5 f];exact Yp (h _ _ (.refl _) (M1.doneA (Ys.mp z)))
 .rw[V5 f];exact Yp (h _ _ (.refl _) (M1.first (Ys.mp z) g a))
 have l:xs.size-1≠0:=by grind
 have n:ys.size≠1:=by grind
 have q:HI lt xs ys 1 (xs.size-1) ys.size [gx xs (xs.size-1)]:=⟨M1,(),(),(),(),()⟩;exact rT (P:=HL lt it xs ys) c ⟨_,q,f⟩ (λr=>by
  obtain⟨_,L,_⟩:=r;have:=L.g;lia) (λ⟨o,L,e⟩ h=>⟨o,⟨L.M,L.a,L.b,L.ax,L.bx,by have:=L.g;lia⟩,e⟩) (λc ⟨_,L,e⟩ dn go=>n7 a H L e O c dn go) (λC i ⟨_,L,e⟩=>n0 a H L e C i O c) λi ⟨o,m,e⟩=>by simp_all
end
theorem F8 {α: Type}(k):∀l i (a:Array α),k+i+l.length<=a.size->((l.zipIdx i).foldl (λa (p:α × Nat)=>a.setIfInBounds (k+p.2) p.1) a).toList=a.toList.take (k+i)++l++a.toList.drop (k+i+l.length)
 | [],i,a,h=>by simp
 |x::r,i,a,h=>by
  rw[Zu] at h;rw[List.zipIdx_cons,Vh,F8 k r (i+1) _ (by rw[Array.size_setIfInBounds];lia),Array.toList_setIfInBounds,Zu];have b:(a.toList.set (k+i) x).take (k+(i+1))=a.toList.take (k+i)++[x]:=by
   rw[show k+(i+1)=(k+i)+1 by lia,U8,List.take_set_of_le (Zf _),UM (by simp;lia)];rfl
  grind[List.append_assoc,List.drop_set_of_lt]
def F9 {α β: Type}(f:α -> β)(a:Array α)(i j):(a.map f).extract i j=(a.extract i j).map f:=()
theorem XV {ix:Yi}{i j a:Nat}(h:i+a<j)(b:j<=ix.size):gx (ix.extract i j) a=gx ix (i+a):=by
 grind[gx,Array.getElem?_extract]
section
variable {prog:Program}{w:World}{A:Around}{E:Ya}{s:Shared}{kind:SortKind}{it:Nat->Keyed}{lt:Yd}{st:SortSt}{n:Nat}
theorem Wi {ix:Yi}{i j x:Nat}(a:j<=ix.size)(h:x∈(ix.extract i j).toList):∃l,i<=l/\l<j/\x=gx ix l:=by
 rw[Array.toList_extract,VO] at h;obtain⟨l,b,c,e⟩:=Cz h
 grind
def FB {ix:Yi}{R:Nat->Nat->Prop}{i j:Nat}(g:j<=ix.size)(h:∀a b,i<=a->a<b->b<j->R (gx ix a) (gx ix b)):(ix.extract i j).toList.Pairwise R:=by
 rw[List.pairwise_iff_getElem];have e:∀c f,c<j-i->(ix.extract i j).toList[c]=gx ix (i+c):=λc f h=>by
  grind[gx,sz,XV,Array.getElem?_eq_getElem]
 grind
def OF {x y k:Nat}(W:Wk lt)(b:jG lt x y)(h:be lt false y k=true):be lt false x k=true:=by
 have h:(!lt k y)=true:=h;show(!lt k x)=true;cases q:lt k x with
 |false=>rfl
 |true =>
  rcases W.neg _ y _ q with z|z
  .simp_all
  .rw[(jG.no W b)] at z;cases z
def OG {x y k:Nat}(W:Wk lt)(b:jG lt x y)(h:be lt true y k=true):be lt true x k=true:=by
 rcases W.neg _ x _ h with z|z
 .rw[(jG.no W b)] at z;cases z
 .exact z
end
structure PlO (lo N:Nat)(bs ix:Yi)(k:Nat):Prop where
 size:ix.size=N
 perm:ix.Perm (Array.range N)
 low:∀a,a<lo->gx ix a=gx bs a
 mid:∀a,lo<=a->a<k->lo<=gx ix a/\gx ix a<k
 suf:∀a,k<=a->a<N->gx ix a=a
def FC {N a:Nat}{ix:Yi}(p:ix.Perm (Array.range N))(b:a<ix.size):gx ix a<N:=by
 have:=(Jo.mp p).mem_iff.mp (Q4 b)
 simp_all
section
variable {lo N k:Nat}{bs ix:Yi}
def PlO.all (h:PlO lo N bs ix k){a:Nat}(b:a<N):gx ix a<N:=FC h.perm (by rwa [h.size])
def PlO.succ (h:PlO lo N bs ix k)(g:lo<=k)(b:k<N):PlO lo N bs ix (k+1):=by
 refine⟨h.size,h.perm,h.low,λa e i=>?_,λa j f=>h.suf a () f⟩;by_cases c:a<k
 .have:=h.mid a e c;lia
 .have:a=k:=()
  subst this;rw[h.suf a (Zf _) b];lia
def PlO.rev {i:Nat}(h:PlO lo N bs ix k)(g:k<=N)(j:lo<=i)(l:i<=k):PlO lo N bs (mirror ix i k ((k-i) / 2)) k:=by
 have hz:k<=ix.size:=by rwa [h.size]
 refine⟨by rw[mirror_size];exact h.size,(mirror_perm _ _ _ _).trans h.perm,λa b=>?_,λa c b=>?_,λa e f=>?_⟩
 .rw[XS hz,Ze ()];exact h.low a b
 .rw[XS hz]
  split
  .exact h.mid _ () ()
  .exact h.mid a c b
 .rw[XS hz,Ze ()];exact h.suf a e f
end
def zw (lt:Yd)(lo:Nat)(ix:Yi)(k:Nat):Prop:=∀a b,lo<=a->a<b->b<k->jG lt (gx ix a) (gx ix b)
def ma (lt:Yd)(lo:Nat)(ix:Yi)(k:Nat):Prop:=∀a b,lo<=a->a<b->b<k->jG lt (gx ix b) (gx ix a)
structure SBp (it:Nat->Keyed)(kind:SortKind)(pn:Array (Nat×Nat×Nat))(ix:Yi)(st:SortSt):Prop where
 arr:arrOf st=ix.map it
 kd:kindOf st=kind
 fl:failedOf st=none
 pd:pendingOf st=pn
structure EqO (lt:Yd)(lo:Nat)(ix:Yi)(x u:Nat):Prop where
 le:lo<=u
 ux:u<x
 out:∀a b,lo<=a->a<b->b<x->a<u->lt (gx ix b) (gx ix a)=true\/(b<u/\jG lt (gx ix b) (gx ix a))
 same:∀a b,u<=a->a<x->u<=b->b<x->lt (gx ix a) (gx ix b)=false
 rise:∀a b,u<=a->a<b->b<x->gx ix a<gx ix b
def Wj {ix:Yi}{i j k:Nat}(a:j<=ix.size)(b:i<=k)(c:k<j):∃m,i<=m/\m<j/\k+m+1=i+j/\gx (mirror ix i j ((j-i) / 2)) k=gx ix m:=by
 refine⟨i+j-1-k,(),(),(),?_⟩;rw[XS a,Zd ⟨b,c⟩]
def XX {ix:Yi}{i j k:Nat}(a:j<=ix.size)(h:k<i\/j<=k):gx (mirror ix i j ((j-i) / 2)) k=gx ix k:=by
 rw[XS a,Ze ()]
section
variable {lt:Yd}{lo:Nat}{ix:Yi}(W:Wk lt)
include W
theorem A3 {a:Nat}:lt a a=false:=by
 cases z:lt a a with
 |false=>rfl
 |true=>have:=W.asy _ _ z;simp_all
theorem EqO.down {x u:Nat}(h:EqO lt lo ix x u)(hz:x<=ix.size):ma lt lo (mirror ix u x ((x-u) / 2)) x:=by
 intro a b j ab g;by_cases f:u<=b
 .obtain⟨n,i,l,p,e⟩:=Wj hz f g;rw[e];by_cases c:u<=a
  .obtain⟨q,o,m,r,e⟩:=Wj hz c (Ug ab g);rw[e];exact .inr ⟨h.same _ _ o m i l,h.rise _ _ i () m⟩
  .have c:=Yv c;rw[XX hz (.inl c)];rcases h.out a n j (Zg c i) l c with z|z
   .exact .inl z
   .exact z.2
 .have f:=Yv f;have c:=Ug ab f;rw[XX hz (.inl f),XX hz (.inl c)];rcases h.out a b j ab g c with z|z
  .exact .inl z
  .exact z.2
theorem EqO.down0 {x:Nat}(h:EqO lt lo ix (x+1) x):ma lt lo ix (x+1):=by
 intro a b e ab c;rcases h.out a b e ab c (Zg ab (Ur c)) with z|z
 .exact .inl z
 .exact z.2
theorem xr {x y:Nat}(m:y+1=x)(n:lo<=y)(D:ma lt lo ix x)(f:lt (gx ix x) (gx ix y)=true):EqO lt lo ix (x+1) x:=by
 have wP:∀a,lo<=a->a<x->lt (gx ix x) (gx ix a)=true:=λa e g=>by
  by_cases c:a=y
  .rwa [c]
  .rcases W.neg _ (gx ix a) _ f with z|z
   .exact z
   .rw[jG.no W (D a y e () ())] at z;exact JC z
 have eq:∀{a},x<=a->a<x+1->a=x:=()
 refine⟨(),UG _,λa b e ab o g=>?_,λa b h i j l=>?_,()⟩
 .by_cases c:b<x
  .exact .inr ⟨c,D a b e ab c⟩
  simp_all
 .rw[eq h i,eq j l];exact A3 W
theorem EqO.more {x y u:Nat}(h:EqO lt lo ix x u)(G:y+1=x)(v:gx ix x=x)(l:∀a,lo<=a->a<x->gx ix a<x)(A:lt (gx ix x) (gx ix y)=false)(B:lt (gx ix y) (gx ix x)=false):EqO lt lo ix (x+1) u:=by
 have le:=h.le;have C:=h.ux;have E:∀k,lt (gx ix y) k=true->lt (gx ix x) k=true:=λk z=>by
  rcases W.neg _ (gx ix x) _ z with y|y
  .rw[B] at y;exact JC y
  lia
 have F:∀k,lt k (gx ix x)=true->lt k (gx ix y)=true:=λk z=>by
  rcases W.neg _ (gx ix y) _ z with y|y
  .exact y
  simp_all
 have m:∀k,lt (gx ix x) k=true->lt (gx ix y) k=true:=λk z=>by
  rcases W.neg _ (gx ix y) _ z with y|y
  .rw[A] at y;exact JC y
  lia
 have n:y<x:=()
 have i:u<=y:=()
 have e:∀{b},b<x+1->¬b=x->b<x:=λh k=>UB (Ur h) k;refine⟨le,UC C,λa b q ab o p=>?_,λa b g r s t=>?_,λa b g ab o=>?_⟩
 .by_cases c:b=x
  .rw[c];rcases h.out a y q (Zg p i) n p with z|z
   .exact .inl (E _ z)
   .exact Zn z.1 (Nat.not_lt_of_le i)
  .exact h.out a b q ab (e o c) p
 .by_cases j:a=x
  .by_cases f:b=x
   .rw[j,f];exact A3 W
   .rw[j];cases z:lt (gx ix x) (gx ix b) with
    |false=>rfl
    |true =>
     have w:=m _ z;rw[h.same y b i n s (e t f)] at w;exact JC w
  .by_cases f:b=x
   .rw[f];cases z:lt (gx ix a) (gx ix x) with
    |false=>rfl
    |true =>
     have w:=F _ z;rw[h.same a y g (e r j) i n] at w;exact JC w
   .exact h.same a b g (e r j) s (e t f)
 .by_cases f:b=x
  .rw[f,v];exact l a (Zh le g) (f ▸ ab)
  .exact h.rise a b g ab (e o f)
end
abbrev C2:=Option (Option Nat)×Nat
noncomputable def bU (p c:Nat):SM (ForInStep C2):=ltAt' p (p-1) >>= λr=>match r with
 |some t=>if t=true then pure (.done (none,c)) else pure (.yield (none,c+1))
 |_=>pure (.done (some none,c))
noncomputable def rg (lo a n:Nat):SM (Option Nat):=reverseSlice' lo (lo+n) >>= λ_=>(forIn [n:a] ((none,n):C2) λ_ c=>bU (lo+c.2) c.2) >>= λc=>match c.1 with
 |some r=>pure r
 |none=>pure (some c.2)
noncomputable def sx (lo a n q:Nat):SM (Option Nat):=if q > 0 then reverseSlice' (lo+n-(q+1)) (lo+n) >>= λ_=>rg lo a n else rg lo a n
noncomputable def sw (p n q:Nat):SM (ForInStep C3):=ltAt' p (p-1) >>= λr=>match r with
 |some t=>if t=true then(if q > 0 then reverseSlice' (p-(q+1)) p >>= λ_=>pure (.yield (none,n+1,0)) else pure (.yield (none,n+1,0)))
  else ltAt' (p-1) p >>= λr=>match r with
   |some t=>if t=true then pure (.done (none,n,q)) else pure (.yield (none,n+1,q+1))
   |_=>pure (.done (some none,n,q))
 |_=>pure (.done (some none,n,q))
noncomputable def rh (lo a n:Nat):SM (Option Nat):=(liftM (rule "list.sort.descending-run"):SM PUnit) >>= λ_=>(forIn [n+1:a] ((none,n+1,0):C3) λ_ c=>sw (lo+c.2.1) c.2.1 c.2.2) >>= λc=>match c.1 with
 |some r=>pure r
 |none=>sx lo a c.2.1 c.2.2
noncomputable def pO (lo a n:Nat):SM (Option Nat):=if(n == a)=true then pure (some n) else if n > 1 then ltAt' lo (lo+n-1) >>= λr=>match r with
 |some t=>if t=true then pure (some n) else reverseSlice' lo (lo+n) >>= λ_=>rh lo a n
 |_=>pure none
 else rh lo a n
set_option smartUnfolding false in
def fK {lo a:Nat}:countRun' lo a=((forIn [1:a] ((none,1):C2) λ_ c=>bU (lo+c.2) c.2) >>= λc=>match c.1 with|some r=>pure r|none=>pO lo a c.2):=rfl
section
variable {prog:Program}{w:World}{A:Around}{E:Ya}{s:Shared}{kind:SortKind}{it:Nat->Keyed}{lt:Yd}{lo N:Nat}{bs ix:Yi}{st:SortSt}{pn:Array (Nat×Nat×Nat)}
def XY {a b k:Nat}{Q:Option Bool->YB}(O:yq prog w A s kind it lt N)(B:SBp it kind pn ix st)(L:PlO lo N bs ix k)(c:a<N)(e:b<N)(h:Q (some (lt (gx ix a) (gx ix b))) st):
 YK prog w A E s (ltAt' a b) Q st:=by
 have f:(arrOf st)[a]? = some (it (gx ix a)):=by rw[B.arr,UN,Cu (by rwa [L.size])];rfl
 have g:(arrOf st)[b]? = some (it (gx ix b)):=by rw[B.arr,UN,Cu (by rwa [L.size])];rfl
 show wpS _ _ _ _ (elem' (arrOf st) a >>= λx=>elem' (arrOf st) b >>= λy=>lt' x y) Q st;rw[elem'_eq,elem'_eq,f,g];exact Yo (Yp (Yo (Yp (XT O B.kd (L.all c) (L.all e) h))))
def SBp.set {a:Yi}(B:SBp it kind pn ix st){b:Array Keyed}(e:b=a.map it):SBp it kind pn a (setArr st b):=⟨e,B.kd,B.fl,B.pd⟩
def SBp.rev {i j m:Nat}(B:SBp it kind pn ix st):SBp it kind pn (mirror ix i j m) (setArr st (mirror (arrOf st) i j m)):=B.set (by rw[B.arr,O9])
variable (W:Wk lt)(O:yq prog w A s kind it lt N)
include W O
theorem OH {p c:Nat}{R:ForInStep C2->YB}(a:p<N)(g:lo<p)(B:SBp it kind pn ix st)(L:PlO lo N bs ix p)(U:zw lt lo ix p)
 (h:lt (gx ix p) (gx ix (p-1))=true->R (.done (none,c)) st) (go:PlO lo N bs ix (p+1)->zw lt lo ix (p+1)->R (.yield (none,c+1)) st):YK prog w A E s (bU p c) R st:=by
 obtain⟨y,rfl⟩:∃y,p=y+1:=⟨p-1,()⟩;have b:=Ur g;refine Yo (XY O B L a (UY a) (wi (λq=>Yp (h q)) λq=>Yp (go (L.succ (Vk b) a) λi j f l m=>?_)));have last:jG lt (gx ix y) (gx ix (y+1)):=.inr ⟨Yu.mpr q,by rw[L.suf _ (Zf _) a];exact(L.mid _ b (UG _)).2⟩;by_cases c:j<y+1
 .exact U i j f l c
 .have e:j=y+1:=()
  subst e;by_cases d:i=y
  .simp_all
  .exact jG.trans W (U i y f () (UG _)) last
theorem FD {a b:Nat}{Q:C2->YB}
 (j:lo+b<=N) (l:1<=a) (f:a<=b) (B:SBp it kind pn ix st) (L:PlO lo N bs ix (lo+a)) (U:zw lt lo ix (lo+a))
 (h:∀m,a<=m->m<=b->PlO lo N bs ix (lo+m)->zw lt lo ix (lo+m)->(m=b\/lt (gx ix (lo+m)) (gx ix (lo+m-1))=true)->Q (none,m) st):YK prog w A E s (forIn [a:b] ((none,a):C2) λ_ c=>bU (lo+c.2) c.2) Q st:=by
 refine Yr (I:=λx c e=>e=st/\c=(none,x)/\PlO lo N bs ix (lo+x)/\zw lt lo ix (lo+x)) ?_ ?_ ⟨rfl,rfl,L,U⟩
 .rintro x c e n o ⟨rfl,rfl,g,i⟩;exact OH W O () () B g i () ()
 simp_all
variable {nr x q u:Nat}{Q:Option Nat->YB}(hn:lo+nr<=N)(h:∀k jx st',SBp it kind pn jx st'->1<=k->k<=nr->PlO lo N bs jx (lo+k)->zw lt lo jx (lo+k)->Q (some k) st')
include hn h
theorem FF (c:1<=x)(i:x<=nr)(B:SBp it kind pn ix st)(L:PlO lo N bs ix (lo+x))(D:ma lt lo ix (lo+x)):YK prog w A E s (rg lo nr x) Q st:=by
 have hz:lo+x<=ix.size:=by rw[L.size];lia
 refine Yo (wpS_reverse (Yo (FD W O hn c i B.rev (L.rev () (Zf _) ()) (λa b f ab g=>?_) λk k1 k2 j l _=>Yp (h k _ _ B.rev (Zh c k1) k2 j l))));have ⟨p,r,m,t,e⟩:=Wj hz f (Ug ab g);have ⟨v,n,y,z,o⟩:=Wj hz (Zz (UH f ab)) g;rw[e,o];exact D _ _ n () m
theorem OI (a:1<=x)(b:x<=nr)(B:SBp it kind pn ix st)(L:PlO lo N bs ix (lo+x))(X:EqO lt lo ix (lo+x) u)(e:u+(q+1)=lo+x):YK prog w A E s (sx lo nr x q) Q st:=by
 refine wi (λc=>?_) λc=>?_
 .rw[show lo+x-(q+1)=u by lia];exact Yo (wpS_reverse (FF W O hn h a b B.rev (L.rev () X.le (Zz X.ux)) (X.down W (by rw[L.size];lia))))
 .have f:q=0:=()
  subst f;rw[<- e] at X;exact FF W O hn h a b B L (e ▸ X.down0 W)
omit hn h in
theorem OJ {p:Nat}{R:ForInStep C3->YB}(b:p<N)(B:SBp it kind pn ix st)(L:PlO lo N bs ix p)(X:EqO lt lo ix p u)(e:u+(q+1)=p)
 (n:R (.done (none,x,q)) st) (go:∀i u q c,SBp it kind pn i c->PlO lo N bs i (p+1)->EqO lt lo i (p+1) u->u+(q+1)=p+1->R (.yield (none,x+1,q)) c):YK prog w A E s (sw p x q) R st:=by
 have le:=X.le;have g:=X.ux;have hz:p<=ix.size:=by rw[L.size];exact Zz b
 obtain⟨y,rfl⟩:∃y,p=y+1:=⟨p-1,()⟩;have j:=UY b;have f:=Zh le (Ur g);refine Yo (XY O B L b j (wi (λz=>wi (λl=>?_) λl=>?_) λz=>?_))
 .have z:lt (gx ix (y+1)) (gx ix y)=true:=z;rw[show y+1-(q+1)=u by lia];refine Yo (wpS_reverse (Yp (go _ _ 0 _ B.rev ((L.rev (Zz b) le (Zz g)).succ (Vk f) b) (xr W rfl f (X.down W hz) ?_) rfl)));have ⟨m,o,m2,_,e⟩:=Wj hz (Ur g) (UG y);rw[XX hz (.inr (Zf _)),e];rcases W.neg _ (gx ix m) _ z with y|y
  .exact y
  .rw[X.same _ _ o m2 (Ur g) (UG _)] at y;exact JC y
 .have r:=Nat.eq_zero_of_not_pos l;subst r;have e:=UK e;subst e;exact Yp (go ix _ 0 st B (L.succ (Vk f) b) (xr W rfl f (X.down0 W) z) rfl)
 .exact Yo (XY O B L j b (wi (λ_=>Yp n) λt=>(Yp (go ix u _ st B (L.succ (Vk f) b) (X.more W rfl (L.suf _ (Zf _) b) (λa v C=>(L.mid a v C).2) (Yu.mpr z) (Yu.mpr t)) (Zt (· + 1) e)))))
theorem FG (m:x+1<=nr)(B:SBp it kind pn ix st)(L:PlO lo N bs ix (lo+x+1))(X:EqO lt lo ix (lo+x+1) (lo+x)):YK prog w A E s (rh lo nr x) Q st:=by
 refine Yo (wpS_lift (wpAny_rule ⟨rfl,Yo (Yq (Yr (I:=λx c i=>∃u q a,c=(none,x,q)/\SBp it kind pn a i/\PlO lo N bs a (lo+x)/\EqO lt lo a (lo+x) u/\u+(q+1)=lo+x) (Q:=λc i=>∃y u q a,c=(none,y,q)/\1<=y/\y<=nr/\SBp it kind pn a i/\PlO lo N bs a (lo+y)/\EqO lt lo a (lo+y) u/\u+(q+1)=lo+y) ?_ ?_ ⟨lo+x,0,ix,rfl,B,L,X,rfl⟩) ?_)⟩))
 .rintro y c i n o ⟨u,q,a,rfl,j,f,g,e⟩;exact OJ W O (show lo+y<N from ()) j f g e ⟨y,u,q,a,rfl,Zh (Nat.le_add_left 1 x) n,Zz o,j,f,g,e⟩ λp u q r b l x e=>⟨u,q,p,rfl,b,l,x,e⟩
 .rintro c i ⟨u,q,a,rfl,j,f,g,e⟩;rw[Nat.max_eq_right m] at f g e ⊢;exact⟨nr,u,q,a,rfl,Zh (Nat.le_add_left 1 x) m,Zf _,j,f,g,e⟩
 .rintro c i ⟨x,u,q,a,rfl,t,m,j,f,g,e⟩;exact OI W O hn h t m j f g e
theorem OK (T:1<=nr)(B:SBp it kind pn ix st)(L:PlO lo N bs ix (lo+1)):YK prog w A E s (countRun' lo nr) Q st:=by
 rw[fK];refine Yo (FD W O hn (Zf 1) T B L (λa b g ab r=>()) λm S m2 j n G=>?_);refine wi (λ_=>Yp (h m ix st B S m2 j n)) λt=>?_;have t:m≠nr:=λz=>t (Ys.mpr z);have v:lt (gx ix (lo+m)) (gx ix (lo+m-1))=true:=G.resolve_left t;have m2:m+1<=nr:=UB m2 t;have l:lo+m<N:=()
 have C:lo<lo+m:=()
 have hz:lo+m<=ix.size:=by rw[j.size];exact Zz l
 refine wi (λU=>?_) λU=>?_
 .have H:=λ{I J}=>FG (E:=E) (bs:=bs) (ix:=I) (st:=J) W O hn h m2;have X:=h m ix st B S (Uw m2) j n;generalize lo+m=p at *;obtain⟨y,rfl⟩:∃y,p=y+1:=⟨p-1,()⟩;have v:lt (gx ix (y+1)) (gx ix y)=true:=v;have K:=Ur C;have Y:=UY l;have M:=UG y;refine Yo (XY O B j (Ug C l) Y (wi (λ_=>Yp X) λc=>?_));have c:lt (gx ix lo) (gx ix y)=false:=Yu.mpr c;have f:∀a b,lo<=a->a<y+1->lo<=b->b<y+1->lt (gx ix a) (gx ix b)=false:=λa b g Z lb i=>by
   cases z:lt (gx ix a) (gx ix b) with
   |false=>rfl
   |true =>
    rcases W.neg _ (gx ix lo) _ z with w|w
    .by_cases a0:a=lo
     .rw[a0,A3 W] at w;exact JC w
     .rw[jG.no W (n lo a (Zf _) () Z)] at w;exact JC w
    .rcases W.neg _ (gx ix y) _ w with u|u
     .rw[c] at u;exact JC u
     .by_cases P:b=y
      .rw[P,A3 W] at u;exact JC u
      .rw[jG.no W (n b y lb () M)] at u;exact JC u
  have o:∀a b,lo<=a->a<b->b<y+1->gx ix a<gx ix b:=λa b g ab i=>by
   rcases n a b g ab i with z|z
   .rw[f a b g (Ug ab i) (Zh g (Zz ab)) i] at z;exact JC z
   .exact z.2
  refine Yo (wpS_reverse (H B.rev ((j.rev (Zz l) (Zf _) (Zz C)).succ (Zz C) l) (xr W rfl K (λa b g ab i=>?_) ?_)))
  .obtain⟨a',R,F,a3,e⟩:=Wj hz g (Ug ab i);obtain⟨b',r,b2,b3,e'⟩:=Wj hz (Zh g (Zz ab)) i;rw[e,e'];exact .inr ⟨f _ _ R F r b2,o _ _ r () F⟩
  .obtain⟨m,R,F,_,e⟩:=Wj hz K M;rw[XX hz (.inr (Zf _)),e];rcases W.neg _ (gx ix m) _ v with z|z
   .exact z
   .rw[f _ _ R F K M] at z;exact JC z
 .have e1:m=1:=()
  subst e1;exact FG W O hn h m2 B (j.succ (Uj _ _) l) (xr W rfl (Zf _) (λa b g ab r=>()) v)
omit hn h
omit O W in
theorem Xi {ix:Yi}{p l k:Nat}(hs:p<ix.size)(a:l<=p)(b:k<=p):(k<l/\gx (bubble ix p (p-l)) k=gx ix k)\/(k=l/\gx (bubble ix p (p-l)) k=gx ix p)\/∃j,k=j+1/\l<=j/\j<p/\gx (bubble ix p (p-l)) k=gx ix j:=by
 rw[Fu hs (U9 _ _),show p-(p-l)=l by lia]
 grind
omit O W in
theorem OL {p l:Nat}(y:p<N)(f:l<=p)(o:lo<=l)(L:PlO lo N bs ix p)(U:zw lt lo ix p)(low:∀i,lo<=i->i<l->lt p (gx ix i)=false)(B:∀i,l<=i->i<p->lt p (gx ix i)=true):PlO lo N bs (bubble ix p (p-l)) (p+1)/\zw lt lo (bubble ix p (p-l)) (p+1):=by
 have hs:p<ix.size:=by rw[L.size];exact y
 have ep:gx ix p=p:=L.suf p (Zf _) y;have md:∀{i},lo<=i->i<p->lo<=gx ix i/\gx ix i<p+1:=λh k=>⟨(L.mid _ h k).1,UC (L.mid _ h k).2⟩;refine⟨⟨by rw[bubble_size];exact L.size,(bubble_perm _ _ _).trans L.perm,λa r=>?_,λa C r=>?_,λa F G=>?_⟩,λa b t ab m=>?_⟩
 .rcases Xi hs f (Zz (Zg r (Zh o f))) with ⟨_,e⟩|⟨z,_⟩|⟨j,z,h,_⟩
  .rw[e];exact L.low a r
  .omega
  .omega
 .rcases Xi hs f (Ur r) with ⟨z,e⟩|⟨z,e⟩|⟨j,z,h,k,e⟩
  .rw[e];exact md C (Zg z f)
  .rw[e,ep];exact⟨Zh o f,UG _⟩
  .rw[e];exact md (Zh o h) k
 .rw[Fu hs (U9 _ _),Ze (),Ze ()];exact L.suf a (Uw F) G
 .have m:=Ur m;rcases Xi hs f (Zh (Zz ab) m) with ⟨z,e⟩|⟨z,e⟩|⟨i,z,h,k,e⟩
  .rcases Xi hs f m with ⟨g,c⟩|⟨g,c⟩|⟨j,g,v,n,c⟩
   .rw[e,c];exact U a b t ab (Zg g f)
   .rw[e,c,ep];exact .inr ⟨low a t z,(L.mid a t (Zg z f)).2⟩
   .rw[e,c];exact U a j t (Zg z v) n
  .rcases Xi hs f m with ⟨g,c⟩|⟨g,c⟩|⟨j,g,v,n,c⟩
   .omega
   .omega
   .rw[e,c,ep];exact .inl (B j v n)
  .rcases Xi hs f m with ⟨g,c⟩|⟨g,c⟩|⟨j,g,v,n,c⟩
   .omega
   .omega
   .rw[e,c];exact U i j (Zh o h) () n
theorem OM {j ok:Nat}{Q:Bool->YB}(Y:lo+j<=N)(Z:ok<=j)(p:1<=ok)(B:SBp it kind pn ix st)(L:PlO lo N bs ix (lo+ok))(U:zw lt lo ix (lo+ok))
 (h:∀f g,SBp it kind pn f g->PlO lo N bs f (lo+j)->zw lt lo f (lo+j)->Q true g):YK prog w A E s (binarySort' lo j ok) Q st:=by
 rw[binarySort'_eq];have H:max ok 1=ok:=()
 rw[H];refine Yo (Yq (Yr (I:=λk c g=>c=(none,Yt)/\∃f,SBp it kind pn f g/\PlO lo N bs f (lo+k)/\zw lt lo f (lo+k)) (Q:=λc g=>c=(none,Yt)/\∃f,SBp it kind pn f g/\PlO lo N bs f (lo+j)/\zw lt lo f (lo+j)) ?_ ?_ ⟨rfl,ix,B,L,U⟩) ?_)
 .rintro k c t hk1 hk2 ⟨rfl,f,J,K,M⟩;have ek:gx f (lo+k)=lo+k:=K.suf _ (Zf _) ();refine Yo (Yq (Yr (I:=λx c o=>o=t/\∃l r,c=(none,l,r)/\l<=r/\r<=k/\r-l<=k-x/\(∀i,i<l->lt (lo+k) (gx f (lo+i))=false)/\(∀i,r<=i->i<k->lt (lo+k) (gx f (lo+i))=true))
   (Q:=λc o=>o=t/\∃l r,c=(none,l,r)/\l<=k/\(∀i,i<l->lt (lo+k) (gx f (lo+i))=false)/\(∀i,l<=i->i<k->lt (lo+k) (gx f (lo+i))=true)) ?_ ?_ ()) ?_)
  .rintro x c o _ hx ⟨rfl,l,r,rfl,lr,v,C,low,n⟩;dsimp only;by_cases P:l ≥ r
   .rw[Zd P];have e:l=r:=()
    subst e;exact Yp ⟨rfl,l,l,rfl,v,low,n⟩
   .rw[Ze P];obtain⟨m,H,m1,m2,m3,m4⟩:=Ft (Yv P) C;rw[H];have mk:=Zg m2 v;refine Yo (XY O J K () () ?_);rw[ek];cases q:lt (lo+k) (gx f (lo+m)) with
    |true =>
     simp only[if_true];refine Yp ⟨rfl,l,m,rfl,m1,Zz mk,m3,low,λi a b=>?_⟩;by_cases R:i=m
     .rw[R];exact q
     .rcases W.neg (lo+k) (gx f (lo+i)) _ q with z|z
      .exact z
      .rw[jG.no W (M (lo+m) (lo+i) () () ())] at z;exact JC z
    |false =>
     simp only[UD,if_false];refine Yp ⟨rfl,m+1,r,rfl,m2,v,m4,λi a=>?_,n⟩;by_cases R:i=m
     .rw[R];exact q
     .cases z:lt (lo+k) (gx f (lo+i)) with
      |false=>rfl
      |true =>
       rcases W.neg (lo+k) (gx f (lo+m)) _ z with y|y
       .rw[q] at y;exact JC y
       .rw[jG.no W (M (lo+i) (lo+m) () () ())] at y;exact JC y
  .rintro c o ⟨rfl,l,r,rfl,lr,v,C,low,n⟩;have e:l=r:=()
   subst e;exact⟨rfl,l,l,rfl,v,low,n⟩
  .rintro c o ⟨rfl,l,r,rfl,lk,low,n⟩;show wpS _ _ _ _ (moveDown' (lo+k) (lo+l) >>= λ_=>pure (ForInStep.yield (none,Yt))) _ _;rw[moveDown'_eq];have low:∀i,lo<=i->i<lo+l->lt (lo+k) (gx f i)=false:=λi p S=>by
    obtain⟨d,rfl⟩:=Va p;exact low d (Vu S)
   have n:∀i,lo+l<=i->i<lo+k->lt (lo+k) (gx f i)=true:=λi p S=>by
    obtain⟨d,rfl⟩:=Va (Zh (Uj _ _) p);exact n d (VP p) (Vu S)
   have X:=OL () (Nat.add_le_add_left lk lo) (Uj _ _) K M low n;exact Yo (wpS_modify (Yp ⟨rfl,bubble f (lo+k) (lo+k-(lo+l)),J.set (by rw[J.arr,O8]),X.1,X.2⟩))
 .rintro c t ⟨rfl,f,T,F,G⟩;have e:max ok j=j:=()
  rw[e] at F G;exact⟨rfl,f,T,F,G⟩
 .rintro c t ⟨rfl,f,T,F,G⟩;exact Yp (h f t T F G)
end
structure Seg (lt:Yd)(ix:Yi)(a b:Nat):Prop where
 pl:∀i,a<=i->i<b->a<=gx ix i/\gx ix i<b
 up:∀i j,a<=i->i<j->j<b->jG lt (gx ix i) (gx ix j)
def Seg.same {lt:Yd}{ix f:Yi}{a b:Nat}(S:Seg lt ix a b)(h:∀i,a<=i->i<b->gx f i=gx ix i):Seg lt f a b:=⟨λi c e=>by rw[h i c e];exact S.pl i c e,λi j c e g=>by rw[h i c (),h j () g];exact S.up i j c e g⟩
section
variable {prog:Program}{w:World}{A:Around}{E:Ya}{s:Shared}{kind:SortKind}{it:Nat->Keyed}{lt:Yd}{st:SortSt}{N:Nat}
def Seg.join {a m b:Nat}{ix:Yi}(W:Wk lt)(S:Seg lt ix a m)(T:Seg lt ix m b)(l:m<b)(k:∀i,a<=i->i<m->jG lt (gx ix i) (gx ix m))(n:a<=m):Seg lt ix a b:=by
 refine⟨λi c h=>?_,λi j c f g=>?_⟩
 .by_cases z:i<m
  .have:=S.pl i c z;lia
  .have:=T.pl i () h;lia
 .by_cases z:j<m
  .exact S.up i j c f z
  .by_cases y:m<=i
   .exact T.up i j y f g
   .by_cases e:j=m
    .simp_all
    .exact jG.trans W (k i c ()) (T.up m j (Zf _) () g)
def Seg.put {a e b m k:Nat}{ix:Yi}{o:Yj}(W:Wk lt)(S:Seg lt ix a e)(T:Seg lt ix e b)(hb:b<=ix.size)(C:a<=m)(I:m<e)(hk:1<=k)(v:e+k<=b)(L:∀i,a<=i->i<m->lt (gx ix e) (gx ix i)=false)(O:∀i,e+k<=i->i<b->lt (gx ix i) (gx ix (e-1))=false)
 (M:zW lt (ix.extract m e) (ix.extract e (e+k)) o):∃n:Yi,n.toList=ix.toList.take m++o++ix.toList.drop (e+k)/\o.length=e+k-m/\n.Perm ix/\Seg lt n a b/\∀i,i<a\/b<=i->gx n i=gx ix i:=by
 have ol:o.length=e+k-m:=by
  rw[M.1.length_eq,Ub,Uo,Uo,VE,VE,Vi (),Vi ()];lia
 have Q:m+o.length=e+k:=()
 have F:ix.toList.take m++((ix.extract m e).toList++(ix.extract e (e+k)).toList)++ix.toList.drop (e+k)=ix.toList:=by
  have ex:(ix.extract m e).toList++ix.toList.drop e=ix.toList.drop m:=by
   rw[Array.toList_extract,VO];have:ix.toList.drop e=(ix.toList.drop m).drop (e-m):=by rw[List.drop_drop,Vp (Zz I)]
   rw[this,UI]
  have ey:(ix.extract e (e+k)).toList++ix.toList.drop (e+k)=ix.toList.drop e:=by
   rw[Array.toList_extract,VO,VF,<- List.drop_drop,UI]
  rw[Uh,Uh,ey,ex,UI]
 have pm:(ix.toList.take m++o++ix.toList.drop (e+k)).Perm ix.toList:=by
  conv=>rhs;rw[<- F]
  exact List.Perm.append_right _ (List.Perm.append_left _ M.1)
 have G:∀x∈o,(∃b,m<=b/\b<e/\x=gx ix b)\/∃b,e<=b/\b<e+k/\x=gx ix b:=λx hx=>by
  rcases Jb.mp (M.1.mem_iff.mp hx) with z|z
  .exact .inl (Wi () z)
  .exact .inr (Wi (Zh v hb) z)
 obtain⟨n,ej⟩:∃n:Yi,n=(ix.toList.take m++o++ix.toList.drop (e+k)).toArray:=⟨_,rfl⟩;have H:n.toList=ix.toList.take m++o++ix.toList.drop (e+k):=by rw[ej]
 have p:(ix.toList.take m).length=m:=by rw[Uv,Uo];exact Vi ()
 have B:∀i,i<m->gx n i=gx ix i:=λi h=>by
  unfold gx;rw[<- Vl,<- Vl,H,Uh,UP (by rw[p];exact h),List.getElem?_take,Zd h]
 have at2:∀j h,gx n (m+j)=o[j]:=λj h=>by
  unfold gx;rw[<- Vl,H,Uh,UQ (by rw[p];exact Uj _ _),p,VF,UP h,Zqg h];rfl
 have g:∀j,gx n (e+k+j)=gx ix (e+k+j):=λj=>by
  unfold gx;rw[<- Vl,<- Vl,H,UQ (by rw[Ub,p,Q];exact Uj _ _),Ub,p,Q,VF,List.getElem?_drop]
 have q:∀i,i<m\/(∃j,j<o.length/\i=m+j)\/∃j,i=e+k+j:=λi=>by
  by_cases c1:i<m
  .exact .inl c1
  .by_cases c2:i<e+k
   .exact .inr (.inl ⟨i-m,(),()⟩)
   .exact .inr (.inr ⟨i-(e+k),()⟩)
 have R:∀i j,a<=i->i<m->e<=j->j<b->jG lt (gx ix i) (gx ix j):=λi j J h f l=>by
  have nb:=UH f l;have U:jG lt (gx ix i) (gx ix e):=.inr ⟨L i J h,Zg (S.pl i J (Ug h I)).2 (T.pl e (Zf _) nb).1⟩;by_cases z:j=e
  .rw[z];exact U
  .exact jG.trans W U (T.up e j (Zf _) () l)
 have sq:∀i c,a<=i->i<e->e+k<=c->c<b->jG lt (gx ix i) (gx ix c):=λi c J f l X=>by
  have Y:jG lt (gx ix (e-1)) (gx ix c):=.inr ⟨O c l X,Zg (S.pl (e-1) () ()).2 (T.pl c (Zh (Uj _ _) l) X).1⟩;by_cases z:i=e-1
  .rw[z];exact Y
  .exact jG.trans W (S.up i (e-1) J () ()) Y
 have sp:∀{y},a<=y->y<e->a<=gx ix y/\gx ix y<b:=λf l=>⟨(S.pl _ f l).1,by have:=(S.pl _ f l).2;lia⟩;have Z:∀{y},e<=y->y<b->a<=gx ix y/\gx ix y<b:=λf l=>⟨by have:=(T.pl _ f l).1;lia,(T.pl _ f l).2⟩;refine⟨n,H,ol,?_,⟨λi f l=>?_,λi j f P K=>?_⟩,λi h=>?_⟩
 .rw[Array.perm_iff_toList_perm,H];exact pm
 .rcases q i with c|⟨j,c,rfl⟩|⟨j,rfl⟩
  .rw[B i c];exact sp f (Ug c I)
  .rw[at2 j c];rcases G _ (UE c) with ⟨y,r,t,u⟩|⟨y,r,t,u⟩
   .rw[u];exact sp (Zh C r) t
   .rw[u];exact Z r (Zg t v)
  .rw[g j];exact Z () l
 .rcases q i with c|⟨i,c,rfl⟩|⟨i,rfl⟩
  .rw[B i c];rcases q j with d|⟨j,d,rfl⟩|⟨j,rfl⟩
   .rw[B j d];exact S.up i j f P (Ug d I)
   .rw[at2 j d];rcases G _ (UE d) with ⟨y,r,t,u⟩|⟨y,r,t,u⟩
    .rw[u];exact S.up i y f (Zg c r) t
    .rw[u];exact R i y f c r (Zg t v)
   .rw[g j];exact R i _ f c () K
  .rw[at2 i c];rcases q j with d|⟨j,d,rfl⟩|⟨j,rfl⟩
   .omega
   .rw[at2 j d];exact Jj.mp M.2 i j c d (Vu P)
   .rw[g j];rcases G _ (UE c) with ⟨y,r,t,u⟩|⟨y,r,t,u⟩
    .rw[u];exact sq y _ (Zh C r) t (Uj _ _) K
    .rw[u];exact T.up y _ r (Zg t (Uj _ _)) K
  .rcases q j with d|⟨j,d,rfl⟩|⟨j,rfl⟩
   .omega
   .omega
   .rw[g i,g j];exact T.up _ _ () P K
 .rcases h with z|z
  .exact B i (Zg z C)
  .obtain⟨j,rfl⟩:=Va (Zh v z);exact g j
def ON {l r:Yc}{x y z:Nat×Nat×Nat}:((l++x::y::r).toArray.setIfInBounds l.length z).eraseIdxIfInBounds (l.length+1)=(l++z::r).toArray:=by
 simp_all [List.eraseIdx_append_of_length_le]
noncomputable def mY (b:Nat)(v:KA):SM Bool:=(modify λs=>setArr s (List.foldl (λa x=>match x with|(p,j)=>a.setIfInBounds (b+j) p) (arrOf s) v.toList.zipIdx)) >>= λ_=>get >>= λz=>pure (failedOf z).isNone
noncomputable def rQ (a:KA)(c na b k:Nat):SM Bool:=if(k == 0)=true then pure true else if na<=k then Cw (a.extract c b) (a.extract b (b+k)) >>= mY c else Cy (a.extract c b) (a.extract b (b+k)) >>= mY c
noncomputable def rR (a:KA)(b na c nb:Nat):SM Bool:=if(na == 0)=true then pure true else elem' a (b+na-1) >>= λx=>Wh true x a c nb (nb-1) >>= λr=>match r with
 |some k=>rQ a b na c k
 |_=>pure false
noncomputable def rS (a:KA)(b na c nb:Nat):SM Bool:=elem' a c >>= λx=>Wh false x a b na 0 >>= λr=>match r with
 |some k=>rR a (b+k) (na-k) c nb
 |_=>pure false
set_option smartUnfolding false in
def kM {i:Nat}:mergeAt' i=(get >>= λz=>match (pendingOf z)[i]?,(pendingOf z)[i+1]? with
 |some (sa,na,pw),some (sb,nb,_)=>set (setPending z (((pendingOf z).setIfInBounds i (sa,na+nb,pw)).eraseIdxIfInBounds (i+1))) >>= λ_=>rS (arrOf z) sa na sb nb
 |_,_=>liftM (unsupported "internal:list.sort.pending")):=rfl
def C5 {p:Array (Nat×Nat×Nat)}:pendingOf (setPending st p)=p:=by rfl
section
variable {a b q am u k x y:Nat}{ix:Yi}{pn:Array (Nat×Nat×Nat)}{Q:Bool->YB}(W:Wk lt)(S:Seg lt ix a (q+1))(T:Seg lt ix (q+1) b)(hz:ix.size=N)(hb:b<=N)(B:SBp it kind pn ix st)
 (h:∀jx st',SBp it kind pn jx st'->jx.Perm ix->Seg lt jx a b->(∀i,i<a\/b<=i->gx jx i=gx ix i)->Q true st')
include W S T hz hb B h
theorem FH {o:Yj}{j:SortSt}(e:a<=am)(g:am<q+1)(k1:1<=k)(l:q+1+k<=b)(m:∀i,a<=i->i<am->lt (gx ix (q+1)) (gx ix i)=false)(n:∀i,q+1+k<=i->i<b->lt (gx ix i) (gx ix q)=false)
 (c:SEq st j) (M:zW lt (ix.extract am (q+1)) (ix.extract (q+1) (q+1+k)) o):YK prog w A E s (mY am (ar it o)) Q j:=by
 obtain⟨p,r,H,t,v,C⟩:=S.put W T (by rwa [hz]) e g k1 l m n M;refine Yo (wpS_modify (Yo (wpS_get (Yp ?_))));have f:=c.fl.trans B.fl;rw[f];refine h p _ ⟨?_,c.kd.trans B.kd,f,c.pd.trans B.pd⟩ t v C;rw[c.arr,B.arr];apply Vj;have F:(ar it o).toList=o.map it:=by simp[ar]
 refine Eq.trans (Zt (λz=>(List.foldl (λ(a:Array Keyed) (x:Keyed×Nat)=>a.setIfInBounds (am+x.2) x.1) (ix.map it) z.zipIdx).toList) F) ?_;have G:am+o.length=q+1+k:=()
 rw[F8 am (o.map it) 0 _ (),Array.toList_map,Array.toList_map,r,Zql,Nat.add_zero,G,Uc,Uc,List.map_take,List.map_drop]
theorem FI (j:∀i,a<=i->i<q+1->jG lt (gx ix i) (gx ix (q+1)))(c:a<=q+1)(e:q+1<b):Q true st:=h ix st B (.refl _) (S.join W T e j c) λ_ _=>rfl
variable (O:yq prog w A s kind it lt N)(vg:∀i,i<N->gx ix i<N)
include O vg
theorem mV (e:am+u=q+1)(u1:1<=u)(f:a<=am)(G:q+1<b)(r:q+1+k<=b)(m3:∀i,a<=i->i<am->lt (gx ix (q+1)) (gx ix i)=false)(m4:∀i,am<=i->i<q+1->lt (gx ix (q+1)) (gx ix i)=true)
 (k3:∀i,q+1<=i->i<q+1+k->lt (gx ix i) (gx ix q)=true) (I:∀i,q+1+k<=i->i<b->lt (gx ix i) (gx ix q)=false):YK prog w A E s (rQ (ix.map it) am u (q+1) k) Q st:=by
 have g:am<q+1:=()
 have bz:b<=ix.size:=by rw[hz];exact hb
 refine wi (λc=>Yp (FI W S T hz hb B h (λi h3 hi=>?_) (Zz (UH f g)) G)) λc=>?_
 .have c:k=0:=Ys.mp c;subst c;have b:jG lt (gx ix q) (gx ix (q+1)):=.inr ⟨I _ (Zf _) G,Zg (S.pl q (Zh f (Ur g)) (UG _)).2 (T.pl _ (Zf _) G).1⟩;by_cases z:i=q
  .rw[z];exact b
  .exact by grind
 have k1:1<=k:=by grind
 have t:q+1<=ix.size:=()
 have kz:=Zh r bz;have xn:∀x∈(ix.extract am (q+1)).toList,x<N:=λx m=>by
  grind[Wi]
 have yn:∀y∈(ix.extract (q+1) (q+1+k)).toList,y<N:=λx m=>by
  obtain⟨l,n,p,rfl⟩:=Wi kz m;exact vg _ ()
 have J:∀x∈(ix.extract am (q+1)).toList,∀y∈(ix.extract (q+1) (q+1+k)).toList,x<y:=λx m y K=>by
  obtain⟨l,n,p,rfl⟩:=Wi t m;obtain⟨l',L,P,rfl⟩:=Wi kz K;exact Zg (S.pl l (Zh f n) p).2 (T.pl l' L (Zg P r)).1
 have px:=FB (ix:=ix) (R:=jG lt) (i:=am) (j:=q+1) t λa b h ab U=>S.up a b (Zh f h) ab U;have py:=FB (ix:=ix) (R:=jG lt) (i:=q+1) (j:=q+1+k) kz λa b h ab U=>T.up a b h ab (Zg U r);have H:MH lt N (ix.extract am (q+1)) (ix.extract (q+1) (q+1+k)):=⟨W,xn,yn,J,px,py⟩;have F:(ix.extract am (q+1)).size=u:=by rw[VE];lia
 have X:(ix.extract (q+1) (q+1+k)).size=k:=by rw[VE];lia
 have Y:gx (ix.extract am (q+1)) 0=gx ix am:=XV g t;have v:gx (ix.extract am (q+1)) (u-1)=gx ix q:=by rw[XV () t,show am+(u-1)=q by lia]
 have C:gx (ix.extract (q+1) (q+1+k)) 0=gx ix (q+1):=XV () kz;have Z:gx (ix.extract (q+1) (q+1+k)) (k-1)=gx ix (q+k):=by rw[XV () kz,show q+1+(k-1)=q+k by lia]
 rw[F9,F9];refine wi (λ_=>Yo (OB H O B.kd (by rw[F];exact u1) (by rw[X];exact k1) (by rw[C,Y];exact m4 am (Zf _) g) (λy K=>?_) λo s2 se M=>FH W S T hz hb B h f g k1 r m3 I se M))
  λ_=>Yo (OE H O B.kd (by rw[F];exact u1) (by rw[X];exact k1) (λx m=>?_) (by rw[F,X,Z,v];exact k3 _ () ()) λo s2 se M=>FH W S T hz hb B h f g k1 r m3 I se M)
 .obtain⟨l,n,p,rfl⟩:=Wi kz K;rw[F,v];exact .inl (k3 l n p)
 .obtain⟨l,n,p,rfl⟩:=Wi t m;rw[C];exact .inl (m4 l n p)
theorem mW (e:am+u=q+1)(G:1<=y)(H:q+1+y=b)(g:a<=am)(m:∀i,a<=i->i<am->lt (gx ix (q+1)) (gx ix i)=false)(p:∀i,am<=i->i<q+1->lt (gx ix (q+1)) (gx ix i)=true):YK prog w A E s (rR (ix.map it) am u (q+1) y) Q st:=by
 have l:q+1<b:=()
 have r:q+1<N:=()
 have t:a<=q+1:=()
 refine wi (λc=>Yp (FI W S T hz hb B h (λi n v=>.inr ⟨m i n ?_,Zg (S.pl i n v).2 (T.pl _ (Zf _) l).1⟩) t l)) λc=>?_
 .simp_all
 have z:1<=u:=by grind
 rw[show am+u-1=q by rw[e];rfl];refine Yo (Qw () (Yo (Xf O B.kd (vg _ (UY r)) () () () (λi j C I q=>OG W (T.up _ _ (Uj _ _) (Nat.add_lt_add_left C _) ()) q) λk k2 k3 F=>(mV W S T hz hb B h O vg e z g l () m p (λi f o=>?_) λi f o=>?_))))
 .obtain⟨d,rfl⟩:=Va f;exact k3 d (Vu o)
 .obtain⟨d,rfl⟩:=Va (Zh (Uj _ _) f);exact F d (VP f) ()
theorem mX (e:a+x=q+1)(g:1<=x)(l:1<=y)(n:q+1+y=b):YK prog w A E s (rS (ix.map it) a x (q+1) y) Q st:=by
 have o:q+1<N:=()
 refine Yo (Qw () (Yo (Xf O B.kd (vg _ o) () () g (λi j p v q=>OF W (S.up _ _ (Uj _ _) (Nat.add_lt_add_left p _) ()) q) λm m2 r t=>(mW W S T hz hb B h O vg (by rwa [Nat.add_assoc,Vp m2]) l n (Uj _ _) (λi c f=>?_) λi c f=>?_))))
 .obtain⟨d,rfl⟩:=Va c;have z:(!lt (gx ix (q+1)) (gx ix (a+d)))=true:=r d (Vu f);simpa using z
 .obtain⟨d,rfl⟩:=Va (Zh (Uj _ _) c);have z:(!lt (gx ix (q+1)) (gx ix (a+d)))=false:=t d (VP c) ();simpa using z
end
def OO {a x y b g:Nat}{l r:Yc}{ix:Yi}{Q:Bool->YB}(W:Wk lt)(O:yq prog w A s kind it lt N)(B:SBp it kind (l++(a,x,b)::(a+x,y,g)::r).toArray ix st)(hz:ix.size=N)(m:ix.Perm (Array.range N))(S:Seg lt ix a (a+x))(T:Seg lt ix (a+x) (a+x+y))(n:1<=x)(o:1<=y)(j:a+x+y<=N)
 (h:∀f c,SBp it kind (l++(a,x+y,b)::r).toArray f c->f.Perm ix->Seg lt f a (a+x+y)->(∀i,i<a\/a+x+y<=i->gx f i=gx ix i)->Q true c):YK prog w A E s (mergeAt' l.length) Q st:=by
 have p:(pendingOf st)[l.length]? = some (a,x,b):=by rw[B.pd];simp
 have t:(pendingOf st)[l.length+1]? = some (a+x,y,g):=by
  rw[B.pd,List.getElem?_toArray,UQ (Uj _ _),VF];rfl
 rw[kM];refine Yo (wpS_get ?_);rw[p,t];rw[B.arr];have B':SBp it kind (l++(a,x+y,b)::r).toArray ix (setPending st (((pendingOf st).setIfInBounds l.length (a,x+y,b)).eraseIdxIfInBounds (l.length+1))):=⟨B.arr,B.kd,B.fl,by rw[C5,B.pd];exact ON⟩;obtain⟨q,e⟩:∃q,a+x=q+1:=⟨a+x-1,()⟩;rw[e] at S T j h ⊢;exact mX W S T hz j B' h O (λi u=>FC m (by rwa [hz])) e n o rfl
def yx (lt:Yd)(ix:Yi):Nat->List (Nat×Nat×Nat)->Nat->Prop
 |a,[],b=>a=b
 |a,p::r,b=>p.1=a/\1<=p.2.1/\Seg lt ix a (a+p.2.1)/\yx lt ix (a+p.2.1) r b
theorem yx.le {ix:Yi}:∀{l:Yc} {a b:Nat},yx lt ix a l b->a+l.length<=b
 | [],a,b,h=>by rw[h];simp
 |p::r,a,b,⟨_,h2,_,h4⟩=>by have:=h4.le;grind
theorem yx.app {ix:Yi}:∀{l r:Yc} {a b:Nat},yx lt ix a (l++r) b->∃c,yx lt ix a l c/\yx lt ix c r b
 | [],r,a,b,h=>⟨a,rfl,h⟩
 |p::l,r,a,b,⟨h1,h2,h3,h4⟩=>have ⟨c,e,f⟩:=yx.app h4;⟨c,⟨h1,h2,h3,e⟩,f⟩
theorem yx.cat {ix:Yi}:∀{l r:Yc} {a b c:Nat},yx lt ix a l c->yx lt ix c r b->yx lt ix a (l++r) b
 | [],r,a,b,c,h,k=>by rwa [h]
 |p::l,r,a,b,c,⟨h1,h2,h3,h4⟩,k=>⟨h1,h2,h3,yx.cat h4 k⟩
theorem yx.same {ix c:Yi}:∀{l:Yc} {a b:Nat},yx lt ix a l b->(∀i,a<=i->i<b->gx c i=gx ix i)->yx lt c a l b
 | [],a,b,h,_=>h
 |p::r,a,b,⟨h1,h2,h3,h4⟩,k=>⟨h1,h2,h3.same λi x y=>k i x (by have:=h4.le;lia),h4.same ()⟩
structure RI (it:Nat->Keyed)(kind:SortKind)(lt:Yd)(N:Nat)(ps:Yc)(lo:Nat)(ix:Yi)(st:SortSt):Prop where
 b:SBp it kind ps.toArray ix st
 size:ix.size=N
 perm:ix.Perm (Array.range N)
 ch:yx lt ix 0 ps lo
 le:lo<=N
def FJ {i lo:Nat}{ps:Yc}{ix:Yi}{Q:Bool->YB}(W:Wk lt)(O:yq prog w A s kind it lt N)(R:RI it kind lt N ps lo ix st)(J:i+1<ps.length)
 (h:∀b e a,b.length+1=ps.length->RI it kind lt N b lo e a->(∀i,lo<=i->gx e i=gx ix i)->Q true a):YK prog w A E s (mergeAt' i) Q st:=by
 obtain⟨l,x,y,r,rfl,hl⟩:∃l x y r,ps=l++x::y::r/\l.length=i:=⟨ps.take i,ps[i],ps[i+1],ps.drop (i+2),by
  simp,()⟩
 have ⟨c,n,o⟩:=R.ch.app;have ⟨p,f,q⟩:=x;have ⟨K,g,L⟩:=y;have ⟨d1,t,u,v,z,B,C⟩:=o;have F:=d1;have G:=v;have H:=t;have I:=z;have j:yx lt ix (c+f+g) r lo:=C;subst F G;have M:=j.le;have le:=R.le;subst hl;refine OO W O R.b R.size R.perm u B H I () λe a B' p' m P=>h (l++(p,f+g,q)::r) e a () ⟨B',by rw[p'.size_eq];exact R.size,p'.trans R.perm,?_,R.le⟩ ();rw[Nat.add_assoc] at m;refine(n.same ()).cat ⟨rfl,(),m,?_⟩;rw[<- Nat.add_assoc];exact j.same ()
def OP {l:Yc}{x:Nat×Nat×Nat}(f):(l++[x]).toArray.modify ((l++[x]).toArray.size-1) f=(l++[f x]).toArray:=by
 have e:∀l:Yc,(l++[x]).modify l.length f=l++[f x]:=λl=>by
  induction l with
  |nil=>rfl
  |cons y l a=>show y::(l++[x]).modify l.length f=_;rw[a];rfl
 simp[e]
abbrev U2:=Option Unit×Unit
abbrev U1:=Option Unit×Nat
noncomputable def rM (a:Nat):SM (ForInStep U2):=get >>= λz=>match (if(pendingOf z).size > 1 then(pendingOf z)[(pendingOf z).size-2]? else none) with
 |some (_,_,older)=>if older<=a then pure (.done (none,Yt)) else mergeAt' ((pendingOf z).size-2) >>= λb=>if(!b)=true then pure (.done (some Yt,Yt)) else pure (.yield (none,Yt))
 |_=>pure (.done (none,Yt))
noncomputable def m9 (lo n:Nat):SM (ForInStep U1):=(modify λs=>setPending s ((pendingOf s).push (lo,n,0))) >>= λ_=>pure (.yield (none,lo+n))
noncomputable def rK (lo n a:Nat)(c:U2):SM (ForInStep U1):=match c.1 with
 |some r=>pure (.done (some r,lo))
 |none=>(modify λs=>setPending s ((pendingOf s).modify ((pendingOf s).size-1) λ(st,len,_)=>(st,len,a))) >>= λ_=>m9 lo n
noncomputable def bi (N lo n:Nat):SM (ForInStep U1):=get >>= λz=>match (pendingOf z).back? with
 |some (s1,n1,_)=>(forIn [:N] ((none,Yt):U2) λ_ _=>rM (power' N (2*s1+n1) (2*s1+n1+n1+n) N)) >>= rK lo n (power' N (2*s1+n1) (2*s1+n1+n1+n) N)
 |_=>m9 lo n
noncomputable def ph (N a lo:Nat):SM (ForInStep U1):=if lo ≥ N then pure (.done (none,lo)) else countRun' lo (N-lo) >>= λr=>match r with
 |some n=>if n<a then(liftM (rule "list.sort.binary-insertion"):SM PUnit) >>= λ_=>binarySort' lo (min (N-lo) a) n >>= λb=>if(!b)=true then pure (.done (some Yt,lo)) else bi N lo (min (N-lo) a) else bi N lo n
 |_=>pure (.done (some Yt,lo))
def rL (p:Array (Nat×Nat×Nat)):Nat:=if Option.any (λx=>decide (x<p[p.size-2+1]?.elim 0 λx=>x.2.1)) (if p.size-2 > 0 then p[p.size-2-1]?.map (λx=>x.2.1) else none)=true then p.size-2-1 else p.size-2
noncomputable def rN:SM (ForInStep U2):=get >>= λz=>if(pendingOf z).size<=1 then pure (.done (none,Yt)) else mergeAt' (rL (pendingOf z)) >>= λb=>if(!b)=true then pure (.done (some Yt,Yt)) else pure (.yield (none,Yt))
set_option smartUnfolding false in
def uI:sortRuns'=(get >>= λz=>(forIn [:(arrOf z).size] ((none,0):U1) λ_ c=>ph (arrOf z).size (minRun' (arrOf z).size (arrOf z).size 0) c.2) >>= λc=>match c.1 with
 |some r=>pure r
 |none=>(forIn [:(arrOf z).size] ((none,Yt):U2) λ_ _=>rN) >>= λc=>match c.1 with
  |some r=>pure r
  |none=>pure Yt):=rfl
def OQ {c:Prop}[Decidable c]{x y z:Nat}(h:x<=z)(k:y<=z):(if c then x else y)<=z:=by split<;>assumption
def OR {p:Array (Nat×Nat×Nat)}:rL p<=p.size-2:=OQ (U9 _ _) (Zf _)
section
variable {ps:Yc}{lo k pw:Nat}{jx px:Yi}{R:ForInStep U1->YB}(Sg:Seg lt jx lo (lo+k))(k1:1<=k)(k2:lo+k<=N)(suf:∀i,lo+k<=i->i<N->gx jx i=i)
 (go:∀ps jx st',RI it kind lt N ps (lo+k) jx st'->(∀i,lo+k<=i->i<N->gx jx i=i)->R (.yield (none,lo+k)) st')
include Sg k1 k2 suf go
theorem FK (a:RI it kind lt N ps lo jx st):YK prog w A E s (m9 lo k) R st:=
 Yo (wpS_modify (Yp (go (ps++[(lo,k,0)]) jx _ ⟨⟨a.b.arr,a.b.kd,a.b.fl,by rw[C5,a.b.pd];simp⟩,a.size,a.perm,a.ch.cat ⟨rfl,k1,Sg,rfl⟩,k2⟩ suf)))
theorem OS (h:1<=ps.length)(a:RI it kind lt N ps lo jx st):YK prog w A E s (rK lo k pw (none,Yt)) R st:=by
 rcases List.eq_nil_or_concat ps with z|⟨l2,v,z⟩
 .simp_all
 .subst z;rw[List.concat_eq_append] at a;refine Yo (wpS_modify (FK (ps:=l2++[(v.1,v.2.1,pw)]) Sg k1 k2 suf go ⟨⟨a.b.arr,a.b.kd,a.b.fl,?_⟩,a.size,a.perm,?_,a.le⟩))
  .rw[C5,a.b.pd];exact OP _
  .obtain⟨c,b,d1,e,f,g⟩:=a.ch.app;exact b.cat ⟨d1,e,f,g⟩
end
def OT {ps:Yc}{lo h:Nat}{e:Yi}{Q:ForInStep U2->YB}(W:Wk lt)(O:yq prog w A s kind it lt N)(m:1<=ps.length)(f:RI it kind lt N ps lo e st)(g:Q (.done (none,Yt)) st)
 (go:∀a c b,1<=a.length->RI it kind lt N a lo c b->(∀i,lo<=i->gx c i=gx e i)->Q (.yield (none,Yt)) b):YK prog w A E s (rM h) Q st:=by
 refine Yo (wpS_get ?_);rw[f.b.pd]
 split
 .have hp:2<=ps.length:=by
   grind
  refine wi (λ_=>Yp g) λ_=>Yo (FJ W O f () λa c b n j l=>Yp (go a c b () j l))
 .exact Yp g
def OU {ps:Yc}{lo k:Nat}{ix a:Yi}{R:ForInStep U1->YB}(W:Wk lt)(O:yq prog w A s kind it lt N)(B:SBp it kind ps.toArray a st)(L:PlO lo N ix a (lo+k))(U:zw lt lo a (lo+k))(ch:yx lt ix 0 ps lo)(le:lo<=N)(k1:1<=k)(k2:lo+k<=N)
 (go:∀ps b e,RI it kind lt N ps (lo+k) b e->(∀i,lo+k<=i->i<N->gx b i=i)->R (.yield (none,lo+k)) e):YK prog w A E s (bi N lo k) R st:=by
 have m:Seg lt a lo (lo+k):=⟨L.mid,U⟩;have n:RI it kind lt N ps lo a st:=⟨B,L.size,L.perm,ch.same λi _ g=>L.low i g,le⟩;refine Yo (wpS_get ?_);rw[B.pd];rcases List.eq_nil_or_concat ps with z|⟨l,y,z⟩
 .subst z;exact FK m k1 k2 L.suf go n
 .have f:1<=ps.length:=by simp_all
  rw[show ps.toArray.back? = some y by simp_all];refine Yo (Yq (Yr (I:=λ_ c h=>c=(none,Yt)/\∃ps b,1<=ps.length/\RI it kind lt N ps lo b h/\∀i,lo<=i->gx b i=gx a i) ?_ (λ_ _ z=>z) ⟨rfl,_,a,f,n,λ_ _=>rfl⟩) ?_)
  .rintro y c h _ _ ⟨rfl,ps,b,f,j,un⟩;exact OT W O f j () ()
  .rintro c h ⟨rfl,ps,b,f,j,un⟩;exact OS (m.same ()) k1 k2 (λi o g=>(un i (Zh (Uj _ _) o)).trans (L.suf i o g)) go f j
def OV {ps:Yc}{e:Yi}{Q:ForInStep U2->YB}(W:Wk lt)(O:yq prog w A s kind it lt N)(R:RI it kind lt N ps N e st)(f:ps.length<=1->Q (.done (none,Yt)) st)
 (go:∀a g b,a.length+1=ps.length->RI it kind lt N a N g b->Q (.yield (none,Yt)) b):YK prog w A E s rN Q st:=by
 refine Yo (wpS_get ?_);rw[R.b.pd];refine wi (λc=>Yp (f c)) λc=>Yo (FJ W O R ?_ λa e b h i _=>Yp (go a e b h i));have:=OR (p:=ps.toArray)
 grind
def OW {ix:Yi}{Q:Unit->YB}(W:Wk lt)(O:yq prog w A s kind it lt N)(C:RI it kind lt N [] 0 ix st)(l:∀i,i<N->gx ix i=i)(o:2<=N)
 (h:∀j f,arrOf f=j.map it->failedOf f=none->Pl N j N->Up lt j N->Q Yt f):YK prog w A E s sortRuns' Q st:=by
 have sz:(arrOf st).size=N:=by rw[C.b.arr,Ul];exact C.size
 rw[uI];refine Yo (wpS_get ?_);rw[sz];refine Yo (Yq (Yr (I:=λx c t=>∃lo ps ix,c=(none,lo)/\x<=lo/\RI it kind lt N ps lo ix t/\∀i,lo<=i->i<N->gx ix i=i) (Q:=λc t=>∃ps ix,c=(none,N)/\RI it kind lt N ps N ix t) ?_ ?_ ⟨0,[],ix,rfl,Zf _,C,λi _ X=>l i X⟩) ?_)
 .rintro x c t _ Y ⟨lo,ps,ix,rfl,J,R,l⟩;have le:=R.le;refine wi (λq=>?_) λq=>?_
  .have e:lo=N:=Nat.le_antisymm le q;subst e;exact Yp ⟨ps,ix,rfl,R⟩
  have q:lo<N:=Yv q;have Z:PlO lo N ix ix (lo+1):=⟨R.size,R.perm,λ_ _=>rfl,λa u o=>by
   rw[l a u (Zg o q)];exact⟨u,o⟩,λa u o=>l a (Uw u) o⟩
  have sub:∀{k},k<=N-lo->lo+k<=N:=λh=>Zh (Nat.add_le_add_left h _) (Yx (Vp le));have y:∀{k z F} {n:ForInStep U1->YB},SBp it kind ps.toArray z F->1<=k->k<=N-lo->PlO lo N ix z (lo+k)->zw lt lo z (lo+k)->(∀ps j f,x+1<=lo+k->RI it kind lt N ps (lo+k) j f->(∀i,lo+k<=i->i<N->gx j i=i)->n (.yield (none,lo+k)) f)->YK prog w A E s (bi N lo k) n F:=
   λB k1 k2 L U g=>OU W O B L U R.ch le k1 (sub k2) λps j f n s'=>g ps j f (Nat.add_le_add J k1) n s'
  exact Yo (OK W O (sub (Zf _)) (λm kx s2 K M m2 P U2=>wi (λS=>Yo (wpS_lift (wpAny_rule ⟨rfl,Yo (OM W O (sub (Nat.min_le_left _ _)) (Nat.le_min.mpr ⟨m2,Zz S⟩) M K P U2 λz F B3 L3 U3=>y B3 (Nat.le_min.mpr ⟨Nat.sub_pos_of_lt q,Nat.zero_lt_of_lt S⟩) (Nat.min_le_left _ _) L3 U3 λps j f g n s'=>⟨_,ps,j,rfl,g,n,s'⟩)⟩))) λ_=>y K M m2 P U2 λps j f g n s'=>⟨_,ps,j,rfl,g,n,s'⟩) (Nat.sub_pos_of_lt q) R.b Z)
 .rintro c t ⟨lo,ps,ix,rfl,J,R,l⟩;have le:=R.le
  grind
 .rintro c t ⟨ps,ix,rfl,R⟩;refine Yo (Yq (Yr (I:=λx c v=>∃ps ix,c=(none,Yt)/\(ps.length<=1\/ps.length+x<=N)/\RI it kind lt N ps N ix v) (Q:=λc v=>∃ps ix,c=(none,Yt)/\ps.length<=1/\RI it kind lt N ps N ix v) ?_ ?_ ⟨ps,ix,rfl,.inr (by have:=R.ch.le;lia),R⟩) ?_)
  .rintro x c v _ Y ⟨ps,ix,rfl,T,R⟩;exact OV W O R (λc1=>⟨ps,ix,rfl,c1,R⟩) ()
  .grind
  .rintro c v ⟨ps,ix,rfl,T,R⟩;cases ps with
   |nil =>
    have:0=N:=R.ch;lia
   |cons p r =>
    have e:r=[]:=List.eq_nil_of_length_eq_zero (Nat.le_zero.mp (Nat.le_of_succ_le_succ T));subst e;obtain⟨d1,d2,G,H⟩:=R.ch;have H:0+p.2.1=N:=H;rw[H] at G;exact Yp (h ix v R.b.arr R.b.fl ⟨R.size,R.perm,λa ha=>(G.pl a (Ua _) ha).2,λa u o=>Zn o (Nat.not_lt_of_le u)⟩ λa b ab bn=>G.up a b (Ua _) ab bn)
end
open PySem PyProof.Rows
section
variable {prog:Program}{w:World}{A:Around}{E:Ya}{s:Shared}{kind:SortKind}{it:Nat->Keyed}{lt:Yd}{n:Nat}{ix:Yi}{st:SortSt}
def FL (W:Wk lt)(O:yq prog w A s kind it lt n){Q:Unit->YB}(B:SB it kind ix st)(L:Pl n ix 1)(c:2<=n)(e:n<1000)
 (h:∀b a,arrOf a=b.map it->failedOf a=none->Pl n b n->Up lt b n->Q Yt a):YK prog w A E s sortRuns' Q st:=
 OW W O ⟨⟨B.arr,B.kd,B.fl,B.pd⟩,L.size,L.perm,rfl,Ua _⟩ (λi f=>if z:i=0 then by rw[z];have:=L.pre 0 ();lia else L.suf i () f) c h
end
def j9 (a:Yf)(i:Nat):Value:=a.getD i .none
def C6 (vs):vs.toArray.zip vs.toArray=(Array.range vs.length).map λi=>(j9 vs i,j9 vs i):=by
 apply Array.ext_getElem?;intro k;rw[UN];by_cases h:k<vs.length
 .rw[Array.getElem?_range,Zd h];have e:j9 vs k=vs[k]:=by unfold j9;rw[Us,Zqg h];rfl
  simp[Array.getElem?_zip_eq_some,h,e]
 .rw[Array.getElem?_range,Ze h,VQ (by simp;lia)];rfl
def FM (h:k<n):gx (Array.range n) k=k:=by
 simp_all [gx]
def A4 (n k)(b:k<=n):Pl n (Array.range n) k:=by
 refine⟨Array.size_range,Array.Perm.refl _,λa c=>?_,λa _ h=>FM h⟩
 rwa [FM ()]
section
variable {prog:Program}{w:World}{A:Around}{E:Ya}{s:Shared}{lt:Yd}
def w5 (prog:Program)(w:World)(A:Around)(s:Shared)(a:Yf)(lt:Yd):Prop:=
 ∃kind,(∀(E:Ya) (Q:SortKind->YC),Q kind s->YJ prog w A (keyKind' a.toArray) Q E s)/\yq prog w A s kind (λi=>(j9 a i,j9 a i)) lt a.length
def FN (W:Wk lt)(m:s.heap.get? a=some (seqObj "list" vs.toArray n))(r:vs.length<1000)
 (z:∀x,(∀b o,b≠a->s.heap.get? b=some o->x.get? b=some o)->2<=vs.length->w5 prog w A { s with heap:=x } vs lt)
 (h:∀c,Pl vs.length c vs.length->Up lt c vs.length->P (.done (.ret .none)) { s with heap:=sortedHeap s.heap a vs (c.map (j9 vs)) }):
 YJ prog w A (Builtin.«list.sort» ⟨[.ref a],[]⟩) P E s:=by
 rw[list_sort_plain];have I:a<s.heap.objs.size:=Zk m;obtain⟨t,g1⟩:∃t,(s.heap.update a (Obj.mapSeq λ_ => #[])).get? a=some (seqObj "list" #[] t):=⟨_,get?_update_seq m (λ_ => #[])⟩;refine Za (listItems_at m rfl (Za (listUpdate_at m rfl (Za (seqEpoch_at g1 rfl (Za (wpAny_newTuple (Za (wpAny_newList (wpAny_holding ?_))))))))));have u:∀b,b<s.heap.objs.size->b≠(s.heap.update a (Obj.mapSeq λ_ => #[])).objs.size:=λb p=>by
  rw[Heap.size_update];exact Zi p
 have v:∀b,b<s.heap.objs.size->b≠((s.heap.update a (Obj.mapSeq λ_ => #[])).push (seqObj "tuple" vs.toArray 0)).objs.size:=λb p=>by
  rw[size_push',Heap.size_update];exact by lia
 have q:(((s.heap.update a (Obj.mapSeq λ_ => #[])).push (seqObj "tuple" vs.toArray 0)).push (seqObj "list" #[] 0)).get? a=some (seqObj "list" #[] t):=by
  grind[Heap.get?_push_ne]
 have B:∀b o,b≠a->s.heap.get? b=some o->(((s.heap.update a (Obj.mapSeq λ_ => #[])).push (seqObj "tuple" vs.toArray 0)).push (seqObj "list" #[] 0)).get? b=some o:=λb o p e=>by
  rw[Heap.get?_push_ne _ _ _ (v b (Zk e)),Heap.get?_push_ne _ _ _ (u b (Zk e)),Heap.get?_update_ne _ _ _ _ p];exact e
 have y:∀(c:Yi),(c.map λi=>(j9 vs i,j9 vs i)).map (·.2)=c.map (j9 vs):=by simp
 show YJ prog w A _ P E { s with heap:=((s.heap.update a (Obj.mapSeq λ_ => #[])).push (seqObj "tuple" vs.toArray 0)).push (seqObj "list" #[] 0) };dsimp only;have sz:vs.toArray.size=vs.length:=by simp
 by_cases g:vs.toArray.size<2
 .rw[Zd g,Zd g];refine Za (Zb ?_);rw[StateT.run_pure];refine Za (Zb ?_);dsimp only;refine Za (seqEpoch_at q rfl (Za (listUpdate_at q rfl ?_ (hsz2:=by rw[Ul,C6,Ul,Array.size_range,sizeLine_eq];lia))));simp only[bne_self_eq_false,UD,if_false];have f:=h (Array.range vs.length) (A4 _ _ (Zf _)) λi j J K=>()
  rw[<- y,<- C6] at f;exact Zb f
 .rw[Ze g,Ze g];obtain⟨kind,k1,k2⟩:=z _ B ();refine Za (k1 _ _ ?_);refine Za (Zc (FL W k2 (ix:=Array.range vs.length) (st:=SortSt.mk' kind (vs.toArray.zip vs.toArray) #[] 7 none) (Q:=λ_ l=>∃c,arrOf l=c.map (λi=>(j9 vs i,j9 vs i))/\failedOf l=none/\Pl vs.length c vs.length/\Up lt c vs.length)
   ⟨C6 vs,rfl,rfl,rfl⟩ (A4 _ _ ()) () r λc l C F G H=>⟨c,C,F,G,H⟩) ?_ λ_ _ e=>e)
  rintro⟨⟨⟩,l⟩ s' ⟨rfl,c,q1,q2,q3,q4⟩;dsimp only;refine Za (seqEpoch_at q rfl (Za (listUpdate_at q rfl ?_ (hsz2:=by
   rw[Ul,q1,Ul,q3.size,sizeLine_eq];lia))))
  rw[q2];simp only[bne_self_eq_false,UD,if_false];have f:=h c q3 q4;rw[<- y,<- q1] at f;exact Zb f
def FP (W:Wk lt)
 (j:wpAny (model prog w) A.in1 (collect x) (λa c=>a.length<1000/\(∀f,(∀b o,c.heap.get? b=some o->f.get? b=some o)->2<=a.length->w5 prog w A.in1.in1 { c with heap:=f } a lt) /\
  ∀g f l,Pl a.length g a.length->Up lt g a.length->(∀b o,c.heap.get? b=some o->f.get? b=some o)->c.heap.objs.size<=l->(∃e,f.get? l=some (seqObj "list" (g.map (j9 a)) e))->Q (.ref l) { c with heap:=f }) E s):
 YJ prog w A (call (.builtin "sorted") [x]) Q E s:=by
 refine Calls.call_function_entry kind_sorted plain_sorted entry_sorted (args_sorted1 _) (Za (Zb (Za (Zc j (λa c z=>?_) λ_ _ e=>e))));obtain⟨h,m,n⟩:=z;have i:(c.heap.push (seqObj "list" a.toArray 0)).get? c.heap.objs.size=some (seqObj "list" a.toArray 0):=Zr _ rfl;have q:∀b o,c.heap.get? b=some o->b≠c.heap.objs.size:=λb o e=>Zi (Zk e);refine Za (wpAny_newList (Za (wpAny_holding (wpAny_call_entry slot_list_sort ⟨_,i,rfl⟩ entry_list_sort (FN W i h (λf r=>m f λb o e=>r b o (q b o e) (Zq _ e)) λg p u=>⟨_,rfl,Zb ⟨_,rfl,n g _ _ p u (λb o e=>?_) (Zf _) (sortedHeap_at i)⟩⟩) (args_list_sort _)))))
 grind[size_push',sortedHeap_old,Nat.lt_succ_of_lt,Heap.lt_size,Heap.get?_push_of_some]
end
structure Tot {α: Type}(ltb:α -> α -> Bool):Prop where
 asy:∀a b,ltb a b=true->ltb b a=false
 neg:∀a b c,ltb a c=true->ltb a b=true\/ltb b c=true
 tot:∀a b,ltb a b=false->ltb b a=false->a=b
def Tot.irr {α: Type}{ltb:α -> α -> Bool}(T:Tot ltb)(a):ltb a a=false:=by
 cases q:ltb a a with
 |false=>rfl
 |true=>have:=T.asy _ _ q;simp_all
def Tot.wk {α: Type}{ltb:α -> α -> Bool}(T:Tot ltb)(f:Nat -> α):Wk λi j=>ltb (f i) (f j):=⟨λi j=>T.asy _ _,λi j k=>T.neg _ _ _⟩
def jU (p q:Int×Int):Bool:=decide (p.1<q.1)||(decide (p.1=q.1)&&decide (p.2<q.2))
theorem W8:jU p q=true↔p.1<q.1\/(p.1=q.1/\p.2<q.2):=by
 unfold jU;simp
theorem XZ:jU p q=false↔¬(p.1<q.1\/(p.1=q.1/\p.2<q.2)):=by
 rw[<- W8];simp
def wM:Tot jU:=by
 refine⟨λa b h=>?_,λa b c h=>?_,λa b e f=>?_⟩
 .rw[W8] at h;rw[XZ];lia
 .grind[W8]
 grind[XZ]
def j6:Jz->Jz->Bool
 | [],[]=>false
 | [],_::_=>true
 |_::_,[]=>false
 |p::r,q::s=>if p=q then j6 r s else jU p q
def V6 (p q)(r s):j6 (p::r) (q::s)=if p=q then j6 r s else jU p q:=rfl
theorem FQ:∀a b:Jz,j6 a b=true->j6 b a=false
 | [],[],h=>JC h
 | [],_::_,_=>rfl
 |_::_,[],h=>JC h
 |p::r,q::s,h=>by
  rw[V6] at h ⊢;by_cases e:p=q
  .rw[Zd e] at h;rw[Zd e.symm];exact FQ r s h
  .rw[Ze e] at h;rw[Ze (λz=>e z.symm)];exact wM.asy _ _ h
theorem FR:∀a b c:Jz,j6 a c=true->j6 a b=true\/j6 b c=true
 | [],[],c,h=>.inr h
 | [],_::_,_,_=>.inl rfl
 |_::_,_,[],h=>JC h
 |p::r,[],q::s,_=>.inr rfl
 |p::r,x::t,q::s,h=>by
  rw[V6] at h;rw[V6,V6];by_cases e:p=q
  .rw[Zd e] at h;by_cases f:p=x
   .rw[Zd f,Zd (f.symm.trans e)];exact FR r t s h
   .rw[Ze f,Ze (λz=>f (e.trans z.symm))];cases z:jU p x with
    |true=>simp
    |false =>
     right;rw[<- e];cases y:jU x p with
     |true=>rfl
     |false=>exact Zn (wM.tot _ _ z y) f
  .rw[Ze e] at h;by_cases f:p=x
   .simp_all
   .rw[Ze f];by_cases g:x=q
    .left
     rwa [g]
    .rw[Ze g];exact wM.neg _ _ _ h
theorem FU:∀a b:Jz,j6 a b=false->j6 b a=false->a=b
 | [],[],_,_=>rfl
 | [],_::_,h,_=>by cases h
 |_::_,[],_,h=>by cases h
 |p::r,q::s,h1,h2=>by
  rw[V6] at h1 h2;by_cases e:p=q
  .rw[Zd e] at h1;rw[Zd e.symm] at h2;rw[e,FU r s h1 h2]
  .rw[Ze e] at h1;rw[Ze (λz=>e z.symm)] at h2;exact Zn (wM.tot _ _ h1 h2) e
def xt:Tot j6:=⟨FQ,FR,FU⟩
section
variable {α: Type}(ltb:α -> α -> Bool)
def zE (x:α):List α -> List α
 | []=>[x]
 |y::r=>if ltb x y=true then x::y::r else y::zE x r
def JS:List α -> List α
 | []=>[]
 |x::r=>zE ltb x (JS r)
def Sd (l:List α):Prop:=l.Pairwise λa b=>ltb b a=false
variable {ltb}
theorem C7 (x):∀l:List α,(zE ltb x l).Perm (x::l)
 | []=>Vs _
 |y::r=>by
  unfold zE
  split
  .rfl
  .exact((C7 x r).cons y).trans (List.Perm.swap x y r)
theorem Qk:∀l:List α,(JS ltb l).Perm l
 | []=>Vs _
 |x::r=>(C7 x _).trans ((Qk r).cons x)
theorem FV (T:Tot ltb)(x):∀l:List α,Sd ltb l->Sd ltb (zE ltb x l)
 | [],_=>VR _ _
 |y::r,h=>by
  have ⟨b,a⟩:=Ji.mp h;unfold zE
  split
  .rename_i c;refine Ji.mpr ⟨λz hz=>?_,h⟩;rcases UV.mp hz with e|e
   .rw[e];exact T.asy _ _ c
   .cases q:ltb z x with
    |false=>rfl
    |true =>
     rcases T.neg x z y c with u|u
     .rw[T.asy _ _ u] at q;exact JC q
     simp_all
  .refine Ji.mpr ⟨λz hz=>?_,FV T x r a⟩
   grind[C7]
theorem V7 (T:Tot ltb):∀l:List α,Sd ltb (JS ltb l)
 | []=>List.Pairwise.nil
 |x::r=>FV T x _ (V7 T r)
theorem Y0 (T:Tot ltb):∀{a b:List α},a.Perm b->Sd ltb a->Sd ltb b->a=b
 | [],b,p,_,_=>p.nil_eq
 |x::r,b,p,ha,hb=>by
  cases b with
  |nil=>simp_all
  |cons y t =>
   have ⟨c,f⟩:=Ji.mp ha;have ⟨g,h⟩:=Ji.mp hb;have e:x=y:=by
    rcases UV.mp (p.mem_iff.mp Zqs) with z|z
    .exact z
    .rcases UV.mp (p.mem_iff.mpr Zqs) with u|u
     .exact u.symm
     .exact T.tot _ _ (g x z) (c y u)
   subst e;rw[Y0 T p.cons_inv f h]
def C8 (T:Tot ltb){l:List α}{d:α}(p:Pl l.length jx l.length)(u:Up (λi j=>ltb (l.getD i d) (l.getD j d)) jx l.length):jx.toList.map (λi=>l.getD i d)=JS ltb l:=by
 refine Y0 T ?_ ?_ (V7 T l)
 .refine Vq ?_ (Qk l).symm;have q:jx.toList.Perm (List.range l.length):=by
   have:=Jo.mp p.perm;simpa using this
  refine(q.map _).trans (List.Perm.of_eq ?_);apply List.ext_getElem
  .simp
  .intro i m c;simp[c]
 .refine Jj.mpr λa b e f ab=>?_;rw[VG,VG];have sz:jx.toList.length=l.length:=by rw[Uo,p.size]
  rw[Zql] at e f;have g:jx.toList[a]=gx jx a:=by
   simp_all [gx]
  have h:jx.toList[b]=gx jx b:=by
   simp_all [gx]
  rw[g,h];exact jG.no (T.wk λi=>l.getD i d) (u a b ab ())
end
theorem Qf {α: Type}{l:List α}{d x:α}(h:l[i]? = some x):l.getD i d=x:=()
def W9 (h:Heap)(b:Yf)(ps:Jz):Prop:=b.length=ps.length/\∀(i:Nat) p,ps[i]? = some p->∃a o n t u,b[i]? = some (.ref a)/\h.get? a=some o/\o.cls=.type "tuple" /\ o.data=.seq #[.int p.1 t,.int p.2 u] n
section
variable {prog:Program}{w:World}{A:Around}{s:Shared}
theorem FW:∀{b:Yf} {ps:Jz},W9 h b ps->∃fs,W.KatTups h b fs/\fs.length=b.length/\∀v∈fs,∃k t,v=Value.int k t
 | [],ps,q=>⟨[],.nil,rfl,()⟩
 |v::b,[],q=>by have:=q.1;simp at this
 |v::b,p::ps,q=>by
  obtain⟨a,o,n,t,u,c,e,f,g⟩:=q.2 0 p rfl;obtain rfl:=Zqi c;have ⟨fs,k1,k2,k3⟩:=FW ⟨by have:=q.1;simp_all,λi p hp=>q.2 (i+1) p hp⟩;refine⟨.int p.1 t::fs,.cons e f g rfl k1,by simp[k2],λv j=>?_⟩
  grind
def OX (q:W9 s.heap vs ps)(B:2<=vs.length):w5 prog w A s vs λi j=>jU (ps.getD i (0,0)) (ps.getD j (0,0)):=by
 obtain⟨fs,k1,k2,k3⟩:=FW q;refine⟨tuples' (Value.type "int" != Value.type "tuple"),λE Q h=>W.kat_kind (T:=Value.type "int") k1 () (λv b=>?_) rfl h,λi j C F E Q h=>?_⟩
 .obtain⟨k,t,rfl⟩:=k3 v b;exact W.Looks.of_pure rfl
 .have G:=q.1;obtain⟨p,hp⟩:∃p,ps[i]? = some p:=by grind
  obtain⟨p',hp'⟩:∃p,ps[j]? = some p:=by grind
  obtain⟨a,o,n,t,u,e,f,H,l⟩:=q.2 i p hp;obtain⟨I,J,K,t',m,r,x,L,y⟩:=q.2 j p' hp';dsimp only at h;rw[Qf hp,Qf hp'] at h;show YJ prog w A (keyLt' _ (j9 vs i) (j9 vs j)) Q E s;unfold j9;rw[Qf e,Qf r];refine W.kat_lt f l x y ?_;refine W.kat_cons (PySem.SeqAt.EqAt.int_int p.1 t p'.1 t' prog w _ _ ?_);by_cases c:p.1=p'.1
  .rw[show(p.1 == p'.1)=true by simpa using c];refine W.kat_yes (W.kat_cons (PySem.SeqAt.EqAt.int_int p.2 u p'.2 m prog w _ _ ?_));by_cases d:p.2=p'.2
   .rw[show(p.2 == p'.2)=true by simpa using d];refine W.kat_yes (W.kat_nil ?_)
    grind[XZ]
   .rw[show(p.2 == p'.2)=false by simp_all];refine W.kat_no (W.kat_one _ _ (lt_int ?_));have z:jU p p'=decide (p.2<p'.2):=by
     grind[W8,XZ]
    rw[z] at h;exact h
  .rw[show(p.1 == p'.1)=false by simpa using c];refine W.kat_no (oneLt_int ?_);have z:jU p p'=decide (p.1<p'.1):=by
    by_cases g:p.1<p'.1
    .rw[Zp g,W8];lia
    .rw[Zo g,XZ];lia
   rwa [z] at h
structure RowAt (h:Heap)(v:Value)(r:Jz)(a:Addr)(o:Obj)(us:Yf)(n:Nat):Prop where
 isv:v=.ref a
 get:h.get? a=some o
 cls:o.cls=.type "tuple"
 dat:o.data=.seq us.toArray n
 prs:W9 h us r
def C9 (ok:qQ P w H h)(g:Is H (rD r) x)(j:jp x v):∃a o l n,RowAt h v r a o l n:=by
 obtain⟨a,J,rfl,m,c⟩:=g;obtain rfl:=j;obtain⟨_,its,e,o,q,t,n,y⟩:=(ok a _ m);refine⟨a,o,its,n,rfl,q,t,y,?_,λi p hp=>?_⟩
 .have K:=c.length;have L:=e.length
  simp_all
 .obtain⟨x,z,B⟩:=c.get (by rw[Zv,hp];rfl);obtain⟨u,M,C⟩:=e.get z;obtain⟨b,rfl,E⟩:=mh.mp B;obtain rfl:=C;obtain⟨_,f,F,N,O,Q,R,S⟩:=(ok b _ E);obtain⟨T,U,rfl,G,I⟩:=Ag F;obtain⟨X,rfl⟩:=(G);obtain⟨Y,rfl⟩:=(I)
  simp_all
theorem FY (I:A.units+4<cLine){f:Bool}{E:Ya}{Q:Bool->YC}:∀{r g:Jz} {e b:Yf} i,W9 s.heap e r->W9 s.heap b g ->
 f=decide (r.length<g.length)->Q (j6 r g) s->W.KatLex prog w A false f Q (e.zip b) i s
 | [],[],e,b,i,q,q',hf,h=>by
  obtain rfl:e=[]:=Jp.mp q.1;refine W.kat_nil ?_;rw[hf];exact h
 | [],p::g,e,b,i,q,q',hf,h=>by
  obtain rfl:e=[]:=Jp.mp q.1;refine W.kat_nil ?_;rw[hf,Zp ()];exact h
 |p::r,[],e,b,i,q,q',hf,h=>by
  obtain rfl:b=[]:=Jp.mp q'.1;rw[List.zip_nil_right];refine W.kat_nil ?_;rw[hf,Zo ()];exact h
 |p::r,p'::g,e,b,i,q,q',hf,h=>by
  obtain⟨a,o,n,t,u,j,m,x,y⟩:=q.2 0 p rfl;obtain⟨B,J,K,t',C,l,F,G,H⟩:=q'.2 0 p' rfl;cases e with
  |nil=>exact J5 j
  |cons v e =>
   cases b with
   |nil=>exact J5 l
   |cons L b =>
    have j:some v=some (Value.ref a):=j;have l:some L=some (Value.ref B):=l;obtain rfl:=Zqi j;obtain rfl:=Zqi l;have M:Reads s.heap (.ref a) (pD p) _:=.tuple m x y (.cons (.int p.1 t) (.cons (.int p.2 u) .nil));have R2:Reads s.heap (.ref B) (pD p') _:=.tuple F G H (.cons (.int p'.1 t') (.cons (.int p'.2 C) .nil));have P:∀z:Int×Int,(pD z).depth=1:=λz=>by
     rfl
    refine W.kat_cons (PySem.SeqAt.eqAt_reads _ _ A s _ _ _ _ M R2 rfl rfl () prog w _ _ ?_);rw[V6] at h;by_cases c:p=p'
    .subst c;rw[Oy (Cq p)];rw[Zd rfl] at h;refine W.kat_yes (FY I (E:=E) (i+1) ⟨by have:=q.1;simp_all,λi z hz=>q.2 (i+1) z hz⟩ ⟨by have:=q'.1;simp_all,λi z hz=>q'.2 (i+1) z hz⟩ () h)
    .rw[Ze c] at h;have ne:pD p≠pD p':=λz=>c (by
      grind[pD])
     rw[Ox (Cq p) (Cq p') ne];have N:IntsAre (#[Value.int p.1 t,Value.int p.2 u]:Yn).toList [p.1,p.2]:=.cons _ _ (.cons _ _ .nil);have O:IntsAre (#[Value.int p'.1 t',Value.int p'.2 C]:Yn).toList [p'.1,p'.2]:=.cons _ _ (.cons _ _ .nil);refine W.kat_one _ _ (HT.lt_tupInts ⟨o,m,x,n,y⟩ ⟨J,F,G,K,H⟩ N O () ?_);have z:HT.lexLt [p.1,p.2] [p'.1,p'.2]=jU p p':=by
      grind[jU,HT.lexLt_cons,HT.lexLt_nil_nil]
     rwa [z]
def FZ {P:Program}{H:Hp}{rs:J0}{K:YE}{c:Yf}(U:A.units+4<cLine)(ok:qQ P w H s.heap)(L:qk H (rs.map rD) K)(M:jo K c)(e:∀r∈rs,r ≠ [])(h2:2<=c.length):
 w5 prog w A s c λi j=>j6 (rs.getD i []) (rs.getD j []):=by
 have X:=L.length;have l2:=M.length;rw[Zql] at X;have l:∀(i:Nat) r,rs[i]? = some r->∃v a o m n,c[i]? = some v/\RowAt s.heap v r a o m n:=λi r g=>by
  obtain⟨x,Y,N⟩:=L.get (i:=i) (d:=rD r) (by rw[Zv,g];rfl);obtain⟨v,q,Z⟩:=M.get Y;obtain⟨a,o,m,n,R⟩:=C9 ok N Z;exact⟨v,a,o,m,n,q,R⟩
 have f:∀c (rs:J0),c.length=rs.length->(∀r∈rs,r ≠ [])->(∀(i:Nat) r,rs[i]? = some r->∃v a o m n,c[i]? = some v/\RowAt s.heap v r a o m n)->∃fs,W.KatTups s.heap c fs/\fs.length=c.length/\∀v∈fs,∃b B,v=Value.ref b/\s.heap.get? b=some B/\B.cls=.type "tuple" := by
  intro c
  induction c with
  |nil=>exact λ_ _ _ _=>⟨[],.nil,rfl,λv q=>nomatch q⟩
  |cons v c ih =>
   intro rs O e C;cases rs with
   |nil=>simp at O
   |cons r rs =>
    obtain⟨S,a,o,m,n,F,R⟩:=C 0 r rfl;have F:some v=some S:=F;obtain rfl:=Zqi F;obtain⟨fs,k1,k2,k3⟩:=ih rs (by simpa using O) (λr g=>e r (Zqm _ g)) λi r g=>C (i+1) r g;cases r with
    |nil=>exact Zn rfl (e [] Zqs)
    |cons p r =>
     obtain⟨b,B,nb,t,u,I,J,g3,g4⟩:=R.prs.2 0 p rfl;obtain rfl:v=Value.ref a:=R.isv;refine⟨.ref b::fs,.cons R.get R.cls R.dat (by simpa using I) k1,by simp[k2],λz hz=>?_⟩;rcases UV.mp hz with y|y
     .exact⟨b,B,y,J,g3⟩
     .exact k3 z y
 obtain⟨fs,k1,k2,k3⟩:=f c rs () e l;refine⟨tuples' (Value.type "tuple" != Value.type "tuple"),λE Q h=>W.kat_kind (T:=Value.type "tuple") k1 () (λv q=>?_) rfl h,λi j N hj E Q h=>?_⟩
 .obtain⟨b,B,rfl,I,J⟩:=k3 v q;rw[<- J];exact(W.Looks.ld I).andThen .now
 .obtain⟨r,g⟩:∃r,rs[i]? = some r:=by grind
  obtain⟨r',hr'⟩:∃r,rs[j]? = some r:=⟨_,Zqg ()⟩;obtain⟨v,a,o,m,n,F,R⟩:=l i r g;obtain⟨S,a',o',us',n',f1,G⟩:=l j r' hr';dsimp only at h;rw[Qf g,Qf hr'] at h;show YJ prog w A (keyLt' _ (j9 c i) (j9 c j)) Q E s;unfold j9;rw[Qf F,Qf f1,R.isv,G.isv];refine W.kat_lt R.get R.dat G.get G.dat ?_;exact FY U (E:=E) 0 R.prs G.prs (by rw[Zm,Zm,R.prs.1,G.prs.1]) h
end
section
variable {X:Cx}{tg iter elt c:Expr}{scope:Scope}{pos:Pos}{wi:TI}{g:TG}{te:TE}{tt:TT}
def Ga (N)(cap)(p:X.calm=true)(l:QF scope X.env N X.N cap=true)(r:PI X tg iter wi)(t:∀a C s H f,PG (JJ X scope N a C s H f) tg g)(u:∀a C s H f,PT (JJ X scope N a C s H f) c tt)(v:∀a C s H f,PE (JJ X scope N a C s H f) elt te)
 (hs:∀x,foldedSetIterable iter X.env x=pure x) {use:Option (Value->Sem Unit)} {R:Ya} {i:Pos} {Y:Yb} {s:Shared} {Z: St} {H:Hp} {Q:VK} (I:Inv X Y Z H s) (h:XP cap wi g tt te Z H Q) (m:XQ X Y Z Q use R):
 YI X (comprehension (.ListComp elt [⟨tg,iter,[c],0⟩] scope pos) scope X.env i (newList []) false (eval iter X.env) use) R X.xe s:=
 Fe (test:=λenv R Q s=>YI X (isTrue c env (eval c env)) Q (notedBy (model X.prog X.w) X.A env λe s'=>R (.error e) s') s) N (λI j n h=>W.kct_loop I j n h)
  (λa C s H f _ _ _ _ _ _ _ _ o I q k=>Zc (u a C s H f _ _ _ _ _ I q) (λb w z=>by obtain⟨y,A,B⟩:=z;exact k b w y A B) λe s' E=>Zc E (λ_ F z=>o _ _ z) λ_ _ z=>o _ _ z) cap p l r t (λa C s H f _=>v a C s H f) hs I h m
def OY (N)(cap)(f:X.calm=true)(e:QF scope X.env N X.N cap=true)(i:PI X tg iter wi)(j:∀a C s H b,PG (JJ X scope N a C s H b) tg g)(l:∀a C s H b,PT (JJ X scope N a C s H b) c tt)(m:∀a C s H b,PE (JJ X scope N a C s H b) elt te)
 (hs:∀x,foldedSetIterable iter X.env x=pure x:=by intro _;rfl):PE X (.ListComp elt [⟨tg,iter,[c],0⟩] scope pos) (XP cap wi g tt te):=λY s Z H Q I h=>Ga N cap f e i j l m hs I h Fd
end
theorem OZ {L:List (Addr×HO)}{b:Addr}{u:HO}(h:L.lookup b=some u):(b,u)∈L:=by
 induction L with
 |nil=>exact J5 h
 |cons p r a =>
  grind
def qC (H:Hp)(L:List (Addr×HO)):Hp:=λb=>match L.lookup b with
 |some o=>some o
 |none=>H b
def A5 (h:∀p∈L,p.1≠b):qC H L b=H b:=by
 grind[qC,List.lookup_cons]
def Gb (b:(L.map (·.1)).Nodup)(h:(a,o)∈L):qC H L a=some o:=by
 unfold qC;have e:L.lookup a=some o:=by
  induction L with
  |nil=>cases h
  |cons p r c =>
   grind
 rw[e]
def Gc (h:qC H L b=some u):(b,u)∈L\/((∀p∈L,p.1≠b)/\H b=some u):=by
 grind[qC,Zqi,OZ]
def Inv.laidMany (I:Inv X Y Z H s)(k:∀b u,s.heap.get? b=some u->h'.get? b=some u)(hp:∀p∈L,s.heap.objs.size<=p.1)
 (ok:∀p∈L,yd X.prog X.w (qC H L) h' p.1 p.2):Inv X Y Z (qC H L) { s with heap:=h',toks:=t' }:=by
 have a:∀b u,s.heap.get? b=some u->∀p∈L,p.1≠b:=λb u e p c z=>Zn (Zg (Zk e) (by rw[<- z];exact hp p c)) (Zy _);have f:∀b u,H b=some u->qC H L b=some u:=λb u e=>by
  rwa [A5 λp c z=>Zn (Zg (I.hok.lt e) (by rw[<- z];exact hp p c)) (Zy _)]
 refine I.un ⟨(),λb u q _ _ _=>⟨u.slots,k b u q⟩,λb u q n _=>by rwa [A5 (a b u q)],(),(),(),λb ps q=>⟨#[],()⟩⟩ λb u e=>?_;rcases Gc e with z|⟨z,e'⟩
 .exact ok (b,u) z
 .exact(I.hok b u e').stay () () ()
theorem Gd:∀{L:Yj},(∀i∈L,Is H (f i) (g i))->qk H (L.map f) (L.map g)
 | [],_=>by rfl
 |i::L,h=>⟨_,_,rfl,(),Gd ()⟩
theorem Xj:∀{L:Yj},(∀i∈L,jp (g i) (u i))->jo (L.map g) (L.map u)
 | [],_=>.nil
 |i::L,h=>.cons () (Xj ())
def Pl.mem (p:Pl n jx n)(h:i∈jx.toList):i<n:=by
 have q:=(Jo.mp p.perm).mem_iff.mp h
 simp_all
def Pl.len (p:Pl n jx k):jx.toList.length=n:=by rw[Uo,p.size]
section
variable {X:Cx}
def Pa (R:X.A.units+64<cLine):jO X (.builtin "sorted") (λt H Q=>∃a ys rs,t=[.ref a]/\Rd H a (.lst ys)/\qk H (rs.map rD) ys/\(∀r∈rs,r ≠ [])/\rs.length<1000 /\
 ∀l (ix:Yj),H l=none->(∀i∈ix,i<rs.length)->ix.map (λi=>rs.getD i [])=JS j6 rs->Q (.ref l) (upd H l (.lst (ix.map λi=>ys.getD i .non)))):=by
 intro Y s Z H t S Q I z h;obtain⟨a,ys,rs,rfl,A,g,j,B,q⟩:=h;obtain⟨u,rfl,C⟩:=QD z;obtain rfl:u=Value.ref a:=C;obtain⟨its,m,pl,hz⟩:=I.list (.inl A);have E:=g.length;have T:=m.length;rw[Zql] at E;have F:its.length=rs.length:=()
 have G:∀b o,s.heap.get? b=some o->((s.heap.push (seqObj "list" #[] 0)).update s.heap.objs.size (Obj.mapSeq (· ++ its.toArray))).get? b=some o:=λb o e=>by
  rw[Heap.get?_update_ne _ _ _ _ (Zi (Zk e)),Heap.get?_push_ne _ _ _ (Zi (Zk e))];exact e
 refine FP (xt.wk λi=>rs.getD i []) (collect_list pl.isList ⟨(),λJ w K=>FZ () (I.hok.kept λb o e=>w b o (G b o e)) g m j K,λf J l p u w U n=>?_⟩ ());obtain⟨e,n⟩:=n;rw[F] at p u;have c:s.heap.objs.size<=l:=by
  grind[Heap.size_update,size_push']
 have L:∀i∈f.toList,∃x v,ys[i]? = some x/\its[i]? = some v/\jp x v/\Is H (rD (rs.getD i [])) x:=λi M=>by
  have hn:=p.mem M;obtain⟨x,y,N⟩:=g.get (i:=i) (d:=rD (rs.getD i [])) (by
   grind[List.getElem?_map,Zqg,Qf])
  obtain⟨v,O,P⟩:=m.get y;exact⟨x,v,y,O,P,N⟩
 refine⟨.ref l,upd H l (.lst (f.toList.map λi=>ys.getD i .non)),I.laid () c ⟨?_,f.toList.map (j9 its),e,?_,?_⟩,rfl,q l f.toList (I.hok.fresh c) () (C8 xt p u)⟩
 .rw[Zql,p.len];lia
 .grind[j9,Xj,Qf]
 .rw[n]
  congr 3
  apply Vj;simp
def Wl (a d:Addr):HO:=.ext λh=>h.IsItemsView a d
def Pb:rq X "dict.items" (λx c H Q=>∃d a,x=.ref d/\c=[]/\H d=some (.dK a)/\∀p,H p=none->Q (.ref p) (upd H p (Wl p d))):=by
 intro Y s Z H x c v n Q I f g h;obtain⟨d,a,rfl,rfl,i,q⟩:=h;obtain rfl:=f;obtain rfl:=zK g;obtain⟨z,lo,j,l,dd⟩:=Cg I.hok i;exact call_meetsIn PySem.F.slot_dict_items dd.typeIs PySem.F.entry_dict_items (PySem.F.args_dict_items_1 _) (meets_dict_items (Qz X.prog X.w) d lo) ⟨⟨j,dd⟩,⟨.ref s.heap.objs.size,upd H s.heap.objs.size (Wl s.heap.objs.size d),I.laid (λb o e=>Zq _ e) (Zf _) (⟨⟨_,Zr _ rfl,rfl,rfl⟩,⟨_,Zr _ rfl⟩,λt u z m=>have ⟨o,e,r⟩:=z;⟨o,m o e,r⟩⟩),rfl,q _ (I.hok.fresh (Zf _))⟩⟩
def Pc (hc:X.calm=true):jO X (.builtin "sorted") (λxs H Q=>∃j d r,xs=[.ref j]/\H j=some (Wl j d)/\H d=some (.dK (x9 r))/\r ≠ []/\r.length<1000 /\
 ∀l L,(∀p∈L,H p.1=none)->(L.map (·.1)).Nodup->(∀G,Is (qC G L) (.list ((JS jU r).map pD)) (.ref l))->Q (.ref l) (qC H L)):=by
 intro Y s Z H xs us Q I rv h;obtain⟨j,d,r,rfl,hv,hd,S,h64,q⟩:=h;obtain⟨u,rfl,ru⟩:=QD rv;obtain rfl:u=Value.ref j:=ru;obtain⟨w,_,_⟩:=(show yd X.prog X.w H s.heap j (Wl j d) from I.hok j _ hv);obtain⟨z,lo,ws,J,od,es,ep,d1,d2,d3,d4,d5,d6⟩:=Cg I.hok hd;have lk:=J.length;have lr:(x9 r).length=r.length:=Zql _;have T:s.heap.DictAt (Qz X.prog X.w) d ws ep:=⟨od,es,d1,d2,d3,d4,d5,d6⟩;refine FP (wM.wk λi=>r.getD i (0,0)) (W.kdx_collect (knd:=Qz X.prog X.w) (I.ok.hd hc) w T (by rw[<- lk,lr];exact QR ()) λh1 tk c U la G=>?_);have lv:(c.map Value.ref).length=r.length:=by rw[Zql];lia
 have pa:∀n,(∀b o,h1.get? b=some o->n.get? b=some o)->W9 n (c.map Value.ref) r:=λn A=>by
  refine⟨lv,λi p hp=>?_⟩;have f:i<c.length:=by
   have:=(Jc.mp hp).1;lia
  obtain⟨B,k,x,g1,g2,g3⟩:=G.pairs i c[i] ();have kv:KV (x9 r) ws:=J;have hk:(x9 r)[i]? = some (Uf p.1,V.int p.2):=by unfold x9;rw[Zv,hp];rfl
  have K:∀{l1:List (j5×V)} {l2:List (j5×Value)} {i:Nat} {a:j5×V} {b:j5×Value},KV l1 l2->l1[i]? = some a->l2[i]? = some b->a.1=b.1/\jp a.2 b.2:=by
   intro l1 l2 i a b M;unfold KV at M
   induction M generalizing i with
   |nil=>intro e;simp at e
   |cons hh tt ih =>
    cases i with
    |zero =>
     intro v C;simp at v C;subst v C;exact hh
    |succ i =>
     intro v C;exact ih (by simpa using v) (by simpa using C)
  obtain⟨b1,b2⟩:=K kv hk g1;have b1:(Uf p.1:j5)=k:=b1;subst b1;obtain⟨t1,rfl⟩:=(show ∃t,x=Value.int p.2 t from b2);obtain⟨t0,rfl⟩:∃t,B=Value.int p.1 t:=by
   rcases KL (show W2 (Uf p.1) B=true from g2) with ⟨i0,t,v,C⟩|⟨x0,t,v,C⟩
   .cases v;exact⟨t,C⟩
   .cases v
  exact⟨c[i],_,_,t0,t1,by rw[Zv,Zqg f];rfl,A _ _ g3,rfl,rfl⟩
 refine⟨(),λn A h2=>OX (pa n A) h2,λjx n l p u A hl gl=>?_⟩;obtain⟨e,gl⟩:=gl;rw[lv] at p u;have kk:∀b o,s.heap.get? b=some o->n.get? b=some o:=λb o e=>A b o (U b o e);have N:∀a∈c,s.heap.objs.size<a:=G.above;have O:∀a∈c,a<l:=λa ha=>Zg (G.there ha) hl;have szl:s.heap.objs.size<=l:=by
  cases c with
  |nil=>exact Zn (Jp.mp (by rw[<- lv];rfl)) S
  |cons a as'=>exact Zz (Ug (N a Zqs) (O a Zqs))
 obtain⟨L,hL⟩:∃L:List (Addr×HO),L=(l,.lst (jx.toList.map λi=>V.ref (c.getD i 0)))::(c.zip r).map λz=>(z.1,HO.tup [.int z.2.1,.int z.2.2]):=⟨_,rfl⟩;have g:L.map (·.1)=l::c:=by
  rw[hL,Zl,Zw];show l::(c.zip r).map (λz=>z.1)=_;rw[List.map_fst_zip ()]
 have nd:(L.map (·.1)).Nodup:=by
  rw[g];refine Jm.mpr ⟨λm=>Zy _ (O l m),?_⟩;exact G.rise.imp λhlt=>Zi hlt
 have P:∀p∈L,s.heap.objs.size<=p.1:=λp hp=>by
  have:p.1∈L.map (·.1):=Ja.mpr ⟨p,hp,rfl⟩;rw[g] at this;rcases UV.mp this with z|z
  .rw[z];exact szl
  .exact Zz (N _ z)
 have E:∀G (i:Nat) p,r[i]? = some p->qC G L (c.getD i 0)=some (.tup [.int p.1,.int p.2]):=λG i p hp=>by
  have f:i<c.length:=by
   have:=(Jc.mp hp).1;lia
  refine Gb nd ?_;rw[hL];refine Zqm _ (Ja.mpr ⟨(c[i],p),?_,by rw[Qf (Zqg f)]⟩);refine Ud (i:=i) ?_;rw[VN];exact⟨Zqg f,hp⟩
 refine⟨.ref l,qC H L,I.laidMany (t':=tk) kk P λy hy=>?_,rfl,q l L (λp hp=>I.hok.fresh (P p hp)) nd λG'=>?_⟩
 .rw[hL] at hy;rcases UV.mp hy with z'|z'
  .rw[z'];refine⟨?_,jx.toList.map (j9 (c.map Value.ref)),e,?_,?_⟩
   .rw[Zql,p.len];exact QR ()
   .refine Xj λi f=>?_;have hn:=p.mem f;have R:i<c.length:=()
    unfold j9;rw[Qf (Zqg R),Qf (x:=Value.ref c[i]) (by rw[Zv,Zqg R];rfl)];rfl
   .rw[gl]
    congr 3
    apply Vj;simp
  .obtain⟨⟨a,p'⟩,hm,rfl⟩:=Ja.mp z';obtain⟨i,f⟩:=Jl.mp hm;rw[VN] at f;obtain⟨i1,i2⟩:=f;obtain⟨a',o',n',t',u',f1,f2,f3,f4⟩:=(pa n A).2 i p' i2;rw[Zv,i1] at f1;cases f1;obtain⟨B,k,x,g1,g2,g3⟩:=G.pairs i a i1;have F:=A _ _ g3;rw[F] at f2;obtain rfl:=Zqi f2;exact⟨⟨(by show 2<=sizeLine;decide),_,F,rfl⟩,[.int p'.1 t',.int p'.2 u'],.cons ⟨t',rfl⟩ (.cons ⟨u',rfl⟩ .nil),_,F,rfl,n',f4⟩
 .rw[xH];refine⟨l,_,rfl,Gb nd (by rw[hL];exact Zqs),?_⟩;rw[<- C8 wM p u,Zw];refine Gd λi f=>?_;have hn:=p.mem f;refine mh.mpr ⟨c.getD i 0,rfl,?_⟩;have:=E G' i (r.getD i (0,0)) (by rw[Qf (Zqg hn)];exact Zqg hn);exact this
end
def qI (r:Jz)(t w:Int):Jz:=if(r.any λp=>decide (p.1=t))=true then r.map (λp=>if p.1=t then(p.1,w) else p) else r++[(t,w)]
def Pd:decide ((Uf a:j5)=Uf b)=decide (a=b):=()
def Pe (r)(t w):qA (x9 r) (Uf t) (V.int w)=x9 (qI r t w):=by
 have e:((x9 r).any λa=>decide (a.1=Uf t))=r.any λp=>decide (p.1=t):=by
  unfold x9;rw[List.any_map]
  congr 1
  funext p
  exact Pd
 unfold qA qI;rw[e]
 split
 .unfold x9;rw[Zw,Zw];apply UR;intro p _;by_cases c:p.1=t
  .simp[c]
  .simp[c]
 .unfold x9;rw[Uc];rfl
theorem A6 (p)(r)(t):JA (p::r) t=match JA r t with|some w=>some w|none=>if p.1=t then some p.2 else none:=rfl
def Pf (r)(t w j):JA (r.map λp=>if p.1=t then(p.1,w) else p) j=(JA r j).map λx=>if j=t then w else x:=by
 induction r with
 |nil=>rfl
 |cons p r a =>
  grind[List.map_cons,A6,Option.map]
def Pg (r)(t):(r.any λp=>decide (p.1=t))=(JA r t).isSome:=by
 cases q:JA r t with
 |none =>
  grind[Option.isSome_none,List.any_eq_false,Fq]
 |some w =>
  rw[Option.isSome_some,VH];exact⟨_,Qj q,()⟩
def Ph (r)(t w j):JA (qI r t w) j=if j=t then some w else JA r j:=by
 unfold qI;rw[Pg];by_cases a:(JA r t).isSome=true
 .rw[Zd a,Pf];by_cases e:j=t
  .rw[Zd e,e];have ⟨x,b⟩:=Jt.mp a;rw[b];simp
  simp_all
 .rw[Ze a,O6];show(match (if t=j then some w else none) with|some w=>some w|none=>JA r j)=_
  grind
def Pi (r)(t w):(qI r t w).map (·.1)=if(r.any λp=>decide (p.1=t))=true then r.map (·.1) else r.map (·.1)++[t]:=by
 grind[qI,List.map_map,List.map_append,List.map_congr_left]
def Pj (h:j4 r):j4 (qI r t w):=by
 unfold j4;rw[Pi]
 split
 .exact h
 .rename_i c;unfold j4 at h;rw[List.nodup_append];refine⟨h,(),λa g b f=>?_⟩;simp at f;subst f;rintro rfl;obtain⟨p,hp,e⟩:=Ja.mp g;exact c (VH.mpr ⟨p,hp,by simp[e]⟩)
def Pk (r)(t w):(qI r t w).length<=r.length+1:=by
 grind[qI,Zql,List.length_append]
theorem Ge:∀r b,W4 (x9 b) (x9 r)=x9 (r.foldl (λa p=>qI a p.1 p.2) b)
 | [],b=>rfl
 |p::r,b=>by
  have e:W4 (x9 b) (x9 (p::r))=W4 (qA (x9 b) (Uf p.1) (V.int p.2)) (x9 r):=rfl;rw[e,Pe,Ge r];rfl
theorem Gf:∀r b,j4 (b++r)->r.foldl (λa p=>qI a p.1 p.2) b=b++r
 | [],b,_=>by simp
 |p::r,b,h=>by
  have c:(b.any λq=>decide (q.1=p.1))=false:=by
   grind[j4,List.any_eq_false,List.map_append,List.nodup_append]
  have e:qI b p.1 p.2=b++[p]:=by
   unfold qI;rw[c];simp
  rw[Vh,e,Gf r (b++[p]) (),Uh];rfl
def jw:Option Int->Option Int->Option Int
 |none,b=>b
 |some x,none=>some x
 |some x,some y=>some (if x > y then x else y)
def V8 (a:Jz)(p:Int×Int):Jz:=qI a p.1 (if(JA a p.1).getD p.2 > p.2 then(JA a p.1).getD p.2 else p.2)
def Qo (r o:Jz):Jz:=o.foldl V8 r
def Pm (acc)(p)(t):JA (V8 acc p) t=if t=p.1 then jw (JA acc t) (some p.2) else JA acc t:=by
 unfold V8;rw[Ph];by_cases e:t=p.1
 .rw[Zd e,Zd e,e];cases JA acc p.1 with
  |none=>simp[jw]
  |some x=>simp[jw]
 simp_all
theorem A7 (t):∀o r,j4 o->JA (Qo r o) t=jw (JA r t) (JA o t)
 | [],r,_=>by
  show JA r t=jw (JA r t) none;cases JA r t<;>rfl
 |p::o,r,h=>by
  have ⟨a,b⟩:=Jm.mp (h);have e:Qo r (p::o)=Qo (V8 r p) o:=rfl;rw[e,A7 t o _ b,Pm,A6];by_cases c:t=p.1
  .have n:JA o t=none:=by
    cases q:JA o t with
    |none=>rfl
    |some w=>exact Zn (Ja.mpr ⟨_,Qj q,c⟩) a
   rw[Zd c,n,Zd c.symm];cases jw (JA r t) (some p.2)<;>rfl
  grind
theorem A8:∀o r,j4 r->j4 (Qo r o)
 | [],r,h=>h
 |p::o,r,h=>A8 o _ (Pj h)
theorem CA:∀o r,(Qo r o).length<=r.length+o.length
 | [],r=>Zf _
 |p::o,r=>by
  have a:=CA o (V8 r p);have b:(V8 r p).length<=r.length+1:=Pk _ _ _;show(Qo (V8 r p) o).length<=_
  grind
def Gg (h:r ≠ [])(b:j4 o):Qo r o ≠ []:=by
 intro z;cases r with
 |nil=>exact h rfl
 |cons p r =>
  have q:=A7 p.1 o (p::r) b;rw[z] at q;have:∃x,JA (p::r) p.1=some x:=by
   grind[A6]
  obtain⟨x,c⟩:=this;rw[c] at q;cases a:JA o p.1 with
  |none=>rw[a] at q;exact J5 q
  |some y=>rw[a] at q;exact J5 q
def Gh (h:j4 r):(t,w)∈r↔JA r t=some w:=⟨λm=>h.look m,Qj⟩
theorem Wm {α: Type}{ltb:α -> α -> Bool}(T:Tot ltb):∀{a b:List α},a.Pairwise (λx y=>ltb x y=true)->b.Pairwise (λx y=>ltb x y=true)->(∀x,x∈a↔x∈b)->a=b
 | [],[],_,_,_=>rfl
 | [],y::b,_,_,h=>by
  cases ((h y).mpr Zqs)
 |x::a,[],_,_,h=>by
  cases ((h x).mp Zqs)
 |x::a,y::b,ha,hb,h=>by
  obtain⟨f,g⟩:=Ji.mp ha;obtain⟨c,i⟩:=Ji.mp hb;have e:x=y:=by
   rcases UV.mp ((h x).mp Zqs) with z|z
   .exact z
   .rcases UV.mp ((h y).mpr Zqs) with u|u
    .exact u.symm
    .have:=T.asy _ _ (c x z)
     simp_all
  subst e
  congr 1
  refine Wm T g i λz=>⟨λhz=>?_,λhz=>?_⟩
  .rcases UV.mp ((h z).mp (Zqm _ hz)) with u|u
   .rw[u] at hz;have:=f x hz;rw[T.irr] at this;exact JC this
   lia
  .rcases UV.mp ((h z).mpr (Zqm _ hz)) with u|u
   .rw[u] at hz;have:=c x hz;rw[T.irr] at this;exact JC this
   lia
theorem Gi {α β: Type}(f:α -> β):∀{l:List α},(l.map f).Nodup->l.Nodup
 | [],_=>Vv
 |x::r,h=>by
  rw[Zl,List.nodup_cons] at h;exact Jm.mpr ⟨(),Gi f h.2⟩
def Pn (h:j4 r):(JS jU r).Pairwise λx y=>jU x y=true:=by
 refine(List.Pairwise.and (V7 wM r) ((Qk r).nodup_iff.mpr (Gi (λp:Int×Int=>p.1) h))).imp λ{x y} z=>?_;cases q:jU x y with
 |true=>rfl
 |false=>exact Zn (wM.tot _ _ q z.1) z.2
end L2
namespace L2.DL
def Po {c:Prop}{_:Decidable c}{α: Type}{a z:α}(h:(if c then some a else none)=some z):c/\a=z:=()
inductive D where
 |non|bl (b:Bool)|int (i:Int)|str (x:Str)|ty (n:String)|scr (ns:Yh)
 |tup (ds:List D)|lst (ds:List D)|dct (ks:List j5) (ds:List D)|ins (c:Str) (fs:Yk) (ds:List D)
 |exc (c:Str)|ucl (c:Str)
 |adr (a:Addr)|dcf (ks:List j5) (ds:List D)
 |pin (a:Addr) (d:D)
abbrev _root_.YG:=List D
abbrev _root_.YH:=Option D
inductive Res (α: Type) where
 |ok (a:α)|ex (c:Str) (fs:YG)|no
noncomputable def Res.bind {α β: Type}(r:Res α)(g:α -> Res β):Res β:= match r with
 | .ok a=>g a
 | .ex c fs=>.ex c fs
 | .no=>.no
def Res.need {α: Type}(r:Res α)(p:α -> Prop)(q:Str->YG->Prop):Prop:=match r with
 | .ok a=>p a
 | .ex c fs=>q c fs
 | .no=>False
@[simp]theorem ji {α β: Type}(a)(g:α -> Res β):(Res.ok a).bind g=g a:=rfl
@[simp]def v6 {α β: Type}(c)(fs)(g:α -> Res β):(Res.ex c fs:Res α).bind g=.ex c fs:=rfl
@[simp]def v5 {α β: Type}(g:α -> Res β):(Res.no:Res α).bind g=.no:=rfl
def ja {α β: Type}{r:Res α}{g:α -> Res β}{p:β -> Prop}(h:(r.bind g).need p q):r.need (λa=>(g a).need p q) q:=by
 cases r<;>exact h
def Res.need.mono {α: Type}{r:Res α}{p p': α -> Prop}(h:r.need p q)(hp:∀a,p a->p' a)(b:∀c fs,q c fs->q' c fs):r.need p' q':=by
 cases r with
 |ok a=>exact hp a h
 |ex c fs=>exact b c fs h
 |no=>exact h
def Res.need.monoE {α: Type}{r:Res α}{p p': α -> Prop}(h:r.need p q)(hp:∀a,r=.ok a->p a->p' a)(b:∀c fs,q c fs->q' c fs):r.need p' q':=by
 cases r with
 |ok a=>exact hp a rfl h
 |ex c fs=>exact b c fs h
 |no=>exact h
def hU (C x:Addr):HO:=.ext λh=>∃o,h.get? x=some o/\o.cls=.ref C
def ym (_:W.Frag)(H:Hp)(a:Addr)(b:YE):Prop:=H a=some (.tup b)
def ym.same {K:W.Frag}{H b:Hp}{a:Addr}{c:YE}(e:jk H b)(h:ym K H a c):ym K b a c:=e _ _ h
def ym.of {K:W.Frag}{H:Hp}{a:Addr}{b:YE}(h:H a=some (.tup b)):ym K H a b:=h
def ym.sq {K:W.Frag}{H:Hp}{a:Addr}{b:YE}(h:ym K H a b):yE K H a b:=yE.of h
def xo (_:W.Frag)(H:Hp)(a:Addr)(b:YE):Prop:=Rd H a (.lst b)
def xo.same {K:W.Frag}{H b:Hp}{a:Addr}{c:YE}(e:jk H b)(h:xo K H a c):xo K b a c:=h.imp (λq=>e _ _ q) λ⟨o,q⟩=>⟨o,e _ _ q⟩
def xo.of {K:W.Frag}{H:Hp}{a:Addr}{b:YE}(h:H a=some (.lst b)):xo K H a b:=.inl h
def xo.sq {K:W.Frag}{H:Hp}{a:Addr}{b:YE}(h:xo K H a b):qp K H a b:=.inl h
section
variable (K:W.Frag)
mutual
def jf (H:Hp):D->V->Prop
 | .non,v=>v=.non
 | .bl b,v=>v=.bl b
 | .int i,v=>v=.int i
 | .str x,v=>v=.str x
 | .ty n,v=>v=.ty n
 | .scr ns,v=>∃a,v=.ref a/\qp K H a (ns.map V.int)
 | .tup ds,v=>∃a e,v=.ref a/\ym K H a e/\jd H ds e
 | .lst ds,v=>∃a e,v=.ref a/\xo K H a e/\jd H ds e
 | .dct ks ds,v=>∃a e,v=.ref a/\H a=some (.dK (ks.zip e))/\ks.length=e.length/\jd H ds e
 | .ins c fs ds,v=>∃a C f e,v=.ref a/\W.nsIn K mainGlobals c=some (some (.ref C))/\H a=some (.ins C f (fs.zip e))/\fs.length=e.length/\jd H ds e
 | .exc c,v=>∃a C,v=.ref a/\W.nsIn K mainGlobals c=some (some (.ref C))/\H a=some (hU C a)
 | .ucl c,v=>∃C,v=.ref C/\W.nsIn K mainGlobals c=some (some (.ref C))
 | .adr a,v=>v=.ref a
 | .dcf ks ds,v=>∃a o e,v=.ref a/\H a=some (.frz o (.dK (ks.zip e)))/\ks.length=e.length/\jd H ds e
 | .pin a d,v=>v=.ref a/\jf H d v
def jd (H:Hp):YG->YE->Prop
 | [],xs=>xs=[]
 |d::ds,xs=>∃x r,xs=x::r/\jf H d x/\jd H ds r
end
end
section
variable {K:W.Frag}{H H':Hp}
def jC:jf K H .non v↔v=.non:=.rfl
def jn:jf K H (.bl b) v↔v=.bl b:=.rfl
def je:jf K H (.int i) v↔v=.int i:=.rfl
def jq:jf K H (.str x) v↔v=.str x:=.rfl
def zp:jf K H (.ty n) v↔v=.ty n:=.rfl
def qr:jf K H (.scr ns) v↔∃a,v=.ref a/\qp K H a (ns.map V.int):=.rfl
theorem ju:jf K H (.tup ds) v↔∃a b,v=.ref a/\ym K H a b/\jd K H ds b:=.rfl
theorem jj:jf K H (.lst ds) v↔∃a b,v=.ref a/\xo K H a b/\jd K H ds b:=.rfl
def jZ:jf K H (.dct ks ds) v↔∃a b,v=.ref a/\H a=some (.dK (ks.zip b))/\ks.length=b.length/\jd K H ds b:=.rfl
def jY:jf K H (.ins c fs ds) v↔∃a C e b,v=.ref a/\W.nsIn K mainGlobals c=some (some (.ref C))/\H a=some (.ins C e (fs.zip b))/\fs.length=b.length/\jd K H ds b:=.rfl
def qV:jf K H (.exc c) v↔∃a C,v=.ref a/\W.nsIn K mainGlobals c=some (some (.ref C))/\H a=some (hU C a):=.rfl
def ze:jf K H (.ucl c) v↔∃C,v=.ref C/\W.nsIn K mainGlobals c=some (some (.ref C)):=.rfl
def jA:jf K H (.adr a) v↔v=.ref a:=.rfl
def qu:jf K H (.dcf ks ds) v↔∃a o b,v=.ref a/\H a=some (.frz o (.dK (ks.zip b)))/\ks.length=b.length/\jd K H ds b:=.rfl
def qs:jf K H (.pin a d) v↔v=.ref a/\jf K H d v:=.rfl
def jd.nil_iff:jd K H [] xs↔xs=[]:=.rfl
theorem jr:jd K H (d::ds) xs↔∃x r,xs=x::r/\jf K H d x/\jd K H ds r:=.rfl
mutual
theorem jf.same (e:jk H H'):∀d v,jf K H d v->jf K H' d v
 | .non,_,h=>h
 | .bl _,_,h=>h
 | .int _,_,h=>h
 | .str _,_,h=>h
 | .ty _,_,h=>h
 | .scr _,_,h=>by
  obtain⟨a,f,g⟩:=qr.mp h;exact qr.mpr ⟨a,f,jk.seq e g⟩
 | .tup ds,_,h=>by
  obtain⟨a,b,f,g,i⟩:=ju.mp h;exact ju.mpr ⟨a,b,f,g.same e,jd.same e ds b i⟩
 | .lst ds,_,h=>by
  obtain⟨a,b,f,g,i⟩:=jj.mp h;exact jj.mpr ⟨a,b,f,g.same e,jd.same e ds b i⟩
 | .dct ks ds,_,h=>by
  obtain⟨a,b,f,g,j,i⟩:=jZ.mp h;exact jZ.mpr ⟨a,b,f,e _ _ g,j,jd.same e ds b i⟩
 | .ins c fs ds,_,h=>by
  obtain⟨a,C,l,b,f,m,g,j,i⟩:=jY.mp h;exact jY.mpr ⟨a,C,l,b,f,m,e _ _ g,j,jd.same e ds b i⟩
 | .exc _,_,h=>by
  obtain⟨a,C,f,g,i⟩:=qV.mp h;exact qV.mpr ⟨a,C,f,g,e _ _ i⟩
 | .ucl _,_,h=>h
 | .adr _,_,h=>h
 | .dcf ks ds,_,h=>by
  obtain⟨a,o,b,f,g,j,i⟩:=qu.mp h;exact qu.mpr ⟨a,o,b,f,e _ _ g,j,jd.same e ds b i⟩
 | .pin a d,v,h=>qs.mpr ⟨(qs.mp h).1,jf.same e d v (qs.mp h).2⟩
theorem jd.same (e:jk H H'):∀ds a,jd K H ds a->jd K H' ds a
 | [],_,h=>h
 |d::ds,_,h=>have ⟨x,r,b,c,f⟩:=jr.mp h;jr.mpr ⟨x,r,b,jf.same e d x c,jd.same e ds r f⟩
end
def jd.mk (h:jf K H d x)(r:jd K H ds xs):jd K H (d::ds) (x::xs):=jr.mpr ⟨x,xs,rfl,h,r⟩
def jd.nil:jd K H [] []:=jd.nil_iff.mpr rfl
theorem jd.length:∀{ds:YG} {a:YE},jd K H ds a->a.length=ds.length
 | [],a,h=>by simp_all [jd.nil_iff]
 |d::ds,a,h=>by
  obtain⟨x,r,rfl,_,b⟩:=h;rw[Zu,Zu,jd.length b]
theorem jd.get:∀{ds:YG} {a:YE} {i:Nat} {d:D},jd K H ds a->ds[i]? = some d->∃x,a[i]? = some x/\jf K H d x
 | [],_,_,_,_,e=>J5 e
 |d::ds,a,i,e,h,q=>by
  obtain⟨x,r,rfl,c,b⟩:=h;cases i with
  |zero=>simp_all
  |succ i=>exact jd.get (i:=i) b q
def jd.getV {ds:YG}{a:YE}{i:Nat}{x:V}(h:jd K H ds a)(q:a[i]? = some x):∃d,ds[i]? = some d/\jf K H d x:=by
 have c:=h.length;have b:i<ds.length:=();obtain⟨y,e,f⟩:=h.get (Zqg b)
 simp_all
theorem jd.append:∀{ds es:YG} {a ys:YE},jd K H ds a->jd K H es ys->jd K H (ds++es) (a++ys)
 | [],_,a,_,h,h'=>by simp_all [jd.nil_iff]
 |d::ds,_,a,_,h,h'=>by
  obtain⟨x,r,rfl,b,c⟩:=h;exact jd.mk b (jd.append c h')
def jd.snoc (h:jd K H ds xs)(a:jf K H d x):jd K H (ds++[d]) (xs++[x]):=h.append (.mk a .nil)
theorem jd.set:∀n {ds:YG} {a:YE} {d:D} {x:V},jd K H ds a->jf K H d x->jd K H (ds.set n d) (a.set n x)
 |_,[],a,_,_,h,_=>by simp_all [jd.nil_iff]
 | 0,d::ds,a,_,_,h,q=>by
  grind[jr]
 |n+1,d::ds,a,_,_,h,q=>by
  obtain⟨x,r,rfl,b,c⟩:=h;exact jd.mk b (jd.set n c q)
theorem qg:∀(ns:Yh),jd K H (ns.map D.int) (ns.map V.int)
 | []=>.nil
 |n::ns=>.mk (je.mpr rfl) (qg ns)
theorem qz:∀{ns:Yh} {a:YE},jd K H (ns.map D.int) a->a=ns.map V.int
 | [],_,h=>jd.nil_iff.mp h
 |n::ns,a,h=>by
  obtain⟨x,r,rfl,b,c⟩:=h;rw[b,qz c];rfl
end
structure Ext (F H F' H':Hp):Prop where
 ff:jk F F'
 fh:jk F' H'
 hh:jk H H'
 new:∀a,F a=none->H a≠none->F' a=none
theorem Ext.refl (h:jk F H):Ext F H F H:=⟨.refl _,h,.refl _,λ_ e _=>e⟩
theorem Ext.trans (a:Ext F H F1 H1)(b:Ext F1 H1 F2 H2):Ext F H F2 H2:=
 ⟨a.ff.trans b.ff,b.fh,a.hh.trans b.hh,λx e n=>b.new x (a.new x e n) (by
  cases q:H x with
  |none=>exact Zn q n
  |some o=>rw[a.hh _ _ q];simp)⟩
def Qd (h:jk F H)(hp:H p=none):F p=none:=h.free hp
def qh (h:jk F H)(hp:H p=none)(o):Ext F H (upd F p o) (upd H p o):=
 ⟨KB (h.free hp) o,λb u e=>by
  by_cases q:b=p
  .simp_all [JL]
  .rw[JI q] at e ⊢;exact h _ _ e,KB hp o,λa e n=>by
  have q:a≠p:=by grind
  rwa [JI q]⟩
def Ext.keep (h:jk F H)(hp:H p=none)(o):Ext F H F (upd H p o):=
 ⟨.refl _,h.trans (KB hp o),KB hp o,λ_ e _=>e⟩
def Ext.grow (h:jk F H)(a:jk H H'):Ext F H F H':=⟨.refl _,h.trans a,a,λ_ e _=>e⟩
inductive SV where
 |val (d:D)|own (p:Bool) (d:D)
structure Bs where
 F0:Hp
 H0:Hp
 pa:Nat->Option (Addr×YE)
abbrev SD:=List (Option SV)
def yM (K:W.Frag)(F H:Hp)(l:Addr):D->Prop
 | .lst ds=>∃a,H l=some (.lst a)/\jd K F ds a
 | .dct ks ds=>∃a,H l=some (.dK (ks.zip a))/\ks.length=a.length/\jd K F ds a
 | .ins c fs ds=>∃C b a,W.nsIn K mainGlobals c=some (some (.ref C))/\H l=some (.ins C b (fs.zip a))/\fs.length=a.length/\jd K F ds a
 |_=>False
def yM.has {K:W.Frag}{F H:Hp}{l:Addr}{d:D}(h:yM K F H l d):∃o,H l=some o:=by
 cases d with
 |lst ds=>have ⟨a,e,_⟩:=h;exact⟨_,e⟩
 |dct ks ds=>have ⟨a,e,_⟩:=h;exact⟨_,e⟩
 |ins c fs ds=>have ⟨C,b,a,_,e,_⟩:=h;exact⟨_,e⟩
 |_=>exact False.elim h
def yM.ext {K:W.Frag}{F H g i:Hp}{l:Addr}{d:D}(h:yM K F H l d)(b:jk F g)(f:∀o,H l=some o->i l=some o):yM K g i l d:=by
 cases d with
 |lst ds=>have ⟨a,e,q⟩:=h;exact⟨a,f _ e,jd.same b _ _ q⟩
 |dct ks ds=>obtain⟨a,e,z,q⟩:=h;exact⟨a,f _ e,z,jd.same b _ _ q⟩
 |ins c fs ds=>obtain⟨C,j,a,k,e,z,q⟩:=h;exact⟨C,j,a,k,f _ e,z,jd.same b _ _ q⟩
 |_=>exact False.elim h
def yM.frz {K:W.Frag}{F H:Hp}{l:Addr}{d:D}{o:HO}(h:yM K F H l d)(e:H l=Option.some o)(n:F l=none):jf K (upd F l o) d (.ref l):=by
 cases d with
 |lst ds =>
  have ⟨b,a,q⟩:=h;rw[e] at a;obtain rfl:=Zqi a;exact jj.mpr ⟨l,b,rfl,.of JL,jd.same (KB n _) _ _ q⟩
 |dct ks ds =>
  obtain⟨b,a,z,q⟩:=h;rw[e] at a;obtain rfl:=Zqi a;exact jZ.mpr ⟨l,b,rfl,JL,z,jd.same (KB n _) _ _ q⟩
 |ins c fs ds =>
  obtain⟨C,f,b,k,a,z,q⟩:=h;rw[e] at a;obtain rfl:=Zqi a;exact jY.mpr ⟨l,C,f,b,rfl,k,JL,z,jd.same (KB n _) _ _ q⟩
 |_=>exact False.elim h
def vR (H:Hp)(l:Addr)(o:Option (Addr×YE)):Prop:=∃a,o=some (l,a)/\H l=some (.lst a)
structure RS (K:W.Frag)(B:Bs)(F H:Hp)(sd:SD)(Z: St):Prop where
 ext:Ext B.F0 B.H0 F H
 len:Z.length=sd.length
 val:∀{i:Nat} {d:D},sd[i]? = some (some (.val d))->∃v,Z[i]? = some (some v)/\jf K F d v
 own:∀{i:Nat} {p:Bool} {d:D},sd[i]? = some (some (.own p d))->∃l,Z[i]? = some (some (.ref l))/\B.H0 l=none/\F l=none/\yM K F H l d/\(p=true->vR H l (B.pa i))
 apart:∀{i j:Nat} {p q:Bool} {d e:D} {l:Addr},i≠j->sd[i]? = some (some (.own p d))->sd[j]? = some (some (.own q e)) -> Z[i]? = some (some (.ref l)) -> Z[j]? ≠ some (some (.ref l))
section
variable {K:W.Frag}{B:Bs}{F H F' H':Hp}{sd:SD}{Z: St}
def vR.mono (h:vR H l o)(k:∀u,H l=some u->H' l=some u):vR H' l o:=let ⟨xs,h1,h2⟩:=h;⟨xs,h1,k _ h2⟩
def RS.step (r:RS K B F H sd Z)(e:Ext F H F' H'):RS K B F' H' sd Z where
 ext:=r.ext.trans e
 len:=r.len
 val:=λh=>let ⟨v,a,b⟩:=r.val h;⟨v,a,jf.same e.ff _ _ b⟩
 own:=λh=>by
  obtain⟨l,a,b,f,c,g⟩:=r.own h;obtain⟨o,i⟩:=c.has;exact⟨l,a,b,e.new l f (),c.ext e.ff λo q=>e.hh _ _ q,λp=>(g p).mono λu q=>e.hh _ _ q⟩
 apart:=r.apart
def Qs {α: Type}{l:List α}{a:α}(h:i≠j):(l.set i a)[j]? = l[j]?:= Zx h
def KC {α: Type}{l:List α}{a b:α}(h:(l.set i a)[i]? = some b):b=a/\i<l.length:=()
def RS.setVal (r:RS K B F H sd Z)(h:jf K F d v):RS K B F H (sd.set i (some (.val d))) (Z.set i (some v)) where
 ext:=r.ext
 len:=by rw[US,US,r.len]
 val:=λ{j e} q=>by
  by_cases z:i=j
  .subst z;obtain⟨a,o⟩:=KC q;cases a;exact⟨v,UM (by rwa [r.len]),h⟩
  .rw[Qs z] at q ⊢;exact r.val q
 own:=λ{j p e} q=>by
  by_cases z:i=j
  .subst z;obtain⟨a,_⟩:=KC q;cases a
  .rw[Qs z] at q ⊢;exact r.own q
 apart:=λ{j k s t d1 u l} n b c f=>by
  have g:i≠j:=λz=>by subst z;obtain⟨a,_⟩:=KC b;cases a
  have m:i≠k:=λz=>by subst z;obtain⟨a,_⟩:=KC c;cases a
  rw[Qs g] at b f;rw[Qs m] at c ⊢;exact r.apart n b c f
def RS.setOwn (r:RS K B F H sd Z)(u:B.H0 l=none)(v:F l=none)(h:yM K F H l d)(g:∀(j:Nat) p e,sd[j]? = some (some (SV.own p e)) -> Z[j]? ≠ some (some (.ref l))):
 RS K B F H (sd.set i (some (.own false d))) (Z.set i (some (.ref l))) where
 ext:=r.ext
 len:=by rw[US,US,r.len]
 val:=λ{j e} q=>by
  by_cases z:i=j
  .subst z;obtain⟨f,_⟩:=KC q;cases f
  .rw[Qs z] at q ⊢;exact r.val q
 own:=λ{j p e} q=>by
  by_cases z:i=j
  .subst z;obtain⟨f,o⟩:=KC q;cases f;exact⟨l,UM (by rwa [r.len]),u,v,h,λz=>by cases z⟩
  .rw[Qs z] at q ⊢;exact r.own q
 apart:=λ{j k w x d1 y m} n c a b=>by
  by_cases s:i=j
  .subst s;obtain⟨_,o⟩:=KC c;rw[Qs n] at a ⊢;rw[UM (by rwa [r.len])] at b;cases b;exact g k x y a
  .rw[Qs s] at c b;by_cases t:i=k
   .subst t;obtain⟨_,o⟩:=KC a;rw[UM (by rwa [r.len])];intro e;cases e;exact g j w d1 c b
   .rw[Qs t] at a ⊢;exact r.apart n c a b
def RS.chg {i:Nat}{p:Bool}{d a:D}{l:Addr}{o:HO}(r:RS K B F H sd Z)(b:sd[i]? = some (some (.own p d)))(c:Z[i]? = some (some (.ref l)))(h:yM K F (upd H l o) l a):
 RS K B F (upd H l o) (sd.set i (some (.own false a))) Z:= by
 obtain⟨N,f,v,w,_,_⟩:=r.own b;rw[c] at f;cases f;have x:i<sd.length:=by grind
 refine⟨⟨r.ext.ff,Cp o r.ext.fh w,Cp o r.ext.hh v,r.ext.new⟩,by rw[US,r.len],λ{j e} q=>?_,λ{j p e} q=>?_,λ{j k s t d1 O m} n y A C=>?_⟩
 .by_cases z:i=j
  .simp_all
  .rw[Qs z] at q;exact r.val q
 .by_cases z:i=j
  .simp_all
  .rw[Qs z] at q;obtain⟨m,E,m2,G,I,J⟩:=r.own q;have ne:m≠l:=λe=>r.apart z b q c (by rwa [<- e]);exact⟨m,E,m2,G,I.ext (.refl _) λu L=>by rwa [JI ne],λp=>(J p).mono λu L=>by rwa [JI ne]⟩
 .have g:∀{j:Nat} {p:Bool} {e:D},(sd.set i (some (.own false a)))[j]? = some (some (.own p e))->∃p' M,sd[j]? = some (some (.own p' M)):=by grind
  have ⟨_,_,s⟩:=g y;have ⟨_,_,t⟩:=g A;exact r.apart n s t C
def RS.frz1 (r:RS K B F H sd Z)(h:sd[i]? = some (some (.own p d))):∃F',jk F F'/\RS K B F' H (sd.set i (some (.val d))) Z:= by
 obtain⟨l,s,P,t,w,_⟩:=r.own h;obtain⟨o,e⟩:=w.has;have y:i<sd.length:=();have c:=KB t o;refine⟨upd F l o,c,⟨r.ext.ff.trans c,λb u q=>?_,r.ext.hh,λa f g=>?_⟩,by rw[US,r.len],λ{j x} q=>?_,λ{j p x} q=>?_,λ{j k Q R d1 S m} n f g A=>?_⟩
 .by_cases z:b=l
  .simp_all [JL]
  .rw[JI z] at q;exact r.ext.fh _ _ q
 .have z:a≠l:=by grind
  rw[JI z];exact r.ext.new a f g
 .by_cases z:i=j
  .subst z;obtain⟨C,_⟩:=KC q;cases C;exact⟨_,s,w.frz e t⟩
  .rw[Qs z] at q;have ⟨v,E,G⟩:=r.val q;exact⟨v,E,jf.same c _ _ G⟩
 .by_cases z:i=j
  .simp_all
  .rw[Qs z] at q;obtain⟨m,I,m2,T,J,L⟩:=r.own q;have ne:m≠l:=λe=>r.apart z h q s (by rwa [<- e]);exact⟨m,I,m2,by rwa [JI ne],J.ext c λu M=>M,L⟩
 .have N:i≠j:=λz=>by simp_all
  have O:i≠k:=λz=>by simp_all
  rw[Qs N] at f;rw[Qs O] at g;exact r.apart n f g A
def RS.pin (r:RS K B F H sd Z)(o:sd[i]? = some (some (.own p d)))(u:B'.F0=B.F0)(b:B'.H0=B.H0)(v:∀j,j≠i->B'.pa j=B.pa j)(w:∀l,Z[i]? = some (some (.ref l))->p'=true->vR H l (B'.pa i)):
 RS K B' F H (sd.set i (some (.own p' d))) Z:= by
 have x:i<sd.length:=by grind
 refine⟨by rw[u,b];exact r.ext,by rw[US,r.len],λ{j e} q=>?_,λ{j c e} q=>?_,λ{j k s c d1 J m} n y A C=>?_⟩
 .by_cases z:i=j
  .simp_all
  .rw[Qs z] at q;exact r.val q
 .by_cases z:i=j
  .subst z;obtain⟨E,_⟩:=KC q;cases E;obtain⟨l,a,m2,f,h,t⟩:=r.own o;exact⟨l,a,by rwa [b],f,h,w l a⟩
  .rw[Qs z] at q;obtain⟨l,a,m2,f,h,t⟩:=r.own q;exact⟨l,a,by rwa [b],f,h,λG=>by rw[v j (Ne.symm z)];exact t G⟩
 .have g:∀{j:Nat} {p:Bool} {e:D},(sd.set i (some (.own p' d)))[j]? = some (some (.own p e))->∃p' I,sd[j]? = some (some (.own p' I)):=λ{j p e} q=>by
   by_cases z:i=j
   .subst z;exact⟨_,d,o⟩
   .rw[Qs z] at q;exact⟨p,e,q⟩
  have ⟨_,_,s⟩:=g y;have ⟨_,_,c⟩:=g A;exact r.apart n s c C
def qE:Yj->SD->SD
 | [],sd=>sd
 |i::is,sd=>qE is (match sd[i]? with
  |some (some (.own _ d))=>sd.set i (some (.val d))
  |_=>sd)
theorem RS.frz:∀is {F:Hp} {sd:SD},RS K B F H sd Z -> ∃F',jk F F'/\RS K B F' H (qE is sd) Z
 | [],F,sd,r=>⟨F,.refl _,r⟩
 |i::is,F,sd,r=>by
  unfold qE
  split
  .rename_i p d h;obtain⟨g,a,b⟩:=r.frz1 h;obtain⟨c,e,f⟩:=RS.frz is b;exact⟨c,a.trans e,f⟩
  .exact RS.frz is r
end
def hV (K:W.Frag)(F H:Hp)(c:Str)(fs:YG)(b:Value)(a:Option Addr):Prop:=
 ∃C,b=.ref C/\W.nsIn K mainGlobals c=some (some (.ref C))/\(fs=[]\/∃p n d x,fs=[d]/\a=some p/\H p=some (.xd [(n,x)])/\jf K F d x)
def XW (K:W.Frag)(E:XK)(F H:Hp)(c:Str)(fs:YG):Prop:=∀e a f b,Ext F H f b->hV K f b c fs e a->E e a b
def XW.ext {K:W.Frag}{E:XK}{F H b f:Hp}{c:Str}{fs:YG}(h:XW K E F H c fs)(e:Ext F H b f):XW K E b f c fs:=λg a i j l q=>h g a i j (e.trans l) q
abbrev FE:=SD->Res D
abbrev FT:=SD->Res Bool
abbrev FA:=SD->Res YG
def yL (K:W.Frag)(F H:Hp)(Q:VK)(d:D):Prop:=∀v a b,Ext F H a b->jf K a d v->Q v b
def vN (F H:Hp)(Q:Bool->Hp->Prop)(b:Bool):Prop:=∀c a,Ext F H c a->Q b a
def pP (K:W.Frag)(F H:Hp)(Q:YE->Hp->Prop)(ds:YG):Prop:=∀a b c,Ext F H b c->jd K b ds a->Q a c
def yc (K:W.Frag)(F H:Hp)(Q:VK)(d:D):Prop:=∀l a b,Ext F H a b->H l=none->a l=none->yM K a b l d->Q (.ref l) b
def tD (K:W.Frag)(E:XK)(f:FE):TE:=λZ H Q=>∃B F sd,RS K B F H sd Z /\ (f sd).need (yL K F H Q) (XW K E F H)
def bg (K:W.Frag)(E:XK)(f:FT):TT:=λZ H Q=>∃B F sd,RS K B F H sd Z /\ (f sd).need (vN F H Q) (XW K E F H)
def rJ (K:W.Frag)(E:XK)(f:FA):TA:=λZ H Q=>∃B F sd,RS K B F H sd Z /\ (f sd).need (pP K F H Q) (XW K E F H)
def vB (K:W.Frag)(E:XK)(f:FE):TE:=λZ H Q=>∃B F sd,RS K B F H sd Z /\ (f sd).need (yc K F H Q) (XW K E F H)
abbrev QE (X:Cx)(E:XK)(e:Expr)(f:FE):Prop:=PE X e (tD X.K E f)
abbrev QT (X:Cx)(E:XK)(e:Expr)(f:FT):Prop:=PT X e (bg X.K E f)
abbrev QW (X:Cx)(E:XK)(e:Expr)(f:FT):Prop:=PW X e (bg X.K E f)
abbrev QA (X:Cx)(E:XK)(es:Ym)(f:FA):Prop:=PA X es (rJ X.K E f)
abbrev QN (X:Cx)(E:XK)(e:Expr)(f:FE):Prop:=PE X e (vB X.K E f)
def PE.weak (h:PE X e t)(w:∀Z H Q,t' Z H Q->t Z H Q):PE X e t':=λY s Z H Q I q=>h Y s Z H Q I (w _ _ _ q)
def PT.weak (h:PT X e t)(w:∀Z H Q,t' Z H Q->t Z H Q):PT X e t':=λY s Z H Q I q=>h Y s Z H Q I (w _ _ _ q)
def PW.weak (h:PW X e t)(w:∀Z H Q,t' Z H Q->t Z H Q):PW X e t':=λa Y s Z H Q I q=>h a Y s Z H Q I (w _ _ _ q)
def PA.weak (h:PA X e t)(w:∀Z H Q,t' Z H Q->t Z H Q):PA X e t':=λa Y s Z H Q I q=>h a Y s Z H Q I (w _ _ _ q)
def PS.weak (h:PS X e t)(w:∀D Z H,t' D Z H->t D Z H):PS X e t':=λY s Z H D I q=>h Y s Z H D I (w _ _ _ q)
def qO.weak (h:qO X e t)(w:∀D Z H,t' D Z H->t D Z H):qO X e t':=λY s Z H D I q=>h Y s Z H D I (w _ _ _ q)
def PI.weak (h:PI X tg e t)(w:∀Z H R,t' Z H R->t Z H R):PI X tg e t':=λY s Z H R I q=>h Y s Z H R I (w _ _ _ q)
section
variable {K:W.Frag}{E:XK}{F H F' H':Hp}
def yL.ext (h:yL K F H Q d)(e:Ext F H F' H'):yL K F' H' Q d:=λv a b c q=>h v a b (e.trans c) q
def vN.ext (h:vN F H Q b)(e:Ext F H F' H'):vN F' H' Q b:=λa c f=>h a c (e.trans f)
def yc.ext (h:yc K F H Q d)(e:Ext F H F' H'):yc K F' H' Q d:=λl a b c q=>h l a b (e.trans c) (Qd e.hh q)
def A9 {Q:VK}{r:Res D}(h:r.need (yL K F H Q) (XW K E F H))(e:Ext F H F' H'):r.need (yL K F' H' Q) (XW K E F' H'):=h.mono (λ_ q=>q.ext e) λ_ _ q=>q.ext e
def Gj {Q:Bool->Hp->Prop}{r:Res Bool}(h:r.need (vN F H Q) (XW K E F H))(e:Ext F H F' H'):r.need (vN F' H' Q) (XW K E F' H'):=h.mono (λ_ q=>q.ext e) λ_ _ q=>q.ext e
def CB {Q:VK}{r:Res D}(h:r.need (yc K F H Q) (XW K E F H))(e:Ext F H F' H'):r.need (yc K F' H' Q) (XW K E F' H'):=h.mono (λ_ q=>q.ext e) λ_ _ q=>q.ext e
theorem yL.new (h:yL K F H Q d):yc K F H Q d:=λl F' H' e n c o=>by
 obtain⟨u,f⟩:=o.has;refine h (.ref l) (upd F' l u) H' ⟨e.ff.trans (KB c u),λb v q=>?_,e.hh,λa g i=>?_⟩ (o.frz f c)
 .by_cases z:b=l
  .simp_all [JL]
  .rw[JI z] at q;exact e.fh _ _ q
 .have z:a≠l:=by grind
  rw[JI z];exact e.new a g i
end
section
variable {X:Cx}{E:XK}
def jt (h:QN X E e f):QE X E e f:=PE.weak h λZ H Q ⟨B,F,sd,r,n⟩=>⟨B,F,sd,r,n.mono (λ_ q=>q.new) λ_ _ q=>q⟩
def jb (i:Nat):FE:=λsd=>match sd[i]? with
 |some (some (.val d))=>.ok d
 |_=>.no
def dC (d:D):FE:=λ_=>.ok d
def uY (h:PE X e (xy i)):QE X E e (jb i):=PE.weak h λZ H Q a=>by
 obtain⟨B,F,sd,r,n⟩:=a;unfold jb at n
 split at n
 .rename_i d q;obtain⟨v,b,c⟩:=r.val q;exact⟨v,b,n v F H (.refl r.ext.fh) c⟩
 .exact n.elim
def AA (h:PE X e (tC v))(i:∀F,jf X.K F d v):QE X E e (dC d):=PE.weak h λZ H Q ⟨B,F,sd,r,n⟩=>n v F H (.refl r.ext.fh) (i F)
def J8 {i j pos}:QE X E (.Constant (.int i) j pos) (dC (.int i)):=AA MJ λ_=>je.mpr rfl
def Kc {b j pos}:QE X E (.Constant (.bool b) j pos) (dC (.bl b)):=AA ki λ_=>jn.mpr rfl
def Gk {j pos}:QE X E (.Constant .none j pos) (dC .non):=AA MK λ_=>jC.mpr rfl
def Q0 {x j pos}:QE X E (.Constant (.str x) j pos) (dC (.str x)):=AA E1 λ_=>jq.mpr rfl
def Res.ofO {α: Type}:Option α -> Res α
 |some a=>.ok a
 |none=>.no
@[simp]def vj {α: Type}(a:α):Res.ofO (some a)=.ok a:=rfl
@[simp]def vk {α: Type}:Res.ofO (none:Option α)=.no:=rfl
def jg {α: Type}{o:Option α}{p:α -> Prop}(h:(Res.ofO o).need p q):∃a,o=some a/\p a:=by
 cases o with
 |none=>exact h.elim
 |some a=>exact⟨a,rfl,h⟩
def jl (g:D->D->YH)(a b:FE):FE:=λsd=>(a sd).bind λx=>(b sd).bind λy=>.ofO (g x y)
def jN (g:D->YH)(a:FE):FE:=λsd=>(a sd).bind λx=>.ofO (g x)
def vz (K:W.Frag)(g:D->D->YH):R2:=λv w H Q=>∃F d e z,jk F H/\jf K F d v/\jf K F e w/\g d e=some z/\yL K F H Q z
def uU (K:W.Frag)(g:D->D->YH):R2:=λv w H Q=>∃F d e z,jk F H/\jf K F d v/\jf K F e w/\g d e=some z/\yc K F H Q z
def mL (K:W.Frag)(g:D->YH):V->Hp->VK->Prop:=λv H Q=>∃F d z,jk F H/\jf K F d v/\g d=some z/\yL K F H Q z
def we (K:W.Frag)(g:YG->YH):YE->Hp->VK->Prop:=λa H Q=>∃F ds z,jk F H/\jd K F ds a/\g ds=some z/\yL K F H Q z
def wd (K:W.Frag)(g:YG->YH):YE->Hp->VK->Prop:=λa H Q=>∃F ds z,jk F H/\jd K F ds a/\g ds=some z/\yc K F H Q z
def Y1 {K:W.Frag}{g:D->D->YH}{c e:FE}{Z: St}{H:Hp}{Q:VK}(h:tD K E (jl g c e) Z H Q):vy (vz K g) (tD K E c) (tD K E e) Z H Q:=by
 obtain⟨B,F,sd,r,n⟩:=h;refine⟨B,F,sd,r,(ja n).mono (λx f v i p a j=>⟨B,i,sd,r.step a,(ja f).mono (λy l w m s b o=>?_) λ_ _ q=>q.ext a⟩) λ_ _ q=>q⟩;obtain⟨z,hz,q⟩:=jg l;exact⟨m,x,y,z,b.fh,jf.same b.ff _ _ j,o,hz,q.ext (a.trans b)⟩
def Pp {K:W.Frag}{g:D->D->YH}{c e:FE}{Z: St}{H:Hp}{Q:VK}(h:vB K E (jl g c e) Z H Q):vy (uU K g) (tD K E c) (tD K E e) Z H Q:=by
 obtain⟨B,F,sd,r,n⟩:=h;refine⟨B,F,sd,r,(ja n).mono (λx f v i p a j=>⟨B,i,sd,r.step a,(ja f).mono (λy l w m s b o=>?_) λ_ _ q=>q.ext a⟩) λ_ _ q=>q⟩;obtain⟨z,hz,q⟩:=jg l;exact⟨m,x,y,z,b.fh,jf.same b.ff _ _ j,o,hz,q.ext (a.trans b)⟩
def uA {K:W.Frag}{g:D->YH}{a:FE}{Z: St}{H:Hp}{Q:VK}(h:tD K E (jN g a) Z H Q):rG (mL K g) (tD K E a) Z H Q:=by
 obtain⟨B,F,sd,r,n⟩:=h;refine⟨B,F,sd,r,(ja n).mono (λx c v e i b f=>?_) λ_ _ q=>q⟩;obtain⟨z,hz,q⟩:=jg c;exact⟨e,x,z,b.fh,f,hz,q.ext b⟩
abbrev yr (X:Cx)(f:Value->Value->Sem Value)(g:D->D->YH):Prop:=qZ X f (vz X.K g)
abbrev hF (X:Cx)(f:Value->Value->Sem Value)(g:D->D->YH):Prop:=qZ X f (uU X.K g)
def qZ.weak (h:qZ X f r)(w:∀x y H Q,r' x y H Q->r x y H Q):qZ X f r':=λY s Z H x y v u Q I a b q=>h Y s Z H x y v u Q I a b (w _ _ _ _ q)
def vh.weak (h:vh X f r)(w:∀x H Q,r' x H Q->r x H Q):vh X f r':=λY s Z H x v Q I a q=>h Y s Z H x v Q I a (w _ _ _ q)
def jO.weak (h:jO X f r)(w:∀x H Q,r' x H Q->r x H Q):jO X f r':=λY s Z H x v Q I a q=>h Y s Z H x v Q I a (w _ _ _ q)
def zg.weak (h:zg X r)(w:∀x y H Q,r' x y H Q->r x y H Q):zg X r':=λa b Y s Z H x y v u Q I c f q e=>h a b Y s Z H x y v u Q I c f (w _ _ _ _ q) e
variable {a b:Expr}{fa fb:FE}{pos:Pos}
def j0 (c:yr X (binaryOp op) g)(e:QE X E a fa)(f:QE X E b fb):QE X E (.BinOp a op b pos) (jl g fa fb):=PE.weak (BW c e f) λ_ _ _ h=>Y1 h
def uZ (c:hF X (binaryOp op) g)(e:QE X E a fa)(f:QE X E b fb):QN X E (.BinOp a op b pos) (jl g fa fb):=PE.weak (BW c e f) λ_ _ _ h=>Pp h
def wZ (c:vh X (unaryOp op) (mL X.K g))(e:QE X E a fa):QE X E (.UnaryOp op a pos) (jN g fa):=PE.weak (kh c e) λ_ _ _ h=>uA h
def AB (c:yr X (compareOp op) g)(e:QE X E a fa)(f:QE X E b fb)(i:behindInMarks op b=false):QE X E (.Compare a [op] [b] pos) (jl g fa fb):=PE.weak (Nk c e f i) λ_ _ _ h=>Y1 h
def JD (fa:FE):FT:=λsd=>(fa sd).bind λx=>match x with
 | .bl b=>.ok b
 |_=>.no
def Y2 {K:W.Frag}{Z: St}{H:Hp}{Q:Bool->Hp->Prop}(h:bg K E (JD fa) Z H Q):tD K E fa Z H (λx e=>∃k,x=.bl k/\Q k e):=by
 obtain⟨B,F,sd,r,n⟩:=h;refine⟨B,F,sd,r,(ja n).mono (λx c v f g i j=>?_) λ_ _ q=>q⟩;cases x with
 |bl k=>exact⟨k,jn.mp j,c f g i⟩
 |_=>exact c.elim
def Q8 {op:CmpOp}{g:D->D->YH}(c:yr X (compareOp op) g)(e:QE X E a fa)(f:QE X E b fb)(i:behindInMarks op b=false):QT X E (.Compare a [op] [b] pos) (JD (jl g fa fb)):=
 PT.weak (BX c e f i) λZ H Q h=>have h:=Y2 h;Y1 h
def KQ (e:QE X E a fa)(f:∀c,isTrue a X.env c=(do let v <- c;standAt a.pos;holding [v] (truthy v)):=by intro _;rfl):QT X E a (JD fa):=PT.weak (MN e f) λZ H Q q=>Y2 q
def KR (f:FT):FT:=λsd=>(f sd).bind λb=>.ok (!b)
def Ky (f g:FT):FT:=λsd=>(f sd).bind λb=>if b then g sd else .ok false
def yY (f g:FT):FT:=λsd=>(f sd).bind λb=>if b then .ok true else g sd
variable {f g:FT}{rest:Ym}
def AC (c:QT X E a f):QT X E (.UnaryOp .Not a pos) (KR f):=PT.weak (MS c) λZ H Q ⟨B,F,sd,r,n⟩ =>
 ⟨B,F,sd,r,(ja n).mono (λ_ q=>q) λ_ _ q=>q⟩
def AD (c:QT X E a f):QW X E (.BoolOp .And [a] pos) f:=MO c
def CC (c:QT X E a f):QW X E (.BoolOp .Or [a] pos) f:=MP c
def AE (i:QT X E a f)(j:QW X E (.BoolOp .And (b::rest) pos) g):QW X E (.BoolOp .And (a::b::rest) pos) (Ky f g):=PW.weak (MQ i j) λZ H Q l=>by
 obtain⟨B,F,sd,r,n⟩:=l;refine⟨B,F,sd,r,(ja n).mono (λk e h m c=>?_) λ_ _ q=>q⟩;cases k with
 |true=>exact⟨B,h,sd,r.step c,Gj e c⟩
 |false=>exact e h m c
def CD (i:QT X E a f)(j:QW X E (.BoolOp .Or (b::rest) pos) g):QW X E (.BoolOp .Or (a::b::rest) pos) (yY f g):=PW.weak (ke i j) λZ H Q l=>by
 obtain⟨B,F,sd,r,n⟩:=l;refine⟨B,F,sd,r,(ja n).mono (λk e h m c=>?_) λ_ _ q=>q⟩;cases k with
 |true=>exact e h m c
 |false=>exact⟨B,h,sd,r.step c,Gj e c⟩
def xZ (h:QW X E e f):QT X E e f:=fZ h
def AF (fa fb:FE):FE:=λsd=>(JD fa sd).bind λb=>if b then fb sd else .ok (.bl false)
def ka {op}(h:QE X E a fa):QE X E (.BoolOp op [a] pos) fa:=MT h
def Gm (i:QE X E a fa)(j:QE X E (.BoolOp .And (b::rest) pos) fb):QE X E (.BoolOp .And (a::b::rest) pos) (AF fa fb):=PE.weak (MU i j) λZ H Q l=>by
 obtain⟨B,F,sd,r,n⟩:=l;refine Y2 ⟨B,F,sd,r,(ja n).mono (λk e h m c=>?_) λ_ _ q=>q⟩;cases k with
 |true=>exact⟨B,h,sd,r.step c,A9 e c⟩
 |false=>exact e _ h m c (jn.mpr rfl)
def jc:FA:=λ_=>.ok []
def J1 (fa:FE)(c:FA):FA:=λsd=>(fa sd).bind λx=>(c sd).bind λe=>.ok (x::e)
def J3:QA X E [] jc:=PA.weak KN λZ H Q ⟨B,F,sd,r,n⟩=>n [] F H (.refl r.ext.fh) .nil
def J2 (i:QE X E e fe)(j:QA X E es fr)(hs:starEach (e::es) X.env=(false,eval e X.env)::starEach es X.env:=by rfl):QA X E (e::es) (J1 fe fr):=
 PA.weak (K9 i j hs) λZ H Q ⟨B,F,sd,r,n⟩=>⟨B,F,sd,r,(ja n).mono (λx l v m w c o=>⟨B,m,sd,r.step c,(ja l).mono (λy p z s t h u=>(p _ s t (c.trans h) (.mk (jf.same h.ff _ _ o) u))) λ_ _ q=>q.ext c⟩) λ_ _ q=>q⟩
def qM (e:FA):FE:=λsd=>(e sd).bind λc=>if c.length<=1000 then .ok (.lst c) else .no
def xC (e:FA):FE:=λsd=>(e sd).bind λc=>if c.length<=1000 then .ok (.tup c) else .no
def Kd (h:QA X E es fr):QN X E (.List es pos) (qM fr):=PE.weak (N3 h) λZ H Q l=>by
 obtain⟨B,F,sd,r,n⟩:=l;refine⟨B,F,sd,r,(ja n).mono (λs e i m o c j=>?_) λ_ _ q=>q⟩
 split at e
 .have hz:=j.length;exact⟨QR (),λp hp=>(e p m (upd o p (.lst i)) (c.trans (.keep c.fh hp _)) (Qd c.hh hp) (Qd c.fh hp) ⟨i,JL,j⟩)⟩
 .exact e.elim
def WA {x1}(h:QA X E es fr):QE X E (.Tuple es x1 pos) (xC fr):=PE.weak (EG h) λZ H Q m=>by
 obtain⟨B,F,sd,r,n⟩:=m;refine⟨B,F,sd,r,(ja n).mono (λo c e s t i j=>?_) λ_ _ q=>q⟩
 split at c
 .have hz:=j.length;refine⟨QR (),λp hp=>?_⟩;have l:=qh i.fh hp (.tup e);exact c _ _ _ (i.trans l) (ju.mpr ⟨p,e,rfl,.of JL,jd.same l.ff _ _ j⟩)
 .exact c.elim
def xl (K:W.Frag)(c:YG->Res D):Sp:=λe H Q _=>∃F ds,jk F H/\jd K F ds e/\(c ds).need (yL K F H Q) (XW K E0 F H)
def zL (K:W.Frag)(c:YG->Res D):Sp:=λe H Q _=>∃F ds,jk F H/\jd K F ds e/\(c ds).need (yc K F H Q) (XW K E0 F H)
def J9 (c:YG->Res D)(e:FA):FE:=λsd=>(e sd).bind c
def qf {name:Str}{k:Nat}{ps:Yk}{h:YG->Res D}{p:Pos}{e:Expr}{es:Ym}{l:FA}(c:zU X.prog X.w X.K X.mg X.base name k ps (xl X.K h))(o:Room k X.A)(s:Gl X name)(t:QA X E0 (e::es) l)
 (i:(name == ("__debug__" : Str))=false:=by decide) (u:starEach (e::es) X.env=(false,eval e X.env)::starEach es X.env:=by rfl) (j:(backTo pos (starEach es X.env)).any (·.1)=false:=by rfl):
 QE X E0 (.Call (.Name name p) (e::es) [] pos) (J9 h l):=PE.weak (Xe c o s t i u j) λZ H Q v=>by
 obtain⟨B,F,sd,r,n⟩:=v;refine⟨B,F,sd,r,(ja n).mono (λw x y z A m C=>?_) λ_ _ q=>q⟩;show xl X.K h (y++[]) A Q E0;rw[ZA];exact⟨z,w,m.fh,C,A9 x m⟩
def Y3 {name:Str}{k:Nat}{ps:Yk}{h:YG->Res D}{p:Pos}{e:Expr}{es:Ym}{l:FA}(c:zU X.prog X.w X.K X.mg X.base name k ps (zL X.K h))(o:Room k X.A)(s:Gl X name)(t:QA X E0 (e::es) l)
 (i:(name == ("__debug__" : Str))=false:=by decide) (u:starEach (e::es) X.env=(false,eval e X.env)::starEach es X.env:=by rfl) (j:(backTo pos (starEach es X.env)).any (·.1)=false:=by rfl):
 QN X E0 (.Call (.Name name p) (e::es) [] pos) (J9 h l):=PE.weak (Xe c o s t i u j) λZ H Q v=>by
 obtain⟨B,F,sd,r,n⟩:=v;refine⟨B,F,sd,r,(ja n).mono (λw x y z A m C=>?_) λ_ _ q=>q⟩;show zL X.K h (y++[]) A Q E0;rw[ZA];exact⟨z,w,m.fh,C,CB x m⟩
def jv (g:YG->YH)(c:FA):FE:=λsd=>(c sd).bind λe=>.ofO (g e)
def Qp {id:String}{x:Str}{p:Pos}{e:Expr}{es:Ym}{g:YG->YH}{i:FA}(l:jO X (.builtin id) (we X.K g))(m:Gl X x)(o:X.mg x=none)(s:bootBuiltins x=some (.builtin id))(t:QA X E (e::es) i)(u:x ≠ "__name__" := by decide)(c:(x == ("__debug__" : Str))=false:=by decide)
 (v:starEach (e::es) X.env=(false,eval e X.env)::starEach es X.env:=by rfl) (h:(backTo pos (starEach es X.env)).any (·.1)=false:=by rfl):QE X E (.Call (.Name x p) (e::es) [] pos) (jv g i):=
 PE.weak (XI l m o s t u c v h) λZ H Q w=>by
  obtain⟨B,F,sd,r,n⟩:=w;refine⟨B,F,sd,r,(ja n).mono (λy A I C J j G=>?_) λ_ _ q=>q⟩;obtain⟨z,hz,q⟩:=jg A;exact⟨C,y,z,j.fh,G,hz,q.ext j⟩
def Gn {id:String}{x:Str}{p:Pos}{e:Expr}{es:Ym}{g:YG->YH}{i:FA}(l:jO X (.builtin id) (wd X.K g))(m:Gl X x)(o:X.mg x=none)(s:bootBuiltins x=some (.builtin id))(t:QA X E (e::es) i)(u:x ≠ "__name__" := by decide)(c:(x == ("__debug__" : Str))=false:=by decide)
 (v:starEach (e::es) X.env=(false,eval e X.env)::starEach es X.env:=by rfl) (h:(backTo pos (starEach es X.env)).any (·.1)=false:=by rfl):QN X E (.Call (.Name x p) (e::es) [] pos) (jv g i):=
 PE.weak (XI l m o s t u c v h) λZ H Q w=>by
  obtain⟨B,F,sd,r,n⟩:=w;refine⟨B,F,sd,r,(ja n).mono (λy A I C J j G=>?_) λ_ _ q=>q⟩;obtain⟨z,hz,q⟩:=jg A;exact⟨C,y,z,j.fh,G,hz,q.ext j⟩
def WC {T:String}{x:Str}{p:Pos}{e:Expr}{es:Ym}{g:YG->YH}{i:FA}(l:jO X (.type T) (we X.K g))(m:Gl X x)(o:X.mg x=none)(s:bootBuiltins x=some (.type T))(t:QA X E (e::es) i)(u:x ≠ "__name__" := by decide)(c:(x == ("__debug__" : Str))=false:=by decide)
 (v:starEach (e::es) X.env=(false,eval e X.env)::starEach es X.env:=by rfl) (h:(backTo pos (starEach es X.env)).any (·.1)=false:=by rfl):QE X E (.Call (.Name x p) (e::es) [] pos) (jv g i):=
 PE.weak (Ai l m o s t u c v h) λZ H Q w=>by
  obtain⟨B,F,sd,r,n⟩:=w;refine⟨B,F,sd,r,(ja n).mono (λy A I C J j G=>?_) λ_ _ q=>q⟩;obtain⟨z,hz,q⟩:=jg A;exact⟨C,y,z,j.fh,G,hz,q.ext j⟩
def WD {T:String}{x:Str}{p:Pos}{e:Expr}{es:Ym}{g:YG->YH}{i:FA}(l:jO X (.type T) (wd X.K g))(m:Gl X x)(o:X.mg x=none)(s:bootBuiltins x=some (.type T))(t:QA X E (e::es) i)(u:x ≠ "__name__" := by decide)(c:(x == ("__debug__" : Str))=false:=by decide)
 (v:starEach (e::es) X.env=(false,eval e X.env)::starEach es X.env:=by rfl) (h:(backTo pos (starEach es X.env)).any (·.1)=false:=by rfl):QN X E (.Call (.Name x p) (e::es) [] pos) (jv g i):=
 PE.weak (Ai l m o s t u c v h) λZ H Q w=>by
  obtain⟨B,F,sd,r,n⟩:=w;refine⟨B,F,sd,r,(ja n).mono (λy A I C J j G=>?_) λ_ _ q=>q⟩;obtain⟨z,hz,q⟩:=jg A;exact⟨C,y,z,j.fh,G,hz,q.ext j⟩
def KD:D->Bool
 | .tup _=>false
 | .lst _=>false
 | .dct _ _=>false
 | .ins _ _ _=>false
 | .exc _=>false
 | .dcf _ _=>false
 | .pin _ _=>false
 | .scr _=>false
 |_=>true
def jf.scal {K:W.Frag}{F c:Hp}{d:D}{v:V}(s:KD d=true)(h:jf K F d v):jf K c d v:=by
 cases d with
 |tup _=>exact JC s
 |lst _=>exact JC s
 |dct _ _=>exact JC s
 |ins _ _ _=>exact JC s
 |exc _=>exact JC s
 |dcf _ _=>exact JC s
 |pin _ _=>exact JC s
 |scr _=>exact JC s
 |_=>exact h
def Res.bare {α: Type}(r:Res α):Res α:= match r with
 | .ok a=>.ok a
 | .ex c []=>.ex c []
 |_=>.no
def yp {α: Type}{K:W.Frag}{F H e:Hp}{r:Res α}{p:α -> Prop}(i:jk F H)(h:r.bare.need p (XW K E0 F H)):r.need p (XW K E0 e H):=by
 cases r with
 |ok a=>exact h
 |no=>exact h
 |ex c fs =>
  cases fs with
  |nil=>exact λj a q l m ⟨C,n,o,_⟩=>h j none F l (.grow i m.hh) ⟨C,n,o,.inl rfl⟩
  |cons d r=>exact h.elim
def yX (is:Yj)(f:FE):FE:=λsd=>(f (qE is sd)).bare.bind λd=>if KD d then .ok d else .no
def AG {e:Expr}{j:FE}(is)(h:QE X E0 e j):QE X E0 e (yX is j):=PE.weak h λZ H Q l=>by
 obtain⟨B,F,sd,r,n⟩:=l;obtain⟨m,u,o⟩:=r.frz is;refine⟨B,m,_,o,(yp r.ext.fh (ja n)).mono (λd i v w p s t=>?_) λc fs q=>q⟩
 split at i
 .rename_i hs;exact i v F p (.grow r.ext.fh s.hh) (t.scal hs)
 .exact i.elim
end
inductive Out where
 |next (sd:SD)|ret (d:D)|brk (sd:SD)|cont (sd:SD)
def bY (K:W.Frag)(F H:Hp)(Q:VK)(d:D):Prop:=if KD d=true then yL K F H Q d else yc K F H Q d
def AH (K:W.Frag)(m:Option Bool)(B:Bs)(Q:VK)(d:D):Prop:=match m with
 |some true=>yc K B.F0 B.H0 Q d
 |some false=>yL K B.F0 B.H0 Q d
 |none=>bY K B.F0 B.H0 Q d
def zq (K:W.Frag)(m:Option Bool)(B:Bs)(F:Hp)(T:Ends):Out->Prop
 | .next sd=>∀Z a b,jk F a->RS K B a b sd Z -> T.nx Z b
 | .brk sd=>∀Z a b,jk F a->RS K B a b sd Z -> T.bk Z b
 | .cont sd=>∀Z a b,jk F a->RS K B a b sd Z -> T.ct Z b
 | .ret d=>AH K m B T.rt d
abbrev FS:=SD->Res Out
def vV (K:W.Frag)(E:XK)(m:Option Bool)(g:FS):TS:=λT Z H=>∃B F sd,RS K B F H sd Z /\ (g sd).need (zq K m B F T) (XW K E B.F0 B.H0)
abbrev QS (X:Cx)(E:XK)(m:Option Bool)(st:Stmt)(g:FS):Prop:=PS X st (vV X.K E m g)
abbrev zN (X:Cx)(E:XK)(m:Option Bool)(st:List Stmt)(g:FS):Prop:=qO X st (vV X.K E m g)
section
variable {K:W.Frag}{E:XK}{m:Option Bool}{B:Bs}{F F' H:Hp}{T:Ends}
def zq.mono (h:zq K m B F T o)(e:jk F F'):zq K m B F' T o:=by
 cases o with
 |next sd=>exact λZ a b s r=>h Z a b (e.trans s) r
 |brk sd=>exact λZ a b s r=>h Z a b (e.trans s) r
 |cont sd=>exact λZ a b s r=>h Z a b (e.trans s) r
 |ret d=>exact h
end
section
variable {X:Cx}{E:XK}{m:Option Bool}{st:Stmt}{sts:List Stmt}{g g1 g2:FS}{pos:Pos}
def JO:FS:=λsd=>.ok (.next sd)
def jz (g1 g2:FS):FS:=λsd=>(g1 sd).bind λo=>match o with
 | .next sd'=>g2 sd'
 |o=>.ok o
def Q1:zN X E m [] JO:=qO.weak Ab λT Z H ⟨B,F,sd,r,n⟩=>n Z F H (.refl _) r
def JB (h:QS X E m st g):zN X E m [st] g:=BT h
def JK (b:QS X E m st g1)(c:zN X E m sts g2):zN X E m (st::sts) (jz g1 g2):=qO.weak (XF b c) λT Z H e=>by
 obtain⟨B,F,sd,r,n⟩:=e;refine⟨B,F,sd,r,(ja n).mono (λo a=>?_) λ_ _ q=>q⟩;cases o with
 |next sd'=>exact λi f j s h=>⟨B,f,sd',h,a.mono (λo q=>q.mono s) λ_ _ q=>q⟩
 |ret d=>exact a
 |brk sd'=>exact a
 |cont sd'=>exact a
def Y4 (is)(h:QS X E m st g):QS X E m st (λsd=>g (qE is sd)):=PS.weak h λT Z H a=>by
 obtain⟨B,F,sd,r,n⟩:=a;obtain⟨b,c,e⟩:=r.frz is;exact⟨B,b,_,e,n.mono (λ_ q=>q.mono c) λ_ _ q=>q⟩
def vC:FS:=λsd=>.ok (.brk sd)
def Pq:QS X E m (.Break pos) vC:=PS.weak MW λT Z H ⟨B,F,sd,r,n⟩=>n Z F H (.refl _) r
variable {e:Expr}{fe:FE}
def jI (i:Nat)(f:FE):FS:=λsd=>(f sd).bind λd=>.ok (.next (sd.set i (some (.val d))))
def qw (i:Nat)(f:FE):FS:=λsd=>(f sd).bind λd=>.ok (.next (sd.set i (some (.own false d))))
def Q9 (b:X.N.Nodup)(c:X.N[i]? = some x)(f:yG X.env.scope x)(h:QE X E e fe)(hs:swapsWith e (some (.Name x pos')) pos.line X.env=pure false:=by rfl)
 (j:X.fn x=true\/X.env.scope.names.lookup x=some .local:=by trivial):QS X E m (.Assign [.Name x pos'] e pos) (jI i fe):=PS.weak (XG b c f h hs j) λT Z H ⟨B,F,sd,r,n⟩=>⟨B,F,sd,r,(ja n).mono (λd l v o p a s=>(l _ o p a.ff ((r.step a).setVal s))) λ_ _ q=>q.ext r.ext⟩
def Ke (b:X.N.Nodup)(c:X.N[i]? = some x)(f:yG X.env.scope x)(h:QN X E e fe)(hs:swapsWith e (some (.Name x pos')) pos.line X.env=pure false:=by rfl)
 (s:X.fn x=true\/X.env.scope.names.lookup x=some .local:=by trivial):QS X E m (.Assign [.Name x pos'] e pos) (qw i fe):=PS.weak (XG b c f h hs s) λT Z H t=>by
 obtain⟨B,F,sd,r,n⟩:=t;refine⟨B,F,sd,r,(ja n).mono (λd u l v w a y z A=>(u _ v w a.ff ((r.step a).setOwn (Qd r.ext.hh y) z A λj p I C J=>?_))) λ_ _ q=>q.ext r.ext⟩;obtain⟨K,L,_,_,G,_⟩:=r.own C;obtain⟨o,M⟩:=G.has
 simp_all
def j1 (f:FE):FS:=λsd=>(f sd).bind λd=>.ok (.ret d)
def Qb (a:QE X E e fe):QS X E false (.Return (some e) pos) (j1 fe):=PS.weak (Ad a) λT Z H ⟨B,F,sd,r,n⟩=>⟨B,F,sd,r,(ja n).mono (λd b v c f h i=>(b v c f (r.ext.trans h) i)) λ_ _ q=>q.ext r.ext⟩
def WE (a:QN X E e fe):QS X E true (.Return (some e) pos) (j1 fe):=PS.weak (Ad a) λT Z H ⟨B,F,sd,r,n⟩=>⟨B,F,sd,r,(ja n).mono (λd b l c f h i j o=>(b l c f (r.ext.trans h) (Qd r.ext.hh i) j o)) λ_ _ q=>q.ext r.ext⟩
def KE (i:Nat):FS:=λsd=>match sd[i]? with
 |some (some (.own _ d))=>.ok (.ret d)
 |_=>.no
def AI (a:PE X e (xy i)):QS X E true (.Return (some e) pos) (KE i):=PS.weak (Ad a) λT Z H b=>by
 obtain⟨B,F,sd,r,n⟩:=b;unfold KE at n
 split at n
 .rename_i d q;obtain⟨l,c,f,h,j,_⟩:=r.own q;exact⟨.ref l,c,n l F H r.ext f h j⟩
 .exact n.elim
def qP (c:FT)(g1 g2:FS):FS:=λsd=>(c sd).bind λb=>if b then g1 sd else g2 sd
def Q2 (j:QT X E c fc)(l:zN X E m a g1)(o:zN X E m b g2):QS X E m (.If c a b pos) (qP fc g1 g2):=PS.weak (BU j l o) λT Z H p=>by
 obtain⟨B,F,sd,r,n⟩:=p;refine⟨B,F,sd,r,(ja n).mono (λb h i s f=>?_) λ_ _ q=>q.ext r.ext⟩;cases b with
 |true=>exact⟨B,i,sd,r.step f,h.mono (λ_ q=>q.mono f.ff) λ_ _ q=>q⟩
 |false=>exact⟨B,i,sd,r.step f,h.mono (λ_ q=>q.mono f.ff) λ_ _ q=>q⟩
def Kz (i:Nat)(f:FE):FS:=λsd=>match sd[i]? with
 |some (some (.own false (.lst ds)))=>(f sd).bind λd=>if ds.length<sizeLine then .ok (.next (sd.set i (some (.own false (.lst (ds++[d])))))) else .no
 |_=>.no
def Y5 (z:PE X o (xy i))(A:QE X E e fe)
 (hp:∀{p:TE} {t:TA},PE X o p->PA X [e] t->PE X (.Call (.Attribute o "append" apos) [e] [] cpos) (uG X.K "list" Aj p t))
 (hs:swapsWith (.Call (.Attribute o "append" apos) [e] [] cpos) none pos.line X.env=pure false:=by rfl)
 (f:starEach [e] X.env=(false,eval e X.env)::starEach [] X.env:=by rfl):QS X E m (.Expr (.Call (.Attribute o "append" apos) [e] [] cpos) pos) (Kz i fe):=
 PS.weak (Ac (hp z (J2 A J3 f)) hs) λT Z H C=>by
  obtain⟨B,F,sd,r,n⟩:=C;unfold Kz at n
  split at n
  .rename_i ds s;obtain⟨l,u,L,M,⟨h,x,y⟩,_⟩:=r.own s;refine⟨.ref l,u,.inl ⟨rfl,h,qp.of x⟩,B,F,sd,r,?_⟩;unfold J1 jc;have a:=ja n;cases q:fe sd with
   |no=>rwa [q] at a
   |ex c fs=>rw[q] at a;exact a.ext r.ext
   |ok d =>
    rw[q] at a;intro N G O b I;obtain⟨v,w,rfl,J,K⟩:=I;subst K;have j:=a
    split at j
    .have P:=y.length;exact⟨l,h,v,rfl,rfl,b.hh _ _ x,(),j Z G _ b.ff ((r.step b).chg s u ⟨h++[v],JL,(jd.same b.ff _ _ y).snoc J⟩)⟩
    .exact j.elim
  .exact n.elim
def Xk (i:Nat)(f:FE):FS:=λsd=>match sd[i]? with
 |some (some (.own false (.lst ds)))=>(f sd).bind λd=>match d with
  | .lst es=>if ds.length+es.length<=sizeLine then .ok (.next (sd.set i (some (.own false (.lst (ds++es)))))) else .no
  |_=>.no
 |_=>.no
def Pr (x:PE X o (xy i))(y:QN X E e fe)
 (hp:∀{j:TE} {t:TA},PE X o j->PA X [e] t->PE X (.Call (.Attribute o "extend" apos) [e] [] cpos) (uG X.K "list" ES j t))
 (hs:swapsWith (.Call (.Attribute o "extend" apos) [e] [] cpos) none pos.line X.env=pure false:=by rfl)
 (c:starEach [e] X.env=(false,eval e X.env)::starEach [] X.env:=by rfl):QS X E m (.Expr (.Call (.Attribute o "extend" apos) [e] [] cpos) pos) (Xk i fe):=
 PS.weak (Ac (hp x (K9 y KN c)) hs) λT Z H z=>by
  obtain⟨B,F,sd,r,n⟩:=z;unfold Xk at n
  split at n
  .rename_i ds p;obtain⟨l,s,I,J,⟨f,u,v⟩,_⟩:=r.own p;refine⟨.ref l,s,.inl ⟨rfl,f,qp.of u⟩,B,F,sd,r,(ja n).mono (λd w b A K a L M C=>?_) λ_ _ q=>q.ext r.ext⟩;cases d with
   |lst es =>
    have ⟨ys,g1,g2⟩:=C;have h:(if ds.length+es.length<=sizeLine then Res.ok (Out.next (sd.set i (some (.own false (.lst (ds++es)))))) else .no).need (zq X.K m B F T) (XW X.K E B.F0 B.H0):=w
    split at h
    .have N:=v.length;have G:=g2.length;exact⟨l,b,f,ys,rfl,rfl,a.hh _ _ u,g1,(),h Z A _ a.ff ((r.step a).chg p s ⟨f++ys,JL,(jd.same a.ff _ _ v).append g2⟩)⟩
    .exact h.elim
   |_=>exact w.elim
  .exact n.elim
inductive Tg where
 |one (i:Nat)|tup (is:Yj)
def setAll:Yj->YG->SD->SD
 |i::is,d::ds,sd=>setAll is ds (sd.set i (some (.val d)))
 |_,_,sd=>sd
def JM:Tg->D->SD->Res SD
 | .one i,d,sd=>.ok (sd.set i (some (.val d)))
 | .tup is,.tup ds,sd=>if ds.length=is.length then .ok (setAll is ds sd) else .no
 |_,_,_=>.no
def AJ:Yj->YE->St->St
 |i::is,v::vs,Z => AJ is vs (Z.set i (some v))
 |_,_,Z => Z
theorem RS.setAll {K:W.Frag}{B:Bs}{F H:Hp}:∀{is:Yj} {ds:YG} {a:YE} {sd:SD} {Z: St},RS K B F H sd Z -> jd K F ds a->RS K B F H (setAll is ds sd) (AJ is a Z)
 | [],ds,a,sd,Z,r,_=>r
 |i::is,[],a,sd,Z,r,h=>by
  subst h;exact r
 |i::is,d::ds,a,sd,Z,r,h=>by
  obtain⟨v,w,rfl,b,c⟩:=h;exact RS.setAll (is:=is) (r.setVal b) c
def RS.forget {K:W.Frag}{B:Bs}{F H:Hp}{sd sd':SD}{Z: St}(r:RS K B F H sd Z)(a:sd'.length=sd.length)(h:∀(i:Nat) x,sd'[i]? = some (some x)->sd[i]? = some (some x)):RS K B F H sd' Z:=
 ⟨r.ext,by rw[r.len,a],λq=>r.val (h _ _ q),λq=>r.own (h _ _ q),λn b c f=>r.apart n (h _ _ b) (h _ _ c) f⟩
def gT:Tg->W.Frag->TG
 | .one i,_=>KM i
 | .tup is,K=>λv Z H Q=>∃a b,v=.ref a/\yE K H a b/\b.length=is.length/\Q (AJ is b Z) H
def Xl {K:W.Frag}{tg:Tg}{B:Bs}{F H:Hp}{sd:SD}{Z: St}{d:D}{v:V}{p:SD->Prop}{q:Str->YG->Prop}{Q:St->Hp->Prop}(r:RS K B F H sd Z)(f:jf K F d v)(n:(JM tg d sd).need p q)
 (h:∀sd' j,p sd'->JM tg d sd=.ok sd'->RS K B F H sd' j->Q j H):gT tg K v Z H Q:=by
 cases tg with
 |one i=>exact h _ _ n rfl (r.setVal f)
 |tup is =>
  cases d with
  |tup ds =>
   obtain⟨a,o,rfl,s,l⟩:=f;have b:JM (.tup is) (.tup ds) sd=if ds.length=is.length then .ok (setAll is ds sd) else .no:=rfl
   by_cases c:ds.length=is.length
   .rw[Zd c] at b;rw[b] at n;exact⟨a,o,rfl,(s.same r.ext.fh).sq,by rw[l.length,c],h _ _ n b (r.setAll l)⟩
   .rw[Ze c] at b;rw[b] at n;exact n.elim
  |_=>exact n.elim
abbrev QG (X:Cx)(e:Expr)(tg:Tg):Prop:=PG X e (gT tg X.K)
def wu (K:W.Frag)(h:Hp)(J:It)(ds:YG):Prop:=∀(i:Nat) (b a:Hp),jk h b->jk b a ->
 (i<ds.length->J.go i a/\∀x c,J.yld i a x c->∃d f,ds[i]? = some d/\Ext b a f c/\jf K f d x)/\(ds.length<=i->J.stop i a)
def bh (K:W.Frag)(E:XK)(f:FA):TI:=λZ H R=>∃B F sd,RS K B F H sd Z /\ (f sd).need (λds=>∀J a b,Ext F H a b->wu K a J ds->R J b) (XW K E F H)
abbrev QI (X:Cx)(E:XK)(tg iter:Expr)(f:FA):Prop:=PI X tg iter (bh X.K E f)
def yD (b:D->FS):YG->FS
 | [],sd=>.ok (.next sd)
 |x::xs,sd=>(b x sd).bind λo=>match o with
  | .next sd'=>yD b xs sd'
  | .cont sd'=>yD b xs sd'
  | .brk sd'=>.ok (.next sd')
  | .ret d=>.ok (.ret d)
def jQ (it:FA)(tg:Tg)(b:FS):FS:=λsd=>(it sd).bind λds=>yD (λx sd=>(JM tg x sd).bind b) ds sd
def Q5 (hp:PassesOwn (model X.prog X.w) X.A X.env X.xe)(Q:X.calm=true)(M:QI X E tg iter fi)(R:QG X tg t)(S:zN X E m body g)
 (w:∀x,foldedSetIterable iter X.env x=pure x:=by intro _;rfl):QS X E m (.For tg iter body [] pos) (jQ fi t g):=PS.weak (Af hp Q M R S w) λT Z H U=>by
 obtain⟨B,F,sd,r,n⟩:=U;refine⟨B,F,sd,r,(ja n).mono (λds Y J z H1 N wk=>(⟨λi k Z H=>k=ds.length-i/\i<=ds.length/\∃j sd,jk z j/\RS X.K B j H sd Z /\ (yD (λx sd=>(JM t x sd).bind g) (ds.drop i) sd).need (zq X.K m B j T) (XW X.K E B.F0 B.H0),
  ⟨ds.length,rfl,Ua _,z,sd,.refl _,r.step N,Y.mono (λ_ q=>q.mono N.ff) λ_ _ q=>q⟩,?_⟩)) λ_ _ q=>q.ext r.ext⟩
 rintro i k Z2 O ⟨rfl,M,j,sd2,A,C,p⟩;obtain⟨w1,w2⟩:=wk i j O A C.ext.fh;by_cases c:i<ds.length
 .obtain⟨go,yl⟩:=w1 c;refine .inr ⟨go,λG P=>∃f a,jk z f/\RS X.K B f P a G/\(yD (λx sd=>(JM t x sd).bind g) (ds.drop (i+1)) a).need (zq X.K m B f T) (XW X.K E B.F0 B.H0),
   λG P ⟨f,a,q1,q2,q3⟩=>⟨ds.length-(i+1),(),rfl,c,f,a,q1,q2,q3⟩,λx H3 y=>?_⟩
  obtain⟨d,f,hd,l,i3⟩:=yl x H3 y;rw[Uq c] at p;have I:ds[i]=d:=by simp_all
  rw[I] at p;refine Xl (C.step l) i3 (ja (ja p)) λsd' G n4 _ r4=>⟨B,f,sd',r4,n4.mono (λo v=>?_) λ_ _ q=>q⟩;cases o with
  |next b=>exact λK s L h u=>⟨s,b,(A.trans l.ff).trans h,u,v.mono (λ_ q=>q.mono (l.ff.trans h)) λ_ _ q=>q⟩
  |cont b=>exact λK s L h u=>⟨s,b,(A.trans l.ff).trans h,u,v.mono (λ_ q=>q.mono (l.ff.trans h)) λ_ _ q=>q⟩
  |brk b=>exact λK s L h u=>v K s L (l.ff.trans h) u
  |ret d=>exact v
 .have he:i=ds.length:=()
  refine .inl ⟨w2 (),?_⟩;subst he;rw[UT] at p;exact p Z2 j O (.refl _) C
def pinned (i:Nat)(sd:SD):Bool:=match sd[i]? with
 |some (some (.own true _))=>true
 |_=>false
def Xm (i:Nat)(v:SV)(sd:SD):Res Out:=if pinned i sd then .ok (.next (sd.set i (some v))) else .no
def xV (i:Nat)(v:SV)(b:D->FS):YG->FS
 | [],sd=>Xm i v sd
 |x::xs,sd=>if pinned i sd then(b x sd).bind λo=>match o with
  | .next sd'=>xV i v b xs sd'
  | .cont sd'=>xV i v b xs sd'
  | .brk sd'=>Xm i v sd'
  | .ret d=>.ok (.ret d) else .no
def Y6 (i:Nat)(tg:Tg)(b:FS):FS:=λsd=>match sd[i]? with
 |some (some (.own p (.lst ds)))=>xV i (.own p (.lst ds)) (λx sd=>(JM tg x sd).bind b) ds (sd.set i (some (.own true (.lst ds))))
 |_=>.no
def CF (h:pinned i sd=true):∃d,sd[i]? = some (some (.own true d)):=by
 grind[pinned]
def Ps (hp:PassesOwn (model X.prog X.w) X.A X.env X.xe)(hc:X.calm=true)(hv:PE X iter (xy i))(hg:QG X tg t)(hb:zN X E m body g)
 (hss:∀x,foldedSetIterable iter X.env x=pure x:=by intro _;rfl):QS X E m (.For tg iter body [] pos) (Y6 i t g):=PS.weak (Af hp hc (E7 hv) hg hb hss) λT Z H zh=>by
 obtain⟨B,F,sd,r,n⟩:=zh;unfold Y6 at n
 split at n
 .rename_i p ds hi;obtain⟨l,h1,h2,h3,⟨b,h4,h5⟩,h6⟩:=r.own hi
  let B':Bs:=⟨B.F0,B.H0,λj=>if j=i then some (l,b) else B.pa j⟩
  have hx:vR H l (B'.pa i):=⟨b,Zd rfl,h4⟩;have r1:RS X.K B' F H (sd.set i (some (.own true (.lst ds)))) Z:= r.pin hi rfl rfl (λj hj=>Ze hj) λw e _=>by simp_all
  have hl:=h5.length;have L:∀{sd':SD} {h:St} {M v:Hp},jk F M->RS X.K B' M v sd' h->(Xm i (.own p (.lst ds)) sd').need (zq X.K m B F T) (XW X.K E B.F0 B.H0)->T.nx h v:=λ{sd' h M v} sf J R=>by
   unfold Xm at R
   split at R
   .rename_i hp;obtain⟨d',K⟩:=CF hp;obtain⟨w,k1,k2,k3,k4,k5⟩:=J.own K;obtain⟨c,a,A⟩:=k5 rfl;have a:(if i=i then some (l,b) else B.pa i)=some (w,c):=a;rw[Zd rfl] at a;cases a;have ro:RS X.K B' M v (sd'.set i (some (.own true (.lst ds)))) h:=⟨J.ext,by rw[US,J.len],λ{j e} q=>by
     by_cases z:i=j
     .grind
     .rw[Qs z] at q;exact J.val q,λ{j p2 e} q=>by
     by_cases z:i=j
     .subst z;obtain⟨e1,_⟩:=KC q;cases e1;exact⟨l,k1,k2,k3,⟨b,A,jd.same sf _ _ h5⟩,k5⟩
     .rw[Qs z] at q;exact J.own q,λ{j k p1 p2 d1 d2 m} nn q1 q2 q3=>by
     have gg:∀{j:Nat} {p:Bool} {e:D},(sd'.set i (some (.own true (.lst ds))))[j]? = some (some (.own p e))->∃p' e',sd'[j]? = some (some (.own p' e')):=by grind
     obtain⟨_,_,p1⟩:=gg q1;obtain⟨_,_,p2⟩:=gg q2;exact J.apart nn p1 p2 q3⟩
    have hil:i<sd'.length:=(Jc.mp K).1;have rf:=ro.pin (B':=B) (p':=p) (UM hil) rfl rfl () λw e hp=>by
     rw[k1] at e;cases e;obtain⟨xs2,g1,g2⟩:=h6 hp;rw[h4] at g2;cases g2;exact⟨b,g1,A⟩
    rw[List.set_set] at rf;exact R h M v sf rf
   .exact R.elim
  refine⟨.ref l,h1,l,rfl,⟨b,qp.of h4⟩,λk mm Z H=>mm=ds.length-k/\k<=ds.length/\∃S C,jk F S/\RS X.K B' S H C Z /\ (xV i (.own p (.lst ds)) (λx sd=>(JM t x sd).bind g) (ds.drop k) C).need (zq X.K m B F T) (XW X.K E B.F0 B.H0),
   ⟨ds.length,rfl,Ua _,F,_,.refl _,r1,n⟩,?_⟩
  rintro k mm Z2 H2 ⟨rfl,hk,S,C,N,U,f⟩;by_cases G:k<ds.length
  .rw[Uq G] at f;unfold xV at f
   split at f
   .rename_i hp;obtain⟨d',K⟩:=CF hp;obtain⟨w,k1,k2,k3,k4,k5⟩:=U.own K;obtain⟨c,a,A⟩:=k5 rfl;have a:(if i=i then some (l,b) else B.pa i)=some (w,c):=a;rw[Zd rfl] at a;cases a;have hkx:k<b.length:=()
    refine .inr ⟨⟨b,b[k],qp.of A,()⟩,λh v=>∃Y s,jk F Y/\RS X.K B' Y v s h/\(xV i (.own p (.lst ds)) (λx sd=>(JM t x sd).bind g) (ds.drop (k+1)) s).need (zq X.K m B F T) (XW X.K E B.F0 B.H0),
     λh v ⟨Y,s,q1,q2,q3⟩=>⟨ds.length-(k+1),(),rfl,G,Y,s,q1,q2,q3⟩,λx H3 y=>?_⟩
    obtain⟨rfl,hy⟩:=y;have hx:=hy b (qp.of A);obtain⟨d,O,hd2⟩:=h5.getV hx;have ed:ds[k]=d:=by rw[Zqg G] at O;exact Zqi O
    rw[ed] at f;have n3:=ja (ja f);refine Xl U (jf.same N _ _ hd2) n3 λsd' h n4 _ r4=>?_;refine⟨B',S,sd',r4,n4.mono (λo n5=>?_) λ_ _ q=>q⟩;cases o with
    |next u=>exact λZ5 F5 H5 P Q=>⟨F5,u,N.trans P,Q,n5⟩
    |cont u=>exact λZ5 F5 H5 P Q=>⟨F5,u,N.trans P,Q,n5⟩
    |brk u=>exact λZ5 F5 H5 P Q=>L (N.trans P) Q n5
    |ret d=>exact n5
   .exact f.elim
  .have he:k=ds.length:=()
   subst he;rw[UT] at f;unfold xV at f;have I:=f;unfold Xm at I
   split at I
   .rename_i hp;obtain⟨d',K⟩:=CF hp;obtain⟨w,k1,k2,k3,k4,k5⟩:=U.own K;obtain⟨c,a,A⟩:=k5 rfl;have a:(if i=i then some (l,b) else B.pa i)=some (w,c):=a;rw[Zd rfl] at a;cases a;exact .inl ⟨⟨b,qp.of A,()⟩,L N U f⟩
   .exact I.elim
 .exact n.elim
def yh {α β: Type}(f:α -> Res β):List α -> Res (List β)
 | []=>.ok []
 |x::xs=>(f x).bind λy=>(yh f xs).bind λys=>.ok (y::ys)
def jX (cap:List (Option Nat))(sd:SD):SD:=cap.map λo=>o.bind λj=>match sd[j]? with
 |some (some (.val d))=>some (.val d)
 |_=>none
def V9 (sd:SD)(i:Nat):Bool:=match sd[i]? with
 |some none=>true
 |_=>false
def VU (sd:SD):Tg->Bool
 | .one i=>V9 sd i
 | .tup is=>is.all (V9 sd)
def JZ (cap:List (Option Nat))(it:FA)(tg:Tg)(f:FE):FE:=λsd=>(it sd).bind λds=>if VU (jX cap sd) tg=true/\ds.length<sizeLine then
 (yh (λx=>(JM tg x (jX cap sd)).bind f) ds).bind λys=>.ok (.lst ys) else .no
theorem RS.cap {K:W.Frag}{B:Bs}{F H:Hp}{sd:SD}{Z: St}(cap)(r:RS K B F H sd Z):RS K B F H (jX cap sd) (KP cap Z):=by
 have a:∀{i:Nat} {x:SV},(jX cap sd)[i]? = some (some x)->∃j d,cap[i]? = some (some j)/\sd[j]? = some (some (.val d))/\x=.val d:=λ{i x} q=>by
  unfold jX at q;rw[Zv] at q;cases c:cap[i]? with
  |none=>rw[c] at q;exact J5 q
  |some o =>
   rw[c] at q;cases o with
   |none=>cases q
   |some j =>
    have q:(match sd[j]? with
     |some (some (.val d))=>some (SV.val d)
     |_=>none)=some x:=Zqi q
    split at q
    .rename_i d u;exact()
    .exact J5 q
 refine⟨r.ext,by unfold jX KP;rw[Zql,Zql],λ{i d} q=>?_,λ{i p d} q=>?_,λ{i j p p' d e l} _ q=>?_⟩
 .obtain⟨j,n,f,h,b⟩:=a q;cases b;obtain⟨v,s,t⟩:=r.val h;refine⟨v,?_,t⟩;unfold KP;rw[Zv,f];show some (Option.bind (some j) λj=>(Z[j]?).join)=_;rw[Option.bind_some,s];rfl
 .obtain⟨j,n,f,h,b⟩:=a q;cases b
 grind
theorem CG:∀is ds a sd,is.all (V9 a)=true->sd.length=a.length->(∀(i:Nat) x,a[i]? = some (some x)->sd[i]? = some (some x)) ->
 (setAll is ds sd).length=a.length/\∀(i:Nat) x,a[i]? = some (some x)->(setAll is ds sd)[i]? = some (some x)
 | [],ds,a,sd,_,hl,h=>⟨hl,h⟩
 |i::is,[],a,sd,_,hl,h=>⟨hl,h⟩
 |i::is,d::ds,a,sd,hn,hl,h=>by
  rw[Vb,Ue] at hn;refine CG is ds a (sd.set i (some (.val d))) hn.2 (by rw[US,hl]) λj x q=>?_;have ne:i≠j:=λz=>by
   subst z;have:=hn.1;unfold V9 at this;rw[q] at this;exact JC this
  rw[Qs ne];exact h j x q
def CH (a:VU sd0 tg=true)(h:JM tg d sd0=.ok sd):sd0.length=sd.length/\∀(i:Nat) x,sd0[i]? = some (some x)->sd[i]? = some (some x):=by
 cases tg with
 |one i =>
  cases h;have:=CG [i] [d] sd0 sd0 (by rwa [Vb,List.all_nil,Bool.and_true]) rfl λ_ _ q=>q;exact⟨this.1.symm,this.2⟩
 |tup is =>
  cases d with
  |tup ds =>
   have b:JM (.tup is) (.tup ds) sd0=if ds.length=is.length then .ok (setAll is ds sd0) else .no:=rfl
   rw[b] at h
   split at h
   .cases h;have:=CG is ds sd0 sd0 a rfl λ_ _ q=>q;exact⟨this.1.symm,this.2⟩
   .cases h
  |_=>cases h
def Go {α β: Type}{f:α -> Res β}{a:List α}{x:α}{p:List β -> Prop}(l:a[i]? = some x)(h:(yh f (a.drop i)).need p q):(f x).need (λy=>(yh f (a.drop (i+1))).need (λys=>p (y::ys)) q) q:=by
 have b:i<a.length:=();rw[Uq b] at h;have e:a[i]=x:=by simp_all
 rw[e] at h;exact(ja h).mono (λy c=>((ja c).mono (λys j=>j) λ_ _ z=>z)) λ_ _ z=>z
def AK {K:W.Frag}{t:Tg}{fi:FA}{f:FE}{cap:List (Option Nat)}{Z: St}{H:Hp}{Q:VK}(o:vB K E (JZ cap fi t f) Z H Q):Xd cap (bh K E fi) (gT t K) (tD K E f) Z H Q:=by
 obtain⟨B,F,sd,r,n⟩:=o;refine⟨B,F,sd,r,(ja n).mono (λds p J C I l wk=>?_) λ_ _ q=>q⟩
 split at p
 .rename_i o;obtain⟨L,hz⟩:=o;refine⟨λi k ys Z b=>k=ds.length-i/\i<=ds.length/\∃a es,Ext C I a b/\RS K B a b (jX cap sd) Z /\ jd K a es ys/\es.length=i /\
   (yh (λx=>(JM t x (jX cap sd)).bind f) (ds.drop i)).need (λrs=>yc K a b Q (.lst (es++rs))) (XW K E a b),⟨ds.length,rfl,Ua _,C,[],.refl l.fh,(r.step l).cap cap,.nil,rfl,?_⟩,?_⟩
  .exact(ja p).mono (λrs q=>(q).ext l) λ_ _ q=>q.ext l
  rintro i k ys Z2 b ⟨rfl,hi,a,es,s,u,w,hl,z⟩;have ly:=w.length;refine⟨(),?_⟩;obtain⟨M,N⟩:=wk i a b s.ff s.fh;by_cases h:i<ds.length
  .obtain⟨go,O⟩:=M h;refine .inr ⟨go,λx P y=>?_⟩;obtain⟨d,R,S,c,T⟩:=O x P y;have U:=Go S z;have Y:=u.step c;refine Xl Y T (ja U) λsd' Z' n4 hb G=>?_;obtain⟨b1,b2⟩:=CH L hb;refine⟨B,R,sd',G,n4.mono (λy n5 v F4 H4 j i4=>⟨ds.length-(i+1),(),rfl,h,F4,es++[y],(s.trans c).trans j,(G.step j).forget b1 b2,(jd.same (c.ff.trans j.ff) _ _ w).snoc i4,(),n5.mono (λrs q=>?_) λ_ _ q=>q.ext (c.trans j)⟩) λ_ _ q=>q.ext c⟩;rw[Uh];exact q.ext (c.trans j)
  .have he:i=ds.length:=()
   subst he;refine .inl ⟨N (Zf _),λD A=>?_⟩;rw[UT] at z;have q:yc K a b Q (.lst (es++[])):=z;rw[ZA] at q;exact q D a _ (.keep u.ext.fh A _) A (Qd u.ext.fh A) ⟨ys,JL,w⟩
 .exact p.elim
def Kf (N)(cap)(i:X.calm=true)(a:QF scope X.env N X.N cap=true)(j:QI X E tg iter fi)
 (l:∀b C s H c,QG (JJ X scope N b C s H c) tg t) (n:∀b C s H c,QE (JJ X scope N b C s H c) E elt f) (hs:∀x,foldedSetIterable iter X.env x=pure x:=by intro _;rfl):
 QN X E (.ListComp elt [⟨tg,iter,[],0⟩] scope pos) (JZ cap fi t f):=PE.weak (Ow N cap i a j l n hs) λ_ _ _ h=>AK h
def JW (n:Nat)(ds:YG):SD:=ds.map (λd=>some (.val d))++List.replicate (n-ds.length) none
def jK (n ar:Nat)(g:FS)(ds:YG):Res D:=if ds.length=ar then(g (JW n ds)).bind λo=>match o with
 | .ret d=>.ok d
 | .next _=>.ok .non
 |_=>.no else .no
def qx (n ar:Nat)(g:FS)(ds:YG):Res D:=if ds.length=ar then(g (JW n ds)).bind λo=>match o with
 | .ret d=>.ok d
 |_=>.no else .no
theorem RS.start {K:W.Frag}{F H:Hp}{N:Yk}{ds:YG}{c:YE}(s:jk F H)(h:jd K F ds c):RS K ⟨F,H,λ_=>none⟩ F H (JW N.length ds) (start N c):=by
 have a:∀{i:Nat} {x:SV},(JW N.length ds)[i]? = some (some x)->∃d,ds[i]? = some d/\x=.val d:=λ{i x} q=>by
  unfold JW at q;by_cases f:i<ds.length
  .rw[UP (by rwa [Zql]),Zv,Zqg f] at q;exact⟨ds[i],Zqg f,(Zqi (Zqi q)).symm⟩
  .rw[UQ (by rw[Zql];lia),List.getElem?_replicate] at q
   split at q<;>(first|exact J5 q|cases q)
 refine⟨.refl s,by unfold JW L2.start;simp[h.length],λ{i d} q=>?_,λ{i p d} q=>?_,λ{i j p p' d e l} _ q=>?_⟩
 .obtain⟨t,o,b⟩:=a q;cases b;obtain⟨v,n,r⟩:=h.get o;refine⟨v,?_,r⟩;unfold L2.start;rw[UP (by rw[Zql];exact(Jc.mp n).1),Zv,n];rfl
 .obtain⟨_,_,b⟩:=a q;cases b
 .obtain⟨_,_,b⟩:=a q;cases b
section
variable {P:Program}{w:World}{K:W.Frag}{mg:Ye}{base:Heap}{x qual:Str}{f:Addr}{fd:FuncData}{N ps:Yk}{k:Nat}
def xf (F:Fun K x qual st f fd)(S:FnScope N ps (JR st))
 (i:∀b A a s H E,Room k (A.deeper (envOfC qual (JR st) s.heap.objs.size f b))->zN (jW yw P w K mg base N qual (JR st) f b A a s H E).nox E0 false (QL st) g):
 FnOk P w K mg base yw (k+1) f fd ps (xl K (jK N.length ps.length g)):=by
 refine F.ok S (λj H Q E ⟨F,ds,_,h,n⟩=>?_) λb A a s H j Q E l ⟨F,ds,hs,h,n⟩=>⟨_,i b A a s H E l,?_⟩
 .unfold jK at n
  split at n
  .rw[h.length];lia
  .exact n.elim
 .unfold jK at n
  split at n
  .refine⟨⟨F,H,λ_=>none⟩,F,_,RS.start hs h,(ja n).mono (λo c=>?_) λ_ _ q=>q⟩;cases o with
   |next sd=>exact λZ p t _ r=>c .non p t r.ext (jC.mpr rfl)
   |ret d=>exact c
   |brk sd=>exact c.elim
   |cont sd=>exact c.elim
  .exact n.elim
def yW (F:Fun K x qual st f fd)(S:FnScope N ps (JR st))
 (i:∀b A a s H E,Room k (A.deeper (envOfC qual (JR st) s.heap.objs.size f b))->zN (jW yw P w K mg base N qual (JR st) f b A a s H E).nox E0 true (QL st) g):
 FnOk P w K mg base yw (k+1) f fd ps (zL K (qx N.length ps.length g)):=by
 refine F.ok S (λj H Q E ⟨F,ds,_,h,n⟩=>?_) λb A a s H j Q E l ⟨F,ds,hs,h,n⟩=>⟨_,i b A a s H E l,?_⟩
 .unfold qx at n
  split at n
  .rw[h.length];lia
  .exact n.elim
 .unfold qx at n
  split at n
  .refine⟨⟨F,H,λ_=>none⟩,F,_,RS.start hs h,(ja n).mono (λo c=>?_) λ_ _ q=>q⟩;cases o with
   |next sd=>exact c.elim
   |ret d=>exact c
   |brk sd=>exact c.elim
   |cont sd=>exact c.elim
  .exact n.elim
end
end
def qJ (p:Int×Int):D:=.tup [.int p.1,.int p.2]
def js (r:Jz):D:=.tup (r.map qJ)
def AL:D->Option (Int×Int)
 | .tup [.int i,.int j]=>some (i,j)
 |_=>none
def Qt {α: Type}(f:D->Option α):YG->Option (List α)
 | []=>some []
 |d::ds=>(f d).bind λx=>(Qt f ds).map λa=>x::a
def Kg:D->Option Jz
 | .tup ds=>Qt AL ds
 |_=>none
def Y7:D->Option Int
 | .int i=>some i
 |_=>none
theorem Y8 {α β: Type}{f:D->Option α}{g:β -> D}{k:β -> α}(h:∀x,f (g x)=some (k x)):∀l:List β,Qt f (l.map g)=some (l.map k)
 | []=>rfl
 |x::r=>by rw[Zl];unfold Qt;rw[h,Y8 h r];rfl
theorem Y9 {α: Type}{f:D->Option α}{g:α -> D}(h:∀d x,f d=some x->d=g x):∀{ds:YG} {l:List α},Qt f ds=some l->ds=l.map g
 | [],l,e=>by cases e;rfl
 |d::ds,l,e=>by
  unfold Qt at e;cases a:f d with
  |none=>simp_all
  |some x =>
   cases b:Qt f ds with
   |none=>simp_all
   |some c =>
    rw[a,b] at e;obtain rfl:=Zqi e;rw[Zl,<- h d x a,<- Y9 h b]
def Pt (p):AL (qJ p)=some p:=rfl
def Pu (h:AL d=some p):d=qJ p:=by
 cases d with
 |tup ds =>
  cases ds with
  |nil=>exact J5 h
  |cons x ds =>
   cases x with
   |int i =>
    cases ds with
    |nil=>exact J5 h
    |cons y ds =>
     cases y with
     |int j =>
      cases ds with
      |nil=>obtain rfl:=Zqi h;rfl
      |cons _ _=>exact J5 h
     |_=>exact J5 h
   |_=>exact J5 h
 |_=>exact J5 h
theorem CI (r):Kg (js r)=some r:=by
 show Qt AL (r.map qJ)=some r;rw[Y8 (k:=id) Pt,List.map_id]
def Gp (h:Kg d=some r):d=js r:=by
 cases d with
 |tup ds=>unfold js;rw[<- Y9 (λ_ _=>Pu) (h)]
 |_=>exact J5 h
def Pv (h:Y7 d=some i):d=.int i:=by
 cases d with
 |int j=>cases h;rfl
 |_=>exact J5 h
def Pw (h:Qt Y7 ds=some l):ds=l.map D.int:=Y9 (λ_ _=>Pv) h
def Px (l):Qt Y7 (l.map D.int)=some l:=by
 rw[(Y8 (f:=Y7) (λ_=>rfl) l),List.map_id']
theorem YL (l):Qt Kg (l.map js)=some l:=by rw[Y8 (k:=id) CI,List.map_id]
def AM (h:Qt Kg ds=some l):ds=l.map js:=Y9 (λ_ _=>Gp) h
section
variable {K:W.Frag}{H:Hp}
def r9:jf K H (qJ p) v↔Is H (pD p) v:=by
 rfl
theorem uq:∀{r:Jz} {a:YE},jd K H (r.map qJ) a↔qk H (r.map pD) a
 | [],a=>by rfl
 |p::r,a=>by
  constructor
  .rintro⟨x,w,rfl,b,c⟩;exact⟨x,w,rfl,r9.mp b,uq.mp c⟩
  .intro h;obtain⟨x,w,e,b,c⟩:=h;exact⟨x,w,e,r9.mpr b,uq.mpr c⟩
def me:jf K H (js r) v↔Is H (rD r) v:=by
 constructor
 .rintro⟨a,b,e,c,f⟩;exact⟨a,b,e,c,uq.mp f⟩
 .rintro⟨a,b,e,c,f⟩;exact⟨a,b,e,c,uq.mpr f⟩
theorem zY:∀{r:J0} {a:YE},jd K H (r.map js) a↔qk H (r.map rD) a
 | [],a=>by rfl
 |p::r,a=>by
  constructor
  .rintro⟨x,w,rfl,b,c⟩;exact⟨x,w,rfl,me.mp b,zY.mp c⟩
  .intro h;obtain⟨x,w,e,b,c⟩:=h;exact⟨x,w,e,me.mpr b,zY.mpr c⟩
end
section
variable {X:Cx}{E:XK}
def gI (f:Int->Int->D):D->D->YH
 | .int i,.int j=>some (f i j)
 |_,_=>none
def vY (c:Int->Int->Bool)(f:Int->Int->D):D->D->YH
 | .int i,.int j=>if c i j then some (f i j) else none
 |_,_=>none
def YM (o:qZ X h (wY g))(a:∀i j F,jf X.K F (f i j) (g i j)):yr X h (gI f):=qZ.weak o λx y H Q b=>by
 obtain⟨F,d,e,z,c,id,l,hz,q⟩:=b;cases d with
 |int i =>
  cases e with
  |int j=>cases hz;exact⟨i,j,je.mp id,je.mp l,q _ F H (.refl c) (a i j F)⟩
  |_=>exact J5 hz
 |_=>exact J5 hz
def YN (o:qZ X h (rI C g))(b:∀i j,c i j=true->C i j)(l:∀i j F,jf X.K F (f i j) (g i j)):yr X h (vY c f):=qZ.weak o λx y H Q m=>by
 obtain⟨F,d,e,z,n,id,p,hz,q⟩:=m;cases d with
 |int i =>
  cases e with
  |int j =>
   have hz:(if c i j then some (f i j) else none)=some z:=hz
   split at hz
   .rename_i a;cases hz;exact⟨i,j,je.mp id,je.mp p,b i j a,q _ F H (.refl n) (l i j F)⟩
   simp_all
  |_=>exact J5 hz
 |_=>exact J5 hz
def y9 (i)(F):jf X.K F (.int i) (.int i):=je.mpr rfl
def zD (b)(F):jf X.K F (.bl b) (.bl b):=jn.mpr rfl
def xc:=gI λi j=>.int (i-j)
def xY:Nat:=10715086071862673209484250490600018105614048117055336074437503883703510511249361224931983788156958581275946729175531468251871452856923140435984577574698574803934567774824230985421074605062371141877954182153046474983581941267398767559165543946077062914571196477686542167660429831652624386837205668069376
def K0 (i j:Int):Bool:=(Uu i.natAbs 18446744073709551616||Uu j.natAbs 18446744073709551616)||(Uu i.natAbs xY&&Uu j.natAbs xY)
def Gq (h:k.natAbs<xY):Builtin.Int.intBits k<=2 ^ 20:=by
 have e:xY<=2 ^ 1000:=Vw rfl;have a:k.natAbs<2 ^ 1000:=()
 unfold Builtin.Int.intBits
 split
 .exact Ua _
 .have l:k.natAbs.log2<1000:=by
   rcases Vx k.natAbs with h0|hp
   .simp_all
   .exact(Nat.log2_lt (U6 hp)).mpr a
  lia
def Py (h:K0 i j=true):IntMulOk i j:=by
 unfold K0 at h;rw[U7,U7,Ue,UF,UF,UF,UF] at h;rcases h with (h|h)|⟨h1,h2⟩
 .exact .of_left (intBits_le_64 () ())
 .exact .of_right (intBits_le_64 () ())
 .exact .of_bits (Gq h1) (Gq h2)
def Pz:qZ X (binaryOp .Mult) (rI (λi j=>K0 i j=true) λi j=>.int (i*j)):=kB λ_ _ _ _ _ _ _ a q=>mul_int q (Py a)
def xU:=vY K0 λi j=>.int (i*j)
def YO:=vY (λ_ j=>Uu 0 j.toNat&&Uu j.toNat 1073741824) λi j=>.int (i / j)
def xO:=vY (λ_ j=>Uu 0 j.toNat) λi j=>.int (i % j)
def qj:=vY (λi j=>Nat.ble (-j).toNat 0&&(Nat.ble j.toNat 1000000&&Uu i.natAbs 18446744073709551616)) λi j=>.int (i ^ j.toNat)
def nF:=gI λi j=>.bl (decide (i<j))
def vX:=gI λi j=>.bl (decide (i<=j))
def vZ:=gI λi j=>.bl (decide (j<i))
def ub:=gI λi j=>.bl (decide (j<=i))
def Wn:yr X (binaryOp .Sub) xc:=YM Nf λ_ _ F=>y9 _ F
def Xn:yr X (binaryOp .Mult) xU:=YN Pz (λi j h=>h) λ_ _ F=>y9 _ F
def CJ:yr X (binaryOp .FloorDiv) YO:=YN Ng (λi j h=>by simp_all [hX]) λ_ _ F=>y9 _ F
def KS:yr X (binaryOp .Mod) xO:=YN Nh () λ_ _ F=>y9 _ F
def KU:yr X (binaryOp .Pow) qj:=YN Ni (λi j h=>by simp_all [hW]) λ_ _ F=>y9 _ F
def mR:yr X (compareOp .Lt) nF:=YM ku λ_ _ F=>zD _ F
def mS:yr X (compareOp .LtE) vX:=YM ky λ_ _ F=>zD _ F
def ve:yr X (compareOp .Gt) vZ:=YM k7 λ_ _ F=>zD _ F
def mU:yr X (compareOp .GtE) ub:=YM k8 λ_ _ F=>zD _ F
def yC:D->YH
 | .int i=>some (.int (-i))
 |_=>none
def AN:vh X (unaryOp .USub) (mL X.K yC):=vh.weak Nj λx H Q a=>by
 obtain⟨F,d,z,b,id,hz,q⟩:=a;cases d with
 |int i=>cases hz;exact⟨i,je.mp id,q _ F H (.refl b) (y9 _ F)⟩
 |_=>exact J5 hz
def j8:D->D->YH
 | .int i,.int j=>some (.int (i+j))
 | .str x,.str y=>if x.length+y.length<=sizeLine then some (.str (x++y)) else none
 | .tup a,.tup b=>if a ≠ []/\b ≠ []/\a.length+b.length<=sizeLine then some (.tup (a++b)) else none
 | .lst a,.lst b=>if a.length+b.length<=sizeLine then some (.lst (a++b)) else none
 |_,_=>none
def uW (K:W.Frag):R2:=λx y H Q=>∃l b a c,x=.ref l/\y=.ref b/\xo K H l a/\xo K H b c/\a.length+c.length<=sizeLine/\∀p,H p=none->Q (.ref p) (upd H p (.lst (a++c)))
def Gr:qZ X (binaryOp .Add) (uW X.K):=by
 intro Y s Z H x y v u Q I f g h;obtain⟨l,b,w,z,rfl,rfl,i,j,hz,q⟩:=h;obtain rfl:=f;obtain rfl:=g;obtain⟨_,its,n,c,m⟩:=i.ok I.hok;obtain⟨_,a,A,e,o⟩:=j.ok I.hok;have p:=c.length;have r:=e.length;refine PySem.P.add_list m o ?_ ();have t:its.toArray++a.toArray=(its++a).toArray:=by simp
 rw[t];exact⟨.ref _,_,I.lnew (c.append e) (),rfl,q _ I.fresh⟩
def Qg:yr X (binaryOp .Add) j8:=by
 intro Y s Z H x y v u Q I m n ⟨F,d,e,z,c,id,o,hz,q⟩;cases d with
 |int i =>
  cases e with
  |int j=>cases hz;exact Nd Y s Z H x y v u Q I m n ⟨i,j,je.mp id,je.mp o,q _ F H (.refl c) (y9 _ F)⟩
  |_=>exact J5 hz
 |str a =>
  cases e with
  |str b =>
   have hz:(if a.length+b.length<=sizeLine then some (D.str (a++b)) else none)=some z:=hz
   split at hz
   .rename_i B;cases hz;exact Nl Y s Z H x y v u Q I m n ⟨a,b,jq.mp id,jq.mp o,B,q _ F H (.refl c) (jq.mpr rfl)⟩
   simp_all
  |_=>exact J5 hz
 |tup a =>
  cases e with
  |tup b =>
   have hz:(if a ≠ []/\b ≠ []/\a.length+b.length<=sizeLine then some (D.tup (a++b)) else none)=some z:=hz
   split at hz
   .obtain rfl:=Zqi hz;obtain⟨r,f,rfl,t,g⟩:=id;obtain⟨w,ys,rfl,A,h⟩:=o;have C:=g.length;have G:=h.length;have J:f ≠ []:=by grind
    have K:ys ≠ []:=by grind
    refine NG Y s Z H _ _ v u Q I m n ⟨r,w,f,ys,rfl,rfl,(t.same c).sq,(A.same c).sq,J,(),λz=>Zn z K,λ_ p hp=>?_⟩;have l:=qh c hp (.tup (f++ys));exact q _ _ _ l (ju.mpr ⟨p,_,rfl,.of JL,jd.same l.ff _ _ (g.append h)⟩)
   simp_all
  |_=>exact J5 hz
 |lst a =>
  cases e with
  |lst b =>
   have hz:(if a.length+b.length<=sizeLine then some (D.lst (a++b)) else none)=some z:=hz
   split at hz
   .obtain rfl:=Zqi hz;obtain⟨r,f,rfl,t,g⟩:=id;obtain⟨w,ys,rfl,A,h⟩:=o;have C:=g.length;have G:=h.length;refine Gr Y s Z H _ _ v u Q I m n ⟨r,w,f,ys,rfl,rfl,t.same c,A.same c,(),λp hp=>?_⟩;have l:=qh c hp (.lst (f++ys));exact q _ _ _ l (jj.mpr ⟨p,_,rfl,.of JL,jd.same l.ff _ _ (g.append h)⟩)
   simp_all
  |_=>exact J5 hz
 |_=>exact J5 hz
mutual
def ye:D->PyData
 | .non=>.none
 | .bl b=>.bool b
 | .int i=>.int i
 | .str x=>.str x
 | .tup ds=>.tuple (KW ds)
 | .lst ds=>.list (KW ds)
 | .ty _=>.none
 | .scr _=>.none
 | .dct _ _=>.none
 | .ins _ _ _=>.none
 | .exc _=>.none
 | .ucl _=>.none
 | .adr _=>.none
 | .dcf _ _=>.none
 | .pin _ _=>.none
def KW:YG->List PyData
 | []=>[]
 |d::ds=>ye d::KW ds
end
def qy:Nat->D->Bool
 | 0,_=>false
 |_+1,.int _=>true
 |_+1,.str x=>PyData.strOk x
 |_+1,.non=>true
 |n+1,.tup ds=>ds.all (qy n)
 |n+1,.lst ds=>ds.all (qy n)
 |_+1,_=>false
def Xo:∀n d,qy n d=true->(ye d).canLay0=true/\(ye d).depth<=n:=λn=>by
 induction n with
 |zero=>intro _ h;exact JC h
 |succ n a =>
  intro d h;have all:∀ds:YG,ds.all (qy n)=true->PyData.canLayAll0 (KW ds)=true/\PyData.depthAll (KW ds)<=n:=by
   intro ds
   induction ds with
   |nil=>intro _;exact⟨rfl,Ua _⟩
   |cons d ds b =>
    intro h;rw[Vb,Ue] at h;obtain⟨c,e⟩:=a d h.1;obtain⟨f,g⟩:=b h.2;exact⟨Ju.mpr ⟨c,f⟩,Nat.max_le.mpr ⟨e,g⟩⟩
  cases d with
  |int i=>exact⟨rfl,Ua _⟩
  |str i=>exact⟨h,Ua _⟩
  |non=>exact⟨rfl,Ua _⟩
  |tup ds=>exact⟨(all ds h).1,Vr (all ds h).2⟩
  |lst ds=>exact⟨(all ds h).1,Vr (all ds h).2⟩
  |_=>exact JC h
def D.ne {d e:D}(h:(d.ctorIdx == e.ctorIdx)=false):¬d=e:=λq=>by
 simp_all
def CK:∀n d e,qy n d=true->qy n e=true->(PyData.eqv (ye d) (ye e)=true↔d=e):=λn=>by
 induction n with
 |zero=>intro _ _ h;exact JC h
 |succ n b =>
  intro d e h a;have all:∀ds es:YG,ds.all (qy n)=true->es.all (qy n)=true->(PyData.eqvAll (KW ds) (KW es)=true↔ds=es):=by
   intro ds
   induction ds with
   |nil =>
    intro es _ _;cases es with
    |nil=>exact iff_of_true rfl rfl
    |cons e es=>exact Zs Zj ()
   |cons d ds c =>
    intro es f g;cases es with
    |nil=>exact Zs Zj ()
    |cons e es =>
     show(PyData.eqv (ye d) (ye e)&&PyData.eqvAll (KW ds) (KW es))=true↔_
     simp_all
  cases d with
  |int i =>
   cases e with
   |int j=>exact⟨λq=>Zt D.int (Ys.mp q),λq=>Ys.mpr (D.int.inj q)⟩
   |str _=>exact Zs Zj (D.ne rfl)
   |non=>exact Zs Zj (D.ne rfl)
   |tup _=>exact Zs Zj (D.ne rfl)
   |lst _=>exact Zs Zj (D.ne rfl)
   |_=>exact JC a
  |str i =>
   cases e with
   |str j=>exact⟨λq=>Zt D.str (of_decide_eq_true q),λq=>Zp (D.str.inj q)⟩
   |int _=>exact Zs Zj (D.ne rfl)
   |non=>exact Zs Zj (D.ne rfl)
   |tup _=>exact Zs Zj (D.ne rfl)
   |lst _=>exact Zs Zj (D.ne rfl)
   |_=>exact JC a
  |non =>
   cases e with
   |non=>exact iff_of_true rfl rfl
   |int _=>exact Zs Zj (D.ne rfl)
   |str _=>exact Zs Zj (D.ne rfl)
   |tup _=>exact Zs Zj (D.ne rfl)
   |lst _=>exact Zs Zj (D.ne rfl)
   |_=>exact JC a
  |tup ds =>
   cases e with
   |tup es=>exact(all ds es h a).trans ()
   |int _=>exact Zs Zj (D.ne rfl)
   |str _=>exact Zs Zj (D.ne rfl)
   |non=>exact Zs Zj (D.ne rfl)
   |lst _=>exact Zs Zj (D.ne rfl)
   |_=>exact JC a
  |lst ds =>
   cases e with
   |lst es=>exact(all ds es h a).trans ()
   |int _=>exact Zs Zj (D.ne rfl)
   |str _=>exact Zs Zj (D.ne rfl)
   |non=>exact Zs Zj (D.ne rfl)
   |tup _=>exact Zs Zj (D.ne rfl)
   |_=>exact JC a
  |_=>exact JC h
theorem WF {P:Program}{w:World}{K:W.Frag}{H:Hp}{h:Heap}(ok:qQ P w H h):∀n d v u,qy n d=true->jf K H d v->jp v u->∃g,Reads h u (ye d) g
 | 0,_,_,_,p,_,_=>JC p
 |n+1,d,v,u,p,q,r=>by
  have all:∀ds b l,ds.all (qy n)=true->jd K H ds b->jo b l->∃g,ReadsAll h l (KW ds) g:=by
   intro ds
   induction ds with
   |nil =>
    intro b l _ m f;subst m;cases f;exact⟨_,.nil⟩
   |cons d ds z =>
    intro b l hp m f;rw[Vb,Ue] at hp;obtain⟨x,rs,rfl,j,A⟩:=m;cases f with
    |cons B C =>
     obtain⟨g,s⟩:=WF ok n d x _ hp.1 j B;obtain⟨bs,F⟩:=z rs _ hp.2 A C;exact⟨_,.cons s F⟩
  cases d with
  |int i =>
   subst q;obtain⟨t,rfl⟩:=(r);exact⟨_,.int i t⟩
  |str x =>
   subst q;obtain⟨t,rfl⟩:=(r);exact⟨_,.str x t⟩
  |non =>
   subst q;obtain rfl:=r;exact⟨_,.none⟩
  |tup ds =>
   obtain⟨a,b,rfl,f,j⟩:=q;obtain rfl:=r;obtain⟨_,its,y,o,e,c,G,I⟩:=(ok a _ f);obtain⟨g,s⟩:=all ds b its p j y;exact⟨_,.tuple e c I ()⟩
  |lst ds =>
   obtain⟨a,b,rfl,f,j⟩:=q;obtain rfl:=r;obtain⟨_,its,G,y,e⟩:=f.ok ok;obtain⟨g,s⟩:=all ds b its p j y;exact⟨_,.list e rfl rfl ()⟩
  |_=>exact JC p
section
open Classical
def Qq (d e:D):Bool:=decide (d=e)
def Xp (d):Qq d d=true:=Zp rfl
def mi:Qq d e=true↔d=e:=decide_eq_true_iff
def ur:Qq d e=false↔d≠e:=decide_eq_false_iff_not
def xk:D->D->YH
 | .bl a,.bl b=>some (.bl (a == b))
 |d,e=>if qy 12 d&&qy 12 e then some (.bl (Qq d e)) else none
def yV:D->D->YH
 | .bl a,.bl b=>some (.bl (a != b))
 |d,e=>if qy 12 d&&qy 12 e then some (.bl (!Qq d e)) else none
end
def CL (a:qy 12 d=true)(b:qy 12 e=true):xk d e=some (.bl (Qq d e)):=by
 unfold xk
 split
 .exact JC a
 simp_all
def AO (a:qy 12 d=true)(b:qy 12 e=true):yV d e=some (.bl (!Qq d e)):=by
 unfold yV
 split
 .exact JC a
 simp_all
def P0 (i j):xk (.int i) (.int j)=some (.bl (decide (i=j))):=by
 rw[CL rfl rfl];by_cases h:i=j
 .simp_all [Xp]
 .rw[Zo h,ur.mpr ()]
def P1 (i j):yV (.int i) (.int j)=some (.bl (!decide (i=j))):=by
 rw[AO rfl rfl];by_cases h:i=j
 .simp_all [Xp]
 .rw[Zo h,ur.mpr ()]
def xT (n:X.A.units+64<cLine):yr X (compareOp .Eq) xk:=by
 intro Y s Z H x y v u Q I g h ⟨F,d,e,z,c,id,f,hz,q⟩;unfold xk at hz
 split at hz
 .rename_i a b;obtain rfl:=Zqi hz;refine k9 Y s Z H x y v u Q I g h ⟨?_,?_⟩
  .rw[jn.mp id,jn.mp f];rfl
  .rw[jn.mp id,jn.mp f];refine q _ F H (.refl c) ?_;cases a<;>cases b<;>rfl
 .split at hz
  .rename_i hp;rw[Ue] at hp;obtain rfl:=Zqi hz;obtain⟨o,i⟩:=WF I.hok 12 d x v hp.1 (jf.same c _ _ id) g;obtain⟨bs,j⟩:=WF I.hok 12 e y u hp.2 (jf.same c _ _ f) h;have ⟨l,p⟩:=Xo 12 d hp.1;have ⟨m,r⟩:=Xo 12 e hp.2;refine PySem.SeqAt.compareEq_reads i j l m () ?_;rw[(Vf.mpr ((CK 12 d e hp.1 hp.2).trans mi.symm))];exact⟨.bl _,H,I,rfl,q _ F H (.refl c) (zD _ F)⟩
  simp_all
def vd (n:X.A.units+64<cLine):yr X (compareOp .NotEq) yV:=by
 intro Y s Z H x y v u Q I g h ⟨F,d,e,z,c,id,f,hz,q⟩;unfold yV at hz
 split at hz
 .rename_i a b;obtain rfl:=Zqi hz;refine kt Y s Z H x y v u Q I g h ⟨?_,?_⟩
  .rw[jn.mp id,jn.mp f];rfl
  .rw[jn.mp id,jn.mp f];refine q _ F H (.refl c) ?_;cases a<;>cases b<;>rfl
 .split at hz
  .rename_i hp;rw[Ue] at hp;obtain rfl:=Zqi hz;obtain⟨o,i⟩:=WF I.hok 12 d x v hp.1 (jf.same c _ _ id) g;obtain⟨bs,j⟩:=WF I.hok 12 e y u hp.2 (jf.same c _ _ f) h;have ⟨l,p⟩:=Xo 12 d hp.1;have ⟨m,r⟩:=Xo 12 e hp.2;refine PySem.SeqAt.compareNe_reads i j l m () ?_;rw[(Vf.mpr ((CK 12 d e hp.1 hp.2).trans mi.symm))];exact⟨.bl _,H,I,rfl,q _ F H (.refl c) (zD _ F)⟩
  simp_all
end
def PE.or (h:PE X e t)(a:PE X e t'):PE X e (λZ H Q=>t Z H Q\/t' Z H Q):=λY s Z H Q I q=>q.elim (h Y s Z H Q I) (a Y s Z H Q I)
def PT.or (h:PT X e t)(a:PT X e t'):PT X e (λZ H Q=>t Z H Q\/t' Z H Q):=λY s Z H Q I q=>q.elim (h Y s Z H Q I) (a Y s Z H Q I)
def QB:D->Option j5
 | .int i=>some (.inl i)
 | .str x=>some (.inr x)
 |_=>none
def WG {K:W.Frag}{H:Hp}{d:D}{k:j5}{v:V}(h:QB d=some k)(i:jf K H d v):v=kV k:=by
 cases d with
 |int j=>cases h;exact je.mp i
 |str x=>cases h;exact jq.mp i
 |_=>exact J5 h
def jD:List j5->YG->j5->YH
 |k::ks,d::ds,q=>if k=q then some d else jD ks ds q
 |_,_,_=>none
theorem P3 (k q:j5)(v)(r):q0 ((k,v)::r) q=if k=q then some v else q0 r q:=by
 grind[q0,List.find?_cons]
theorem CM:jD (k::ks) (d::ds) q=if k=q then some d else jD ks ds q:=rfl
theorem Xq {K:W.Frag}{H:Hp}(q):∀{ks:List j5} {ds:YG} {a:YE},ks.length=a.length->jd K H ds a ->
 (∀d,jD ks ds q=some d->∃x,q0 (ks.zip a) q=some x/\jf K H d x)/\(jD ks ds q=none->q0 (ks.zip a) q=none)
 | [],ds,a,hl,h=>by
  refine⟨λd e=>?_,λ_=>rfl⟩;cases ds<;>exact J5 e
 |k::ks,[],a,hl,h=>by
  simp_all [jd.nil_iff]
 |k::ks,d::ds,a,hl,h=>by
  obtain⟨x,r,rfl,c,b⟩:=h;have f:=Xq q (UK hl) b
  grind[List.zip_cons_cons,P3,CM]
def zI:List j5->YG->j5->D->YG
 |k::ks,d::ds,q,v=>(if k=q then v else d)::zI ks ds q v
 |_,_,_,_=>[]
def zH:List j5->YE->j5->V->YE
 |k::ks,d::ds,q,v=>(if k=q then v else d)::zH ks ds q v
 |_,_,_,_=>[]
def Gs:zI (k::ks) (d::ds) q v=(if k=q then v else d)::zI ks ds q v:=rfl
def P4:zH (k::ks) (d::ds) q v=(if k=q then v else d)::zH ks ds q v:=rfl
theorem Gu {K:W.Frag}{H:Hp}{q:j5}{d:D}{v:V}(e:jf K H d v):∀{ks:List j5} {ds:YG} {a:YE},ks.length=a.length->jd K H ds a->jd K H (zI ks ds q d) (zH ks a q v)/\(zH ks a q v).length=ks.length /\
 (ks.zip a).map (λc=>if c.1=q then(c.1,v) else c)=ks.zip (zH ks a q v)
 | [],ds,a,hl,h=>by
  refine⟨?_,rfl,rfl⟩;rfl
 |k::ks,[],a,hl,h=>by
  simp_all [jd.nil_iff]
 |k::ks,d'::ds,a,hl,h=>by
  obtain⟨x,r,rfl,j,f⟩:=h;obtain⟨g,i,l⟩:=Gu e (UK hl) f;rw[Gs,P4];refine⟨jd.mk ?_ g,by rw[Zu,i];rfl,?_⟩
  .by_cases b:k=q
   .rwa [Zd b,Zd b]
   .rwa [Ze b,Ze b]
  grind[List.zip_cons_cons,List.map_cons]
def yS (q:j5)(ks:List j5):Bool:=ks.any λk=>decide (k=q)
theorem Gv (q):∀{ks:List j5} {a:YE},ks.length=a.length->((ks.zip a).any λb=>decide (b.1=q))=yS q ks
 | [],a,_=>rfl
 |k::ks,[],h=>by cases h
 |k::ks,x::a,h=>by
  rw[Vo,List.any_cons,Gv q (UK h)];rfl
def VV (ks:List j5)(q:j5):List j5:=if yS q ks=true then ks else ks++[q]
def Wo (ks:List j5)(ds:YG)(q:j5)(v:D):YG:=if yS q ks=true then zI ks ds q v else ds++[v]
def Gw {K:W.Frag}{H:Hp}{q:j5}{d:D}{v:V}{ks:List j5}{ds:YG}{b:YE}(c:ks.length=b.length)(h:jd K H ds b)(e:jf K H d v):
 ∃ys,qA (ks.zip b) q v=(VV ks q).zip ys/\(VV ks q).length=ys.length/\jd K H (Wo ks ds q d) ys:=by
 unfold qA VV Wo;rw[Gv q c];by_cases a:yS q ks=true
 .rw[Zd a,Zd a,Zd a];obtain⟨f,g,i⟩:=Gu e c h;exact⟨_,i,g.symm,f⟩
 .rw[Ze a,Ze a,Ze a];exact⟨b++[v],by rw[List.zip_append c];rfl,by simp[c],h.snoc e⟩
section
variable {X:Cx}{E:XK}{m:Option Bool}{a b o i e:Expr}{fa fb fo fi fv:FE}{pos pos' apos cpos:Pos}
def YP {K:W.Frag}{H:Hp}{ds:YG}{c:YE}{k:Int}{d:D}(h:jd K H ds c)(e:qU ds k=some d):∃x,qU c k=some x/\jf K H d x:=by
 unfold qU at e ⊢;rw[h.length];cases f:y0 ds.length k with
 |none=>simp_all
 |some j =>
  rw[f] at e;exact h.get e
def jF:D->D->YH
 | .lst ds,.int k=>qU ds k
 | .tup ds,.int k=>qU ds k
 | .scr ns,.int k=>(qU ns k).map .int
 | .str x,.int k=>if x.length<=sizeLine then(qU x.cps.toList k).map λc=>.str ⟨#[c]⟩ else none
 | .dct ks ds,k=>(QB k).bind λq=>jD ks ds q
 | .dcf ks ds,k=>(QB k).bind λq=>jD ks ds q
 |_,_=>none
def Gx {K:W.Frag}{H:Hp}{d:D}{ks:List j5}{ds:YG}{v:V}(l:d=.dct ks ds\/d=.dcf ks ds)(h:jf K H d v):∃a c,v=.ref a/\Rd H a (.dK (ks.zip c))/\ks.length=c.length/\jd K H ds c:=by
 rcases l with rfl|rfl
 .obtain⟨a,c,f,g,j⟩:=jZ.mp h;exact⟨a,c,f,.inl g,j⟩
 .obtain⟨a,o,c,f,g,j⟩:=qu.mp h;exact⟨a,c,f,.inr ⟨o,g⟩,j⟩
def CN {H c:Hp}{a:Addr}{u:HO}(e:jk H c)(h:Rd H a u):Rd c a u:=h.imp (λq=>e _ _ q) λ⟨o,q⟩=>⟨o,e _ _ q⟩
def CO {H:Hp}{a:Addr}{c:List (j5×V)}{k:j5}(e:Rd H a (.dK c)):xE H a (kV k) (q0 c k):=.inl ⟨c,k,e,rfl,rfl⟩
def Gy:zg X (vz X.K λd e=>match d with
 | .dct _ _=>none
 | .dcf _ _=>none
 |d=>jF d e):=zg.weak NI λx y H Q ⟨F,d,e,z,f,id,h,hz,q⟩=>by
 cases d with
 |lst ds =>
  cases e with
  |int k =>
   obtain⟨p,n,rfl,g,r⟩:=id;obtain⟨x,l,s⟩:=YP r (hz);exact .inl ⟨p,n,k,x,rfl,je.mp h,(g.same f).sq,l,q _ F H (.refl f) s⟩
  |_=>exact J5 hz
 |tup ds =>
  cases e with
  |int k =>
   obtain⟨p,n,rfl,g,r⟩:=id;obtain⟨x,l,s⟩:=YP r (hz);exact .inr (.inl ⟨p,n,k,x,rfl,je.mp h,(g.same f).sq,l,q _ F H (.refl f) s⟩)
  |_=>exact J5 hz
 |scr ns =>
  cases e with
  |int k =>
   obtain⟨p,rfl,g⟩:=id;obtain⟨j,v,hz⟩:=Jk.mp (hz);subst hz;refine .inl ⟨p,_,k,.int j,rfl,je.mp h,jk.seq f g,?_,q _ F H (.refl f) (y9 _ F)⟩;unfold qU at v ⊢;cases l:y0 ns.length k with
   |none=>simp_all
   |some i=>simp_all
  |_=>exact J5 hz
 |str t =>
  cases e with
  |int k =>
   have hz:(if t.length<=sizeLine then(qU t.cps.toList k).map λc=>D.str ⟨#[c]⟩ else none)=some z:=hz
   split at hz
   .rename_i w;cases u:qU t.cps.toList k with
    |none=>rw[u] at hz;exact J5 hz
    |some c =>
     rw[u] at hz;obtain rfl:=Zqi hz;exact .inr (.inr ⟨t,k,c,jq.mp id,je.mp h,w,u,q _ F H (.refl f) (jq.mpr rfl)⟩)
   simp_all
  |_=>exact J5 hz
 |_=>exact J5 hz
def Ql (C:X.A.units+1<cLine)(t:QE X E a fa)(u:QE X E b fb)(hs:Xb b)(j:ww b):QE X E (.Subscript a b pos) (jl jF fa fb):=
 PE.weak (PE.or (Ch C t u j) (XJ (Gy) t u hs)) λZ H Q h=>by
  obtain⟨B,F,sd,r,n⟩:=h;by_cases l:∃d ks ds,fa sd=.ok d/\(d=.dct ks ds\/d=.dcf ks ds)
  .obtain⟨d,ks,ds,l,A⟩:=l;refine .inl ⟨B,F,sd,r,(ja n).monoE (λx f G v I T g J=>?_) λ_ _ q=>q⟩;rw[l] at f;cases f;refine⟨B,I,sd,r.step g,(ja G).mono (λy K w L M s N=>?_) λ_ _ q=>q.ext g⟩;obtain⟨z,hz,q⟩:=jg K;obtain⟨k,O,hz⟩:=Jg.mp (show(QB y).bind (λq=>jD ks ds q)=some z by rcases A with rfl|rfl<;>exact hz);obtain⟨p,U,rfl,P,R,S⟩:=Gx A J;obtain⟨x,f,ix⟩:=(Xq k R S).1 z hz;refine⟨p,x,rfl,?_,q x L M (g.trans s) (jf.same s.ff _ _ ix)⟩;rw[WG O N,<- f];exact CO (CN s.hh (CN g.fh P))
  .refine .inr (Y1 ⟨B,F,sd,r,?_⟩);unfold jl at n ⊢;cases f:fa sd with
   |ok d =>
    simp_all
   |no=>simp_all
   |ex c fs=>simp_all
def wI (c:Bool):D->D->YH
 |k,.dct ks ds=>(QB k).map λq=>.bl (if c then !(jD ks ds q).isSome else(jD ks ds q).isSome)
 |k,.dcf ks ds=>(QB k).map λq=>.bl (if c then !(jD ks ds q).isSome else(jD ks ds q).isSome)
 |d,.lst ds=>if qy 12 d&&ds.all (qy 12) then some (.bl (if c then !ds.any (λe=>Qq e d) else ds.any λe=>Qq e d)) else none
 |d,.tup ds=>if qy 12 d&&ds.all (qy 12) then some (.bl (if c then !ds.any (λe=>Qq e d) else ds.any λe=>Qq e d)) else none
 |_,_=>none
theorem Gz {K:W.Frag}{H:Hp}:∀n d e v,qy n d=true->qy n e=true->jf K H d v->jf K H e v->d=e
 | 0,_,_,_,h,_,_,_=>by exact JC h
 |n+1,d,e,v,hd,he,f,c=>by
  have all:∀ds es g,ds.all (qy n)=true->es.all (qy n)=true->jd K H ds g->jd K H es g->ds=es:=by
   intro ds
   induction ds with
   |nil =>
    intro es g _ _ f c;rw[jd.nil_iff] at f;subst f;have:=c.length
    grind
   |cons d ds A =>
    intro es g w y f c;rw[Vb,Ue] at w;rw[jr] at f;obtain⟨x,r,rfl,B,C⟩:=f;cases es with
    |nil=>rw[jd.nil_iff] at c;cases c
    |cons e es =>
     rw[Vb,Ue] at y;rw[jr] at c;obtain⟨J,L,t,F,G⟩:=c;cases t;rw[Gz n d e x w.1 y.1 B F,A es r w.2 y.2 C G]
  have ne:∀{a:Addr} {g ys:YE},ym K H a g->xo K H a ys->False:=λ{a g ys} p l=>by
   rcases l with l|⟨o,l⟩
   .rw[p] at l;cases l
   .rw[p] at l;cases l
  cases d with
  |int i =>
   rw[je] at f;subst f;cases e with
   |int j=>rw[je] at c;cases c;rfl
   |str j=>rw[jq] at c;cases c
   |non=>rw[jC] at c;cases c
   |tup es=>grind[ju]
   |lst es=>grind[jj]
   |_=>exact JC he
  |str i =>
   rw[jq] at f;subst f;cases e with
   |int j=>rw[je] at c;cases c
   |str j=>rw[jq] at c;cases c;rfl
   |non=>rw[jC] at c;cases c
   |tup es=>simp_all [ju]
   |lst es=>simp_all [jj]
   |_=>exact JC he
  |non =>
   rw[jC] at f;subst f;cases e with
   |int j=>rw[je] at c;cases c
   |str j=>rw[jq] at c;cases c
   |non=>rfl
   |tup es=>grind[ju]
   |lst es=>grind[jj]
   |_=>exact JC he
  |tup ds =>
   rw[ju] at f;obtain⟨a,g,rfl,p,l⟩:=f;cases e with
   |int j=>rw[je] at c;cases c
   |str j=>simp_all [jq]
   |non=>simp_all [jC]
   |tup es =>
    rw[ju] at c;obtain⟨I,q,t,s,z⟩:=c;cases t;have u:H a=some (.tup g):=p;rw[show H a=some (.tup q) from s] at u;cases u;rw[all ds es _ hd he l z]
   |lst es =>
    grind[jj]
   |_=>exact JC he
  |lst ds =>
   rw[jj] at f;obtain⟨a,g,rfl,p,l⟩:=f;cases e with
   |int j=>rw[je] at c;cases c
   |str j=>cases c
   |non=>cases c
   |tup es =>
    grind[ju]
   |lst es =>
    rw[jj] at c;obtain⟨I,q,t,s,z⟩:=c;cases t;have:g=q:=by
     rcases p with p|⟨_,p⟩<;>rcases s with s|⟨_,s⟩<;>rw[p] at s<;>cases s<;>rfl
    subst this;rw[all ds es _ hd he l z]
   |_=>exact JC he
  |_=>exact JC hd
def fX (K:W.Frag)(H:Hp)(d:D)(u:Value):Prop:=∃v,jp v u/\jf K H d v
def xB (K:W.Frag)(H:Hp)(d:D)(u:Value):Bool:=@decide (fX K H d u) (Classical.propDecidable _)
def P5 {K:W.Frag}{H:Hp}{d e:D}{v:V}{u:Value}(f:qy 12 d=true)(g:qy 12 e=true)(h:jf K H e v)(r:jp v u):xB K H d u=Qq e d:=by
 by_cases q:e=d
 .rw[q,Xp];exact @decide_eq_true _ (Classical.propDecidable _) ⟨v,r,q ▸ h⟩
 .rw[ur.mpr q];refine @decide_eq_false _ (Classical.propDecidable _) λ⟨l,j,c⟩=>q ?_;rw[j.inj r] at c;exact Gz 12 e d v g f h c
def G0 {P:Program}{w:World}{K:W.Frag}{A:Around}{s:Shared}{H:Hp}(B:A.units+60<cLine)(ok:qQ P w H s.heap){d:D}{x:V}{v:Value}(hp:qy 12 d=true)(p:jf K H d x)(q:jp x v):
 ∀{ds:YG} {g:YE} {f:Yf},ds.all (qy 12)=true->jd K H ds g->jo g f->f.map (xB K H d)=ds.map (λe=>Qq e d)/\∀u∈f,SeqAt.EqAt A s u v (xB K H d u):=by
 intro ds
 induction ds with
 |nil =>
  intro g f _ h j;subst h;cases j;simp
 |cons e ds r =>
  intro g f c h j;rw[Vb,Ue] at c;obtain⟨y,rs,rfl,l,t⟩:=h;cases j with
  |cons n z =>
   obtain⟨C,F⟩:=r c.2 t z;obtain⟨G,I⟩:=WF ok 12 e y _ c.1 l n;obtain⟨J,L⟩:=WF ok 12 d x v hp p q;obtain⟨M,N⟩:=Xo 12 e c.1;obtain⟨O,Q⟩:=Xo 12 d hp;have es:=P5 hp c.1 l n;refine⟨(),λu hm=>?_⟩;rcases UV.mp hm with hm|hm
   .subst hm;rw[es,<- (Vf.mpr ((CK 12 e d c.1 hp).trans mi.symm):PyData.eqv (ye e) (ye d)=Qq e d)]
    grind[SeqAt.eqAt_reads]
   simp_all
def AQ {α: Type}{f:α -> Bool}{l:List α}:l.any f=(l.map f).any id:=()
def P6 (C:X.A.units+64<cLine)(c:Bool):qZ X (compareOp (if c then .NotIn else .In)) (vz X.K λd e=>match e with
 | .dct _ _=>none
 | .dcf _ _=>none
 |e=>wI c d e):=by
 intro Y s Z H x y v u Q I r t ⟨F,d,e,z,f,id,h,hz,q⟩;have id':=jf.same f _ _ id;cases e with
 |lst ds =>
  have hz:(if qy 12 d&&ds.all (qy 12) then some (D.bl (if c then !ds.any (λe=>Qq e d) else ds.any λe=>Qq e d)) else none)=some z:=hz
  split at hz
  .rename_i hp;rw[Ue] at hp;obtain rfl:=Zqi hz;rw[jj] at h;obtain⟨p,w,rfl,j,l⟩:=h;obtain rfl:u=Value.ref p:=t;obtain⟨its,n,pl,B⟩:=I.list (j.same f).sq;obtain⟨k1,k2⟩:=G0 (A:=X.A.in1) (by show X.A.units+1+60<cLine;lia) I.hok hp.1 id' r hp.2 (jd.same f _ _ l) n;have g:its.toArray.any (xB X.K H d)=ds.any (λe=>Qq e d):=by
    rw[show its.toArray.any (xB X.K H d)=its.any (xB X.K H d) by simp,AQ,k1,<- AQ]
   cases c with
   |true =>
    refine SeqAt.notIn_listAt (xB X.K H d) pl.isList () ⟨.bl _,H,I,rfl,?_⟩;rw[g];exact q _ F H (.refl f) (zD _ F)
   |false =>
    refine SeqAt.in_listAt (xB X.K H d) pl.isList () ⟨.bl _,H,I,rfl,?_⟩;rw[g];exact q _ F H (.refl f) (zD _ F)
  simp_all
 |tup ds =>
  have hz:(if qy 12 d&&ds.all (qy 12) then some (D.bl (if c then !ds.any (λe=>Qq e d) else ds.any λe=>Qq e d)) else none)=some z:=hz
  split at hz
  .rename_i hp;rw[Ue] at hp;obtain rfl:=Zqi hz;obtain⟨p,w,rfl,j,l⟩:=h;obtain rfl:=t;obtain⟨its,n,pl,B⟩:=I.tuple (j.same f).sq;obtain⟨k1,k2⟩:=G0 (A:=X.A.in1) (by show X.A.units+1+60<cLine;lia) I.hok hp.1 id' r hp.2 (jd.same f _ _ l) n;have g:its.toArray.any (xB X.K H d)=ds.any (λe=>Qq e d):=by
    rw[show its.toArray.any (xB X.K H d)=its.any (xB X.K H d) by simp,AQ,k1,<- AQ]
   cases c with
   |true =>
    refine SeqAt.notIn_tupleAt (xB X.K H d) pl () ⟨.bl _,H,I,rfl,?_⟩;rw[g];exact q _ F H (.refl f) (zD _ F)
   |false =>
    refine SeqAt.in_tupleAt (xB X.K H d) pl () ⟨.bl _,H,I,rfl,?_⟩;rw[g];exact q _ F H (.refl f) (zD _ F)
  simp_all
 |_=>exact J5 hz
def uB {K:W.Frag}{f:Bool}{Z: St}{H:Hp}{Q:VK}(h:tD K E (jl (wI f) fa fb) Z H Q):
 (λZ H Q=>tD K E fa Z H λy u=>tD K E fb Z u λx j=>∃a o,x=.ref a/\xE j a y o/\Q (.bl (if f then !o.isSome else o.isSome)) j) Z H Q\/vy (vz K λd e=>match e with
 | .dct _ _=>none
 | .dcf _ _=>none
 |e=>wI f d e) (tD K E fa) (tD K E fb) Z H Q:=by
 obtain⟨B,F,sd,r,n⟩:=h;by_cases l:∃d ks ds,fb sd=.ok d/\(d=.dct ks ds\/d=.dcf ks ds)
 .obtain⟨d,ks,ds,l,A⟩:=l;refine .inl ⟨B,F,sd,r,(ja n).mono (λx J v L u s M=>⟨B,L,sd,r.step s,(ja J).monoE (λy g N w O j C P=>?_) λ_ _ q=>q.ext s⟩) λ_ _ q=>q⟩;rw[l] at g;cases g;obtain⟨z,hz,q⟩:=jg N;obtain⟨k,R,hz⟩:=Jk.mp (show(QB x).map (λq=>D.bl (if f then !(jD ks ds q).isSome else(jD ks ds q).isSome))=some z by rcases A with rfl|rfl<;>exact hz);subst hz;obtain⟨p,G,rfl,S,T,U⟩:=Gx A P;obtain⟨Y,g2⟩:=Xq k T U;refine⟨p,q0 (ks.zip G) k,rfl,?_,?_⟩
  .rw[WG R M];exact CO (CN C.fh S)
  .have es:(q0 (ks.zip G) k).isSome=(jD ks ds k).isSome:=by
    cases I:jD ks ds k with
    |none=>rw[g2 I];rfl
    |some d=>obtain⟨x,t,_⟩:=Y d I;rw[t];rfl
   rw[es];exact q _ O j (s.trans C) (jn.mpr rfl)
 .refine .inr (Y1 ⟨B,F,sd,r,?_⟩);unfold jl at n ⊢;cases t:fa sd with
  |ok d =>
   rw[t] at n;cases g:fb sd with
   |ok e =>
    simp_all
   |no=>rwa [g] at n
   |ex c fs=>rwa [g] at n
  |no=>simp_all
  |ex c fs=>simp_all
def CP (j:X.A.units+64<cLine)(c:QE X E a fa)(f:QE X E b fb)(g:behindInMarks .NotIn b=false:=by rfl):QT X E (.Compare a [.NotIn] [b] pos) (JD (jl (wI true) fa fb)):=
 PT.weak (PT.or (E3 (NX () c f) g) (BX (P6 j true) c f g)) λZ H Q h=>uB (Y2 h)
end
section
variable {X:Cx}{E:XK}{m:Option Bool}{a b o i e f tg:Expr}{fa fb fo fi fv:FE}{fr:FA}{pos pos' apos cpos p:Pos}
theorem Qu {K:W.Frag}{H:Hp}{d:D}{c:YE}(h:jd K H [d] c):∃v,c=[v]/\jf K H d v:=by
 simp_all [jr,jd.nil_iff]
def G1 {K:W.Frag}{H:Hp}{d e:D}{c:YE}(h:jd K H [d,e] c):∃v w,c=[v,w]/\jf K H d v/\jf K H e w:=by
 grind[jr,Qu]
def jT:YG->YH
 | [.lst ds]=>some (.int ds.length)
 | [.tup ds]=>some (.int ds.length)
 | [.dct ks _]=>some (.int ks.length)
 | [.scr ns]=>some (.int ns.length)
 | [.str x]=>if x.length<=sizeLine then some (.int x.length) else none
 |_=>none
def r0 (ds:YG)(z:D):Prop:=(∃es,ds=[.lst es]/\z=.int es.length)\/(∃es,ds=[.tup es]/\z=.int es.length)\/(∃ks es,ds=[.dct ks es]/\z=.int ks.length)\/(∃ns,ds=[.scr ns]/\z=.int ns.length)\/∃x,x.length<=sizeLine/\ds=[.str x]/\z=.int x.length
def P7 (hz:jT ds=some z):r0 ds z:=by
 cases ds with
 |nil=>exact J5 hz
 |cons d ds =>
  cases ds with
  |nil =>
   cases d with
   |lst ds=>exact .inl ⟨_,rfl,(Zqi hz).symm⟩
   |tup ds=>exact .inr (.inl ⟨_,rfl,(Zqi hz).symm⟩)
   |dct ks ds=>exact .inr (.inr (.inl ⟨_,_,rfl,(Zqi hz).symm⟩))
   |scr ns=>exact .inr (.inr (.inr (.inl ⟨_,rfl,(Zqi hz).symm⟩)))
   |str x=>exact let q:=Po hz;.inr (.inr (.inr (.inr ⟨_,q.1,rfl,q.2.symm⟩)))
   |_=>exact J5 hz
  |cons e ds=>cases d<;>exact J5 hz
def Kh:jO X (.builtin "len") (we X.K jT):=jO.weak (jO.or NK (jO.or Om NL)) λr H Q l=>by
 obtain⟨F,ds,z,c,id,hz,q⟩:=l;rcases P7 hz with ⟨es,rfl,rfl⟩|⟨es,rfl,rfl⟩|⟨ks,es,rfl,rfl⟩|⟨ns,rfl,rfl⟩|⟨x,n,rfl,rfl⟩
 .obtain⟨v,rfl,h⟩:=Qu id;obtain⟨a,ys,rfl,g,j⟩:=h;rw[<- j.length] at q;exact .inl ⟨a,ys,rfl,.inl (g.same c).sq,q _ F H (.refl c) (y9 _ F)⟩
 .obtain⟨v,rfl,h⟩:=Qu id;obtain⟨a,ys,rfl,g,j⟩:=h;rw[<- j.length] at q;exact .inl ⟨a,ys,rfl,.inr (g.same c).sq,q _ F H (.refl c) (y9 _ F)⟩
 .obtain⟨v,rfl,h⟩:=Qu id;obtain⟨a,ys,rfl,g,j,s⟩:=h;refine .inr (.inl ⟨a,_,rfl,c _ _ g,?_⟩);rw[List.length_zip,<- j,Nat.min_self];exact q _ F H (.refl c) (y9 _ F)
 .obtain⟨v,rfl,h⟩:=Qu id;obtain⟨a,rfl,g⟩:=h;refine .inl ⟨a,_,rfl,.inl (jk.seq c g),?_⟩;rw[Zql];exact q _ F H (.refl c) (y9 _ F)
 .obtain⟨v,rfl,h⟩:=Qu id;subst h;exact .inr (.inr ⟨_,rfl,n,q _ F H (.refl c) (y9 _ F)⟩)
def YQ:YG->YH
 | [.int i,.int j]=>some (.int (if j > i then j else i))
 |_=>none
def AR:YG->YH
 | [.int i,.int j]=>some (.int (if j<i then j else i))
 |_=>none
def G2 (ds:YG):Prop:=∃i j,ds=[.int i,.int j]
def P8 (hz:YQ ds=some z):G2 ds:=by
 cases ds with
 |nil=>exact J5 hz
 |cons d ds =>
  cases ds with
  |nil=>cases d<;>exact J5 hz
  |cons e ds =>
   cases d with
   |int i =>
    cases e with
    |int j =>
     cases ds with
     |nil=>exact⟨_,_,rfl⟩
     |cons _ _=>exact J5 hz
    |_=>exact J5 hz
   |_=>exact J5 hz
def P9 (hz:AR ds=some z):G2 ds:=by
 cases ds with
 |nil=>exact J5 hz
 |cons d ds =>
  cases ds with
  |nil=>cases d<;>exact J5 hz
  |cons e ds =>
   cases d with
   |int i =>
    cases e with
    |int j =>
     cases ds with
     |nil=>exact⟨_,_,rfl⟩
     |cons _ _=>exact J5 hz
    |_=>exact J5 hz
   |_=>exact J5 hz
def G3 (c:X.calm=true):jO X (.builtin "max") (we X.K YQ):=jO.weak (Nm c) λr H Q g=>by
 obtain⟨F,ds,z,h,id,hz,q⟩:=g;obtain⟨i,j,rfl⟩:=P8 hz;obtain rfl:=Zqi hz;obtain⟨v,w,rfl,l,n⟩:=G1 id;exact⟨_,_,by rw[je.mp l,je.mp n],q _ F H (.refl h) (y9 _ F)⟩
def PB (c:X.calm=true):jO X (.builtin "min") (we X.K AR):=jO.weak (No c) λr H Q g=>by
 obtain⟨F,ds,z,h,id,hz,q⟩:=g;obtain⟨i,j,rfl⟩:=P9 hz;obtain rfl:=Zqi hz;obtain⟨v,w,rfl,l,n⟩:=G1 id;exact⟨_,_,by rw[je.mp l,je.mp n],q _ F H (.refl h) (y9 _ F)⟩
def Xr:D->Option Yh
 | .lst ds=>Qt Y7 ds
 |_=>none
def CQ {K:W.Frag}{H:Hp}{d:D}{ns:Yh}{v:V}(h:Xr d=some ns)(i:jf K H d v):∃a,v=.ref a/\xo K H a (ns.map V.int):=by
 cases d with
 |lst ds =>
  obtain⟨a,j,rfl,g,c⟩:=i;rw[Pw (h)] at c;rw[qz c] at g
  simp_all
 |_=>exact J5 h
def CS (ns):Xr (.lst (ns.map D.int))=some ns:=Px ns
def WH:YG->YH
 | [d]=>(Xr d).bind λns=>if ns=[] then none else some (.int (qK ns))
 |_=>none
def Xs:YG->YH
 | [d]=>(Xr d).bind λns=>if ns=[] then none else some (.int (xb ns))
 |_=>none
def G4 (g:X.calm=true):jO X (.builtin "max") (we X.K WH):=jO.weak (Oz g) λs H Q j=>by
 obtain⟨F,ds,z,c,id,hz,q⟩:=j;unfold WH at hz
 split at hz
 .obtain⟨ns,l,hz⟩:=Jg.mp hz
  split at hz
  .exact J5 hz
  .rename_i n;obtain rfl:=Zqi hz;obtain⟨v,rfl,h⟩:=Qu id;obtain⟨a,rfl,r⟩:=CQ l h;exact⟨a,ns,rfl,(r.same c).sq,n,q _ F H (.refl c) (y9 _ F)⟩
 simp_all
def G8 (g:X.calm=true):jO X (.builtin "min") (we X.K Xs):=jO.weak (O0 g) λs H Q j=>by
 obtain⟨F,ds,z,c,id,hz,q⟩:=j;unfold Xs at hz
 split at hz
 .obtain⟨ns,l,hz⟩:=Jg.mp hz
  split at hz
  .exact J5 hz
  .rename_i n;obtain rfl:=Zqi hz;obtain⟨v,rfl,h⟩:=Qu id;obtain⟨a,rfl,r⟩:=CQ l h;exact⟨a,ns,rfl,(r.same c).sq,n,q _ F H (.refl c) (y9 _ F)⟩
 simp_all
def pb:D->Option String
 | .non=>some "NoneType"
 | .bl _=>some "bool"
 | .int _=>some "int"
 | .str _=>some "str"
 | .lst _=>some "list"
 | .tup _=>some "tuple"
 | .dct _ _=>some "dict"
 |_=>none
def mo (t n:String):Bool:=(t == n)||(t == "bool" && n == "int")
def PF (t n:String):Bool:=["NoneType", "bool", "int", "str", "list", "tuple", "dict"].contains t&&["bool", "int", "str", "list", "tuple", "dict"].contains n
def vE:YG->YH
 | [d,.ty n]=>(pb d).bind λt=>if PF t n then some (.bl (mo t n)) else none
 |_=>none
def KF:YG->YH
 | [.lst ds]=>some (.lst ds)
 | [.tup ds]=>some (.lst ds)
 | [.scr ns]=>some (.lst (ns.map .int))
 |_=>none
def hO (ds:YG)(z:D):Prop:=(∃es,ds=[.lst es]/\z=.lst es)\/(∃es,ds=[.tup es]/\z=.lst es)\/∃ns,ds=[.scr ns]/\z=.lst (ns.map .int)
def PH (hz:KF ds=some z):hO ds z:=by
 cases ds with
 |nil=>exact J5 hz
 |cons d ds =>
  cases ds with
  |nil =>
   cases d with
   |lst ds=>exact .inl ⟨_,rfl,(Zqi hz).symm⟩
   |tup ds=>exact .inr (.inl ⟨_,rfl,(Zqi hz).symm⟩)
   |scr ns=>exact .inr (.inr ⟨_,rfl,(Zqi hz).symm⟩)
   |_=>exact J5 hz
  |cons e ds=>cases d<;>exact J5 hz
def AS:jO X (.type "list") (wd X.K KF):=jO.weak NM λt H Q s=>by
 obtain⟨F,ds,z,g,id,hz,q⟩:=s;have c:∀{es:YG} {ys:YE},jd X.K F es ys->yc X.K F H Q (.lst es)->∀l,H l=none->Q (.ref l) (upd H l (.lst ys)):=λ{es ys} h q l n =>
  q l F _ (.keep g n _) n (Qd g n) ⟨ys,JL,h⟩
 rcases PH hz with ⟨es,rfl,rfl⟩|⟨es,rfl,rfl⟩|⟨ns,rfl,rfl⟩
 .obtain⟨v,rfl,h⟩:=Qu id;obtain⟨a,ys,rfl,j,r⟩:=h;exact⟨a,ys,rfl,.inl (j.same g).sq,c r q⟩
 .obtain⟨v,rfl,h⟩:=Qu id;obtain⟨a,ys,rfl,j,r⟩:=h;exact⟨a,ys,rfl,.inr (j.same g).sq,c r q⟩
 .obtain⟨v,rfl,h⟩:=Qu id;obtain⟨a,rfl,j⟩:=h;exact⟨a,_,rfl,.inl (jk.seq g j),c (qg _) q⟩
def WI:YG->YH
 | [.lst ds]=>some (.tup ds)
 | [.tup ds]=>some (.tup ds)
 |_=>none
def rm (ds:YG)(z:D):Prop:=(∃es,ds=[.lst es]/\z=.tup es)\/∃es,ds=[.tup es]/\z=.tup es
def PJ (hz:WI ds=some z):rm ds z:=by
 cases ds with
 |nil=>exact J5 hz
 |cons d ds =>
  cases ds with
  |nil =>
   cases d with
   |lst ds=>exact .inl ⟨_,rfl,(Zqi hz).symm⟩
   |tup ds=>exact .inr ⟨_,rfl,(Zqi hz).symm⟩
   |_=>exact J5 hz
  |cons e ds=>cases d<;>exact J5 hz
def AT:jO X (.type "tuple") (we X.K WI):=jO.weak NN λu H Q r=>by
 obtain⟨F,ds,z,c,id,hz,q⟩:=r;rcases PJ hz with ⟨es,rfl,rfl⟩|⟨es,rfl,rfl⟩
 .obtain⟨v,rfl,h⟩:=Qu id;obtain⟨a,ys,rfl,g,j⟩:=h;refine⟨a,ys,rfl,.inl ⟨(g.same c).sq,λl s=>?_⟩⟩;have n:=qh c s (.tup ys);exact q _ _ _ n (ju.mpr ⟨l,ys,rfl,.of JL,jd.same n.ff _ _ j⟩)
 .obtain⟨v,rfl,h⟩:=Qu id;have t:=h;obtain⟨a,ys,rfl,g,j⟩:=h;exact⟨a,ys,rfl,.inr ⟨(g.same c).sq,q _ F H (.refl c) t⟩⟩
def xX (r:Jz):D:=.dct (r.map λp=>.inl p.1) (r.map λp=>.int p.2)
def Xt (r:Jz):Jz:=r.foldl (λa p=>qI a p.1 p.2) []
def PK (r):Av r=x9 (Xt r):=Ge r []
def PM (h:j4 r):Xt r=r:=by
 grind[Xt,Gf]
def G9 (r):x9 r=(r.map λp=>(Uf p.1:j5)).zip (r.map λp=>V.int p.2):=by
 grind[x9,List.map_cons]
def PN (K)(F)(r:Jz):jd K F (r.map λp=>D.int p.2) (r.map λp=>V.int p.2):=by
 have:=qg (K:=K) (H:=F) (r.map (·.2))
 rwa [Zw,Zw] at this
def WJ:YG->YH
 | [d]=>(Kg d).bind λr=>if r.length<=100 then some (xX (Xt r)) else none
 |_=>none
def CT (g:X.calm=true):jO X (.type "dict") (wd X.K WJ):=jO.weak (O5 g) λj H Q l=>by
 obtain⟨F,ds,z,c,id,hz,q⟩:=l;unfold WJ at hz
 split at hz
 .obtain⟨r,n,hz⟩:=Jg.mp hz
  split at hz
  .rename_i s;obtain rfl:=Zqi hz;obtain⟨v,rfl,h⟩:=Qu id;rw[Gp n,me] at h;obtain⟨a,ys,e,_⟩:=(show ∃a j,v=.ref a/\_ by unfold rD at h;rwa [yH] at h);subst e;refine⟨a,r,rfl,(Is.same c _ _ h),s,λp hp=>(q p F _ (.keep c hp _) hp (Qd c hp) ⟨(Xt r).map λp=>V.int p.2,?_,(),PN _ _ _⟩)⟩;rw[JL,PK,G9]
  .exact J5 hz
 simp_all
def fI:FE:=λ_=>.ok (.dct [] [])
def PP:QN X E (.Dict [] [] pos) fI:=PE.weak Oa λZ H Q ⟨B,F,sd,r,n⟩=>λp hp=>n p F _ (.keep r.ext.fh hp _) hp (Qd r.ext.fh hp) ⟨[],JL,rfl,.nil⟩
def AU (fo c g:FE):FE:=λsd=>(fo sd).bind λd=>match d with
 | .dct ks ds=>(c sd).bind λk=>(g sd).bind λx=>.ofO ((QB k).map λq=>(jD ks ds q).getD x)
 |_=>.no
def PQ (C:X.A.units+1<cLine)(G:QE X E o fo)(I:QE X E e fa)(J:QE X E f fb)(K:M2 X o "get" apos e f cpos):QE X E (.Call (.Attribute o "get" apos) [e,f] [] cpos) (AU fo fa fb):=PE.weak (Oe C G I J K) λZ H Q L=>by
 obtain⟨B,F,sd,r,n⟩:=L;refine⟨B,F,sd,r,(ja n).mono (λd s v M H1 c N=>?_) λ_ _ q=>q⟩;cases d with
 |dct ks ds =>
  obtain⟨p,O,rfl,P,R,S⟩:=N;have hp:=c.fh _ _ P;refine⟨p,rfl,.inl ⟨_,.inl hp⟩,B,M,sd,r.step c,(ja s).mono (λk T w U H2 g Y=>⟨B,U,sd,(r.step c).step g,(ja T).mono (λx n3 u t A h i3=>?_) λ_ _ q=>q.ext (c.trans g)⟩) λ_ _ q=>q.ext c⟩;obtain⟨z,hz,q⟩:=jg n3;obtain⟨l,hk,hz⟩:=Jk.mp hz;subst hz;obtain⟨g1,g2⟩:=Xq l R S;refine⟨q0 (ks.zip O) l,?_,?_⟩
  .rw[WG hk Y];exact xE.k (h.hh _ _ (g.hh _ _ hp))
  .cases j:jD ks ds l with
   |none =>
    rw[j] at q;rw[g2 j];exact q _ t A ((c.trans g).trans h) i3
   |some d =>
    rw[j] at q;obtain⟨y,hy,iy⟩:=g1 d j;rw[hy];exact q _ t A ((c.trans g).trans h) (jf.same (g.ff.trans h.ff) _ _ iy)
 |_=>exact s.elim
def YR (i:Nat)(c fv:FE):FS:=λsd=>(fv sd).bind λv=>match sd[i]? with
 |some (some (.own false (.dct ks ds)))=>(c sd).bind λk=>match QB k with
  |some q=>if ks.length<sizeLine then .ok (.next (sd.set i (some (.own false (.dct (VV ks q) (Wo ks ds q v)))))) else .no
  |none=>.no
 |_=>.no
def PR (x:X.A.units+1<cLine)(y:PE X o (xy j))(z:QE X E i fi)(A:QE X E e fv)(hs:swapsWith e (some (.Subscript o i pos')) pos.line X.env=pure false:=by rfl):
 QS X E m (.Assign [.Subscript o i pos'] e pos) (YR j fi fv):=PS.weak (EY x y z A hs) λT Z H C=>by
 obtain⟨B,F,sd,r,n⟩:=C;refine⟨B,F,sd,r,(ja n).mono (λd s v G S c I=>?_) λ_ _ q=>q.ext r.ext⟩
 split at s
 .rename_i ks ds t;obtain⟨l,u,U,Y,⟨xs,J,K,L⟩,_⟩:=(r.step c).own t;refine⟨.ref l,u,B,G,sd,r.step c,(ja s).mono (λk g w M H2 h N=>?_) λ_ _ q=>q.ext (r.step c).ext⟩
  split at g
  .rename_i q O
   split at g
   .obtain⟨ys,P,Q,R⟩:=Gw K (jd.same h.ff _ _ L) (jf.same h.ff _ _ I);exact⟨l,_,rfl,(by rw[WG O N];exact zS.k (h.hh _ _ J) ()),g Z M _ (c.ff.trans h.ff) (((r.step c).step h).chg t u ⟨ys,by rw[JL,P],Q,R⟩)⟩
   .exact g.elim
  .exact g.elim
 .exact s.elim
def CU:D->Option YG
 | .lst ds=>some ds
 | .scr ns=>some (ns.map .int)
 |_=>none
def ut:D->Option YG
 | .tup ds=>some ds
 |_=>none
def iL (f:FE):FA:=λsd=>(f sd).bind λd=>.ofO (CU d)
def iT (f:FE):FA:=λsd=>(f sd).bind λd=>.ofO (ut d)
def CV {K:W.Frag}{l:Hp}{J:It}{ds:YG}{c:YE}{S:Hp->Prop}(h:jd K l ds c)(w:∀F H,jk l F->jk F H->S H)(g:∀i H x,S H->c[i]? = some x->J.go i H)(st:∀i H,S H->c.length<=i->J.stop i H)
 (z:∀i H x r,S H->J.yld i H x r->r=H/\c[i]? = some x):wu K l J ds:=λi s j t u=>by
 have n:=w s j t u;refine⟨λv=>?_,λv=>st i j n (by rwa [h.length])⟩;obtain⟨x,A,_⟩:=h.get (Zqg v);refine⟨g i j x n A,λy B C=>?_⟩;obtain⟨rfl,q⟩:=z i j y B n C;obtain⟨d,G,id⟩:=h.getV q;exact⟨d,s,G,.refl u,jf.same t _ _ id⟩
def PU (h:QE X E e fa):QI X E tg e (iL fa):=PI.weak (E7 h) λZ H R G=>by
 obtain⟨B,F,sd,r,n⟩:=G;refine⟨B,F,sd,r,(ja n).mono (λd I v z A l C=>?_) λ_ _ q=>q⟩;obtain⟨ds,hz,q⟩:=jg I;cases d with
 |lst es =>
  obtain rfl:=Zqi hz;obtain⟨a,s,rfl,g,J⟩:=C;refine⟨a,rfl,⟨s,(g.same l.fh).sq⟩,q _ z A l (CV J (λF H t u=>((g.same t).same u).sq) (λi H x c w=>⟨s,x,c,w⟩) (λi H c y=>⟨s,c,y⟩) λi H x K c j=>⟨j.1,j.2 s c⟩)⟩
 |scr ns =>
  obtain rfl:=Zqi hz;obtain⟨a,rfl,g⟩:=C;refine⟨a,rfl,⟨_,jk.seq l.fh g⟩,q _ z A l (CV (qg ns) (λF H t u=>jk.seq u (jk.seq t g)) (λi H x c w=>⟨_,x,c,w⟩) (λi H c y=>⟨_,c,y⟩) λi H x K c j=>⟨j.1,j.2 _ c⟩)⟩
 |_=>exact J5 hz
def PX (h:QE X E e fa):QI X E tg e (iT fa):=PI.weak (Na h) λZ H R t=>by
 obtain⟨B,F,sd,r,n⟩:=t;refine⟨B,F,sd,r,(ja n).mono (λd u v w y j z=>?_) λ_ _ q=>q⟩;obtain⟨ds,hz,q⟩:=jg u;cases d with
 |tup es =>
  obtain rfl:=Zqi hz;obtain⟨a,g,rfl,l,A⟩:=z;refine⟨a,rfl,⟨g,(l.same j.fh).sq⟩,q _ w y j (CV A (λF H C G=>((l.same C).same G).sq) (λi H x c I=>⟨g,x,c,I⟩) (λi H c J=>⟨g,c,J⟩) λi H x K c s=>⟨s.1,s.2 g c⟩)⟩
 |_=>exact J5 hz
def rp {X:Cx}{tg e:Expr}{t t':TI}(h:PI X tg e t)(c:PI X tg e t'):PI X tg e (λZ H R=>t Z H R\/t' Z H R):=λY s Z H R I q=>q.elim (h Y s Z H R I) (c Y s Z H R I)
def VW:D->Option YG
 | .lst ds=>some ds
 | .scr ns=>some (ns.map .int)
 | .tup ds=>some ds
 |_=>none
def iS (f:FE):FA:=λsd=>(f sd).bind λd=>.ofO (VW d)
def JX (h:QE X E e fa):QI X E tg e (iS fa):=PI.weak (rp (PU h) (PX h)) λZ H R l=>by
 obtain⟨B,F,sd,r,n⟩:=l;by_cases g:∃ds,fa sd=.ok (.tup ds)
 .obtain⟨ds,g⟩:=g;refine .inr ⟨B,F,sd,r,?_⟩;unfold iS at n;unfold iT
  rwa [g] at n ⊢
 .refine .inl ⟨B,F,sd,r,?_⟩;unfold iS at n;unfold iL;cases j:fa sd with
  |ok d =>
   rw[j] at n;cases d with
   |tup ds=>simp_all
   |_=>exact n
  |no=>rwa [j] at n
  |ex c fs=>rwa [j] at n
def JP (lo:Int)(n:Nat):YG:=(List.range n).map λk:Nat=>.int (lo+k)
def WK (j:Int):Bool:=Nat.ble j.toNat 1000000000&&Nat.ble (-j).toNat 1000000000
def AV (h:WK j=true): -(2 ^ 62)<=j/\j<2 ^ 62:=by
 unfold WK at h;rw[Ue,Nat.ble_eq,Nat.ble_eq] at h;lia
def GA (c: -1000000000<=j)(g:j<=1000000000):WK j=true:=by
 unfold WK;rw[Ue,Nat.ble_eq,Nat.ble_eq];lia
def zn (fr:FA):FA:=λsd=>(fr sd).bind λds=>match ds with
 | [.int j]=>if WK j then .ok (JP 0 j.toNat) else .no
 |_=>.no
def GB {K:W.Frag}{g:Hp}(lo)(n):wu K g (bZ lo n) (JP lo n):=λi h r s j=>by
 have l:(JP lo n).length=n:=by unfold JP;simp
 rw[l];refine⟨λc=>⟨c,λx t q=>?_⟩,λc=>c⟩;obtain⟨rfl,rfl⟩:=q;refine⟨.int (lo+i),h,?_,.refl j,je.mpr rfl⟩
 simp_all [JP]
def KY {a:Expr}(l:Gl X "range")(s:X.mg "range" = none)(t:QA X E [a] fr)(hs:starEach [a] X.env=[(false,eval a X.env)]:=by rfl):QI X E tg (.Call (.Name "range" p) [a] [] pos) (zn fr):=PI.weak (E8 l s t hs) λZ H R u=>by
 obtain⟨B,F,sd,r,n⟩:=u;refine⟨B,F,sd,r,(ja n).mono (λds c A w x y z=>?_) λ_ _ q=>q⟩
 split at c
 .split at c
  .rename_i j g;obtain⟨v,rfl,h⟩:=Qu z;rw[je.mp h];exact⟨j,rfl,(AV g).1,(AV g).2,c _ w x y (GB 0 _)⟩
  .exact c.elim
 .exact c.elim
end
section
variable {X:Cx}{E:XK}{m:Option Bool}{a b o i e f tg:Expr}{fa fb fo fi fv:FE}{fr:FA}{pos pos' apos cpos p:Pos}
def PG.weak (h:PG X e t)(w:∀v Z H Q,t' v Z H Q->t v Z H Q):PG X e t':=λY s Z H v u Q I r q=>h Y s Z H v u Q I r (w _ _ _ _ q)
def CW:Yj->v4
 | []=>gp
 |i::is=>E4 (KM i) (CW is)
theorem GC:∀{is:Yj} {c:YE} {Z: St} {H:Hp} {Q:St->Hp->Prop},c.length=is.length->Q (AJ is c Z) H->CW is c Z H Q
 | [],c,Z,H,Q,hl,q=>⟨(),q⟩
 |i::is,[],Z,H,Q,hl,q=>by cases hl
 |i::is,x::c,Z,H,Q,hl,q=>⟨x,c,rfl,GC (UK hl) q⟩
def JV {i:Nat}{e:Expr}(h:PG X e (KM i)):QG X e (.one i):=h
def K2 (is)(h:PG X e (gk X.K is.length (CW is))):QG X e (.tup is):=PG.weak h λv Z H Q ⟨a,g,e,j,c,q⟩=>⟨a,g,e,j,c,GC c q⟩
def KZ (tg:Tg)(c:FT)(f:FE)(sd:SD):YG->Res YG
 | []=>.ok []
 |x::xs=>(JM tg x sd).bind λs=>(c s).bind λb=>if b then(f s).bind λy=>(KZ tg c f sd xs).bind λys=>.ok (y::ys) else KZ tg c f sd xs
def WL (cap:List (Option Nat))(it:FA)(tg:Tg)(c:FT)(f:FE):FE:=λsd=>(it sd).bind λds=>if VU (jX cap sd) tg=true/\ds.length<sizeLine then
 (KZ tg c f (jX cap sd) ds).bind λys=>.ok (.lst ys) else .no
def GD {K:W.Frag}{t:Tg}{fi:FA}{G:FT}{f:FE}{cap:List (Option Nat)}{Z: St}{H:Hp}{Q:VK}(I:vB K E (WL cap fi t G f) Z H Q):XP cap (bh K E fi) (gT t K) (bg K E G) (tD K E f) Z H Q:=by
 obtain⟨B,F,sd,r,n⟩:=I;refine⟨B,F,sd,r,(ja n).mono (λds L J P H1 w wk=>?_) λ_ _ q=>q⟩
 split at L
 .rename_i I;obtain⟨hn,hz⟩:=I;refine⟨λi k ys Z l=>k=ds.length-i/\i<=ds.length/\∃h es,Ext P H1 h l/\RS K B h l (jX cap sd) Z /\ jd K h es ys/\es.length<=i /\
   (KZ t G f (jX cap sd) (ds.drop i)).need (λrs=>yc K h l Q (.lst (es++rs))) (XW K E h l),⟨ds.length,rfl,Ua _,P,[],.refl w.fh,(r.step w).cap cap,.nil,Zf _,?_⟩,?_⟩
  .exact(ja L).mono (λrs q=>(q).ext w) λ_ _ q=>q.ext w
  rintro i k ys Z2 l ⟨rfl,hi,h,es,z,M,A,R,s⟩;have ly:=A.length;refine⟨(),?_⟩;obtain⟨w1,w2⟩:=wk i h l z.ff z.fh;by_cases j:i<ds.length
  .obtain⟨go,yl⟩:=w1 j;refine .inr ⟨go,λx H3 y=>?_⟩;obtain⟨d,F3,hd,g,i3⟩:=yl x H3 y;rw[Uq j] at s;have N:ds[i]=d:=by grind[Zqg,Zqi]
   rw[N] at s;refine Xl (M.step g) i3 (ja s) λsd' Z' n4 hb C=>?_;have ⟨S,T⟩:=CH hn hb;refine⟨B,F3,sd',C,(ja n4).mono (λb U Y H4 c=>?_) λ_ _ q=>q.ext g⟩;cases b with
   |true =>
    refine⟨B,Y,sd',C.step c,(ja U).mono (λy n6 v F5 H5 u i5=>⟨ds.length-(i+1),(),rfl,j,F5,es++[y],((z.trans g).trans c).trans u,((C.step c).step u).forget S T,(jd.same ((g.ff.trans c.ff).trans u.ff) _ _ A).snoc i5,by rw[Ub];exact Vr R,(ja n6).mono (λrs q=>?_) λ_ _ q=>q.ext ((g.trans c).trans u)⟩) λ_ _ q=>q.ext (g.trans c)⟩;rw[Uh];exact(q).ext ((g.trans c).trans u)
   |false =>
    exact⟨ds.length-(i+1),(),rfl,j,Y,es,(z.trans g).trans c,(C.step c).forget S T,jd.same (g.ff.trans c.ff) _ _ A,Vk R,(U).mono (λrs q=>q.ext (g.trans c)) λ_ _ q=>q.ext (g.trans c)⟩
  .have he:i=ds.length:=()
   subst he;refine .inl ⟨w2 (Zf _),λD O=>?_⟩;rw[UT] at s;have q:yc K h l Q (.lst (es++[])):=s;rw[ZA] at q;exact q D h _ (.keep M.ext.fh O _) O (Qd M.ext.fh O) ⟨ys,JL,A⟩
 .exact L.elim
def GE {tg j l c:Expr}{g:Scope}{t:Tg}{fi:FA}{u:FT}{f:FE}(N)(cap)(v:X.calm=true)(r:QF g X.env N X.N cap=true)(w:QI X E tg j fi)
 (y:∀n C s H q,QG (JJ X g N n C s H q) tg t) (z:∀n C s H q,QT (JJ X g N n C s H q) E c u) (A:∀n C s H q,QE (JJ X g N n C s H q) E l f) (hs:∀x,foldedSetIterable j X.env x=pure x:=by intro _;rfl):
 QN X E (.ListComp l [⟨tg,j,[c],0⟩] g pos) (WL cap fi t u f):=PE.weak (OY N cap v r w y z A hs) λ_ _ _ h=>GD h
def YS:List j5->YG->Option Jz
 | .inl k::ks,.int v::ds=>(YS ks ds).map λr=>(k,v)::r
 | [],[]=>some []
 |_,_=>none
def PY (ks:List j5)(ds:YG)(r:Jz):Prop:=ks=r.map (λp=>.inl p.1)/\ds=r.map λp=>.int p.2
def PZ (h:YS ks ds=some r):PY ks ds r:=by
 induction ks generalizing ds r with
 |nil =>
  cases ds with
  |nil=>obtain rfl:=Zqi h;exact⟨rfl,rfl⟩
  |cons _ _=>exact J5 h
 |cons k ks c =>
  cases k with
  |inr _=>exact J5 h
  |inl k =>
   cases ds with
   |nil=>exact J5 h
   |cons d ds =>
    cases d with
    |int v =>
     obtain⟨l,g,j⟩:=Jk.mp (h);subst j;exact⟨Zt (Uf k :: ·) (c g).1,Zt (D.int v :: ·) (c g).2⟩
    |_=>exact J5 h
def Ra (r):YS (r.map λp=>.inl p.1) (r.map λp=>.int p.2)=some r:=by
 induction r with
 |nil=>rfl
 |cons p r c=>exact Zt (Option.map λr=>(p.1,p.2)::r) c
def wE (s:jk F H)(fr:∀p∈L,H p.1=none):Ext F H (qC F L) (qC H L):=by
 have c:∀{G:Hp} {b:Addr},H b≠none->qC G L b=G b:=λ{G b} g=>A5 ();have ne:∀{b:Addr} {o:HO},H b=some o->H b≠none:=by grind
 refine⟨λb o e=>by rwa [c (ne (s _ _ e))],λb o e=>?_,λb o e=>by rwa [c (ne e)],()⟩;rcases Gc e with h|⟨h1,h2⟩
 .grind[qC]
 .rw[A5 h1];exact s _ _ h2
def CY:D->YH
 | .dct ks ds=>(YS ks ds).bind λr=>if r ≠ []/\r.length<1000 then some (.lst ((JS jU r).map qJ)) else none
 |_=>none
def CZ (fo:FE):FE:=λsd=>(fo sd).bind λd=>.ofO (CY d)
def Rb (h:∀{C:TE},PE X o C->PE X e (wT (λt H Q=>∃c d r,t=[.ref c]/\H c=some (Wl c d)/\H d=some (.dK (x9 r))/\r ≠ []/\r.length<1000/\∀l L,(∀p∈L,H p.1=none)->(L.map (·.1)).Nodup->(∀G,Is (qC G L) (.list ((JS jU r).map pD)) (.ref l))->Q (.ref l) (qC H L))
 (Ah (uF X.K "dict" (λx M H Q=>∃d u,x=.ref d/\M=[]/\H d=some (.dK u)/\∀p,H p=none->Q (.ref p) (upd H p (Wl p d))) C) wQ))) (N:QE X E o fo):QE X E e (CZ fo):=PE.weak (h N) λZ H Q O=>by
 obtain⟨B,F,sd,r,n⟩:=O;refine⟨B,F,sd,r,(ja n).mono (λd P v s I w R=>?_) λ_ _ q=>q⟩;obtain⟨z,hz,q⟩:=jg P;cases d with
 |dct ks ds =>
  obtain⟨y,S,A⟩:=Jg.mp (hz)
  split at A
  .rename_i J;obtain rfl:=Zqi A;obtain⟨k1,k2⟩:=PZ S;obtain⟨d,t,rfl,T,g2,U⟩:=R;have Y:t=y.map λp=>V.int p.2:=by
    rw[k2] at U;have:=qz (by rwa [Zw]);rw[this,Zw];rfl
   have hd:s d=some (.dK (x9 y)):=by rw[T,k1,Y,<- G9]
   have g:=w.fh _ _ hd;refine⟨.inr (.inr (.inl ⟨rfl,.inl ⟨_,g⟩⟩)),d,_,rfl,rfl,g,λc j=>⟨c,d,y,rfl,JL,(KB j (Wl c d)) _ _ g,J.1,J.2,λl L fr nd hl=>?_⟩⟩;have K:Ext s I s (upd I c (Wl c d)):=.keep w.fh j _;refine q _ _ _ (w.trans (K.trans (wE K.fh fr))) ?_;obtain⟨l',ys,e',g4,g5⟩:=xH.mp (hl s);exact jj.mpr ⟨l',ys,e',.of g4,uq.mpr g5⟩
  .exact J5 A
 |_=>exact J5 hz
end
section
variable {P:Program}{w:World}{K:W.Frag}{mg:Ye}{base:Heap}{f:Addr}{fd:FuncData}{ps:Yk}{k:Nat}
def gJ:FnOk P w K mg base yw k f fd ps (xl K λ_=>.no):=⟨λ_ _ _ _ ⟨_,_,_,_,n⟩=>n.elim,λ_ _ _ _ _ _ _ _ _ _ _ _ _ ⟨_,_,_,_,n⟩=>n.elim⟩
end
section
variable {X:Cx}{E:XK}{m:Option Bool}{a b o i e f tg:Expr}{fa fb fo fi fv:FE}{fr:FA}{pos pos' apos cpos p:Pos}
def xj (c:Bool):D->YH
 | .non=>some (.bl (!c))
 |_=>some (.bl c)
def GF:D->Bool
 | .non=>true
 |_=>false
def Rc {K:W.Frag}{H:Hp}{d:D}{v:V}(h:jf K H d v):decide (v=.non)=GF d:=by
 cases d with
 |non=>rw[jC.mp h];rfl
 |bl b=>rw[jn.mp h];rfl
 |int b=>rw[je.mp h];rfl
 |str b=>rw[jq.mp h];rfl
 |ty b=>rw[zp.mp h];rfl
 |scr b=>obtain⟨a,rfl,_⟩:=qr.mp h;rfl
 |tup b=>obtain⟨a,_,rfl,_⟩:=ju.mp h;rfl
 |lst b=>obtain⟨a,_,rfl,_⟩:=jj.mp h;rfl
 |dct b c=>obtain⟨a,_,rfl,_⟩:=jZ.mp h;rfl
 |ins b c d=>obtain⟨a,_,_,_,rfl,_⟩:=jY.mp h;rfl
 |exc b=>obtain⟨a,_,rfl,_⟩:=qV.mp h;rfl
 |ucl b=>obtain⟨a,rfl,_⟩:=ze.mp h;rfl
 |adr b=>rw[jA.mp h];rfl
 |dcf b c=>obtain⟨a,_,_,rfl,_⟩:=qu.mp h;rfl
 |pin b c=>rw[(qs.mp h).1];rfl
def Re {K:W.Frag}{Z: St}{H:Hp}{Q:VK}(h:tD K E (jN (xj true) fa) Z H Q):E2 (tD K E fa) Z H Q:=by
 obtain⟨B,F,sd,r,n⟩:=h;refine⟨B,F,sd,r,(ja n).mono (λx g v j c l s=>?_) λ_ _ q=>q⟩;show Q (V.bl !decide (v=V.non)) c;rw[Rc s];cases x<;>exact g _ j c l (jn.mpr rfl)
def Da {j pos'}(c:QE X E a fa):QT X E (.Compare a [.IsNot] [.Constant .none j pos'] pos) (JD (jN (xj true) fa)):=PT.weak (E3 (MM c)) λ_ _ _ h=>Re (Y2 h)
def WM (i:Nat)(fb:FE):FE:=λsd=>match sd[i]? with
 |some (some (.own _ d))=>(fb sd).bind λy=>.ofO (jF d y)
 |_=>.no
def Rf {i:Nat}(M:X.A.units+1<cLine)(J:PE X a (xy i))(K:QE X E b fb)(hs:Xb b)(u:ww b):QE X E (.Subscript a b pos) (WM i fb):=
 PE.weak (PE.or (Ch M J K u) (XJ hY J K hs)) λZ H Q N=>by
  obtain⟨B,F,sd,r,n⟩:=N;unfold WM at n
  split at n
  .rename_i p d O;obtain⟨l,v,S,T,A,_⟩:=r.own O;cases d with
   |lst ds =>
    obtain⟨L,C,G⟩:=A;refine .inr ⟨.ref l,v,B,F,sd,r,(ja n).mono (λy h w j s g t=>?_) λ_ _ q=>q⟩;obtain⟨z,hz,q⟩:=jg h;cases y with
    |int k =>
     obtain⟨x,I,ix⟩:=YP G (hz);exact⟨l,L,k,x,rfl,je.mp t,qp.of (g.hh _ _ C),I,q _ j s g (jf.same g.ff _ _ ix)⟩
    |_=>exact J5 hz
   |dct ks ds =>
    obtain⟨L,C,G,P⟩:=A;refine .inl ⟨.ref l,v,B,F,sd,r,(ja n).mono (λy h w j s g t=>?_) λ_ _ q=>q⟩;obtain⟨z,hz,q⟩:=jg h;obtain⟨k,R,hz⟩:=Jg.mp (hz);obtain⟨x,I,ix⟩:=(Xq k G P).1 z hz;refine⟨l,x,rfl,?_,q x j s g (jf.same g.ff _ _ ix)⟩;rw[WG R t,<- I];exact xE.k (g.hh _ _ C)
   |ins c fs ds =>
    refine .inr ⟨.ref l,v,B,F,sd,r,(ja n).mono (λy h w j s g t=>?_) λ_ _ q=>q⟩;obtain⟨z,hz,q⟩:=jg h;cases y<;>exact J5 hz
   |_=>exact A.elim
  .exact n.elim
end
end L2.DL
namespace L2
section
variable {X:Cx}{tg iter elt c:Expr}{scope:Scope}{pos:Pos}{wi:TI}{g:TG}{te:TE}{tt:TT}
def GG (a:X.N.Nodup)(f:X.N[iy]? = some y)(h:yG X.env.scope y)(i:X.fn y=true\/X.env.scope.names.lookup y=some .local):
 XQ X Y Z (λv B=>DD.nx (Z.set iy (some v)) B) (some (assign (.Name y py) X.env)) (λ_ s'=>SP X Y DD .next s'):=λC D m j r E F N sz G H k=>by
 obtain⟨O,z,A,l,I,J⟩:=k j.heap ⟨rfl,λ_ _=>rfl⟩;obtain⟨n,q,s,K,t,u⟩:=id E;have L:Inv X (Y++[(C,n)]) Z z { j with heap:=j.heap }:=A.pins_of λp hp=>by
  rcases Jb.mp hp with hp|hp
  .exact A.pin p ()
  simp_all
 exact wpAny_assign_Name (Aa L a f h l (λP w=>(⟨m,⟨n,q,s,(w.pin (C,n) ()).1,t,u⟩,λQ x=>⟨_,z,(w.pins_of λp hp=>w.pin p ()).turned (λb o M e=>(x.2 b M).trans e) I F (.inr sz) G H,J⟩⟩)) i)
def Db (a:swapsWith (.ListComp elt [⟨tg,iter,[],0⟩] scope pos) (some (.Name y py)) spos.line X.env=pure true)(b:X.N.Nodup)(f:X.N[iy]? = some y)(i:yG X.env.scope y)(j:X.fn y=true\/X.env.scope.names.lookup y=some .local)(N)(cap)(o:X.calm=true)(l:QF scope X.env N X.N cap=true)(p:PI X tg iter wi)(q:∀m C s H n,PG (JJ X scope N m C s H n) tg g)(t:∀m C s H n,PE (JJ X scope N m C s H n) elt te)
 (hs:∀x,foldedSetIterable iter X.env x=pure x:=by intro _;rfl):PS X (.Assign [.Name y py] (.ListComp elt [⟨tg,iter,[],0⟩] scope pos) spos) (z7 (Xd cap wi g te) (KM iy)):=by
 intro Y s Z H u I h;rw[exec_Assign_Name_used _ _ _ _ a];refine Za (wpAny_standAt (Za (Za (Zc (Ff N cap o l p q () hs I h (GG b f i j)) (λ_ s' r=>Zb (Zb r)) λ_ _ e=>e))))
def Rg (f:swapsWith (.ListComp elt [⟨tg,iter,[c],0⟩] scope pos) (some (.Name y py)) spos.line X.env=pure true)(i:X.N.Nodup)(j:X.N[iy]? = some y)(l:yG X.env.scope y)(m:X.fn y=true\/X.env.scope.names.lookup y=some .local)(N)(cap)(o:X.calm=true)(n:QF scope X.env N X.N cap=true)(p:PI X tg iter wi)(q:∀a C s H b,PG (JJ X scope N a C s H b) tg g)(r:∀a C s H b,PT (JJ X scope N a C s H b) c tt)(t:∀a C s H b,PE (JJ X scope N a C s H b) elt te)
 (hs:∀x,foldedSetIterable iter X.env x=pure x:=by intro _;rfl):PS X (.Assign [.Name y py] (.ListComp elt [⟨tg,iter,[c],0⟩] scope pos) spos) (z7 (XP cap wi g tt te) (KM iy)):=by
 intro Y s Z H v I h;rw[exec_Assign_Name_used _ _ _ _ f];refine Za (wpAny_standAt (Za (Za (Zc (Ga N cap o n p q r t hs I h (GG i j l m)) (λ_ s' u=>Zb (Zb u)) λ_ _ e=>e))))
end
end L2
namespace L2.DL
section
variable {X:Cx}{E:XK}{m:Option Bool}{tg iter elt c:Expr}{scope:Scope}{pos spos py:Pos}{y:Str}{iy:Nat}{t:Tg}{fi:FA}{fc:FT}{f:FE}
def Dc {K:W.Frag}{a:TE}{i:Nat}{b:FE}(w:∀Z H Q,vB K E b Z H Q->a Z H Q){T:Ends}{Z: St}{H:Hp}(h:vV K E m (jI i b) T Z H):z7 a (KM i) T Z H:=w _ _ _ (by
 obtain⟨B,F,sd,r,n⟩:=h;exact⟨B,F,sd,r,(ja n).mono (λd g=>yL.new λv j l e o=>(g _ j l e.ff ((r.step e).setVal o))) λ_ _ q=>q.ext r.ext⟩)
def Rh {K:W.Frag}{a:TE}{i:Nat}{b:FE}(w:∀Z H Q,vB K E b Z H Q->a Z H Q){T:Ends}{Z: St}{H:Hp}(h:vV K E m (qw i b) T Z H):z7 a (KM i) T Z H:=w _ _ _ (by
 obtain⟨B,F,sd,r,n⟩:=h;refine⟨B,F,sd,r,(ja n).mono (λd g l s u e v x z=>(g _ s u e.ff ((r.step e).setOwn (Qd r.ext.hh v) x z λj p G A I=>?_))) λ_ _ q=>q.ext r.ext⟩;obtain⟨J,L,_,_,C,_⟩:=r.own A;obtain⟨o,M⟩:=C.has
 simp_all)
def Ri (N)(cap)(a:X.N.Nodup)(b:X.N[iy]? = some y)(e:yG X.env.scope y)(o:X.calm=true)(g:QF scope X.env N X.N cap=true)(p:QI X E tg iter fi)
 (r:∀i C s H j,QG (JJ X scope N i C s H j) tg t) (u:∀i C s H j,QE (JJ X scope N i C s H j) E elt f) (l:swapsWith (.ListComp elt [⟨tg,iter,[],0⟩] scope pos) (some (.Name y py)) spos.line X.env=pure true:=by rfl)
 (n:X.fn y=true\/X.env.scope.names.lookup y=some .local:=by trivial) (hs:∀x,foldedSetIterable iter X.env x=pure x:=by intro _;rfl):
 QS X E m (.Assign [.Name y py] (.ListComp elt [⟨tg,iter,[],0⟩] scope pos) spos) (jI iy (JZ cap fi t f)):=PS.weak (Db l a b e n N cap o g p r u hs) λT Z H h=>Dc (λ_ _ _ q=>AK q) h
def Rj (N:Yk)(cap:List (Option Nat))(a:X.N.Nodup)(b:X.N[iy]? = some y)(e:yG X.env.scope y)(o:X.calm=true)(g:QF scope X.env N X.N cap=true)(p:QI X E tg iter fi)
 (r:∀i C s H j,QG (JJ X scope N i C s H j) tg t) (u:∀i C s H j,QE (JJ X scope N i C s H j) E elt f) (l:swapsWith (.ListComp elt [⟨tg,iter,[],0⟩] scope pos) (some (.Name y py)) spos.line X.env=pure true:=by rfl)
 (n:X.fn y=true\/X.env.scope.names.lookup y=some .local:=by trivial) (hs:∀x,foldedSetIterable iter X.env x=pure x:=by intro _;rfl):
 QS X E m (.Assign [.Name y py] (.ListComp elt [⟨tg,iter,[],0⟩] scope pos) spos) (qw iy (JZ cap fi t f)):=PS.weak (Db l a b e n N cap o g p r u hs) λT Z H h=>Rh (λ_ _ _ q=>AK q) h
def Rk (N)(cap)(e:X.N.Nodup)(g:X.N[iy]? = some y)(i:yG X.env.scope y)(o:X.calm=true)(j:QF scope X.env N X.N cap=true)(p:QI X E tg iter fi)
 (r:∀a C s H b,QG (JJ X scope N a C s H b) tg t) (u:∀a C s H b,QT (JJ X scope N a C s H b) E c fc) (v:∀a C s H b,QE (JJ X scope N a C s H b) E elt f) (l:swapsWith (.ListComp elt [⟨tg,iter,[c],0⟩] scope pos) (some (.Name y py)) spos.line X.env=pure true:=by rfl)
 (n:X.fn y=true\/X.env.scope.names.lookup y=some .local:=by trivial) (hs:∀x,foldedSetIterable iter X.env x=pure x:=by intro _;rfl):
 QS X E m (.Assign [.Name y py] (.ListComp elt [⟨tg,iter,[c],0⟩] scope pos) spos) (jI iy (WL cap fi t fc f)):=PS.weak (Rg l e g i n N cap o j p r u v hs) λT Z H h=>Dc (λ_ _ _ q=>GD q) h
end
def GH:Option (Option SV)->Res D
 |some (some (.val d))=>.ok d
 |_=>.no
@[simp]def pX (d):GH (some (some (.val d)))=.ok d:=rfl
@[simp]def nM (i)(sd):jb i sd=GH sd[i]?:= rfl
@[simp]def pN (d)(sd):dC d sd=.ok d:=rfl
@[simp]def su (g)(fa fb)(sd):jl g fa fb sd=(fa sd).bind λx=>(fb sd).bind λy=>.ofO (g x y):=rfl
@[simp]def so (g)(fa)(sd):jN g fa sd=(fa sd).bind λx=>.ofO (g x):=rfl
def s0:D->Res Bool
 | .bl b=>.ok b
 |_=>.no
@[simp]def rk (b):s0 (.bl b)=.ok b:=rfl
@[simp]def bQ (fa)(sd):JD fa sd=(fa sd).bind s0:=by
 rfl
@[simp]def bG (f)(sd):KR f sd=(f sd).bind λb=>.ok (!b):=rfl
@[simp]def bS (f g)(sd):Ky f g sd=(f sd).bind λb=>if b then g sd else .ok false:=rfl
@[simp]def nW (f g)(sd):yY f g sd=(f sd).bind λb=>if b then .ok true else g sd:=rfl
@[simp]def bR (fa fb)(sd):AF fa fb sd=(JD fa sd).bind λb=>if b then fb sd else .ok (.bl false):=rfl
@[simp]def nX (sd):jc sd=.ok []:=rfl
@[simp]def bN (fa)(fr)(sd):J1 fa fr sd=(fa sd).bind λx=>(fr sd).bind λa=>.ok (x::a):=rfl
@[simp]def nY (fr)(sd):qM fr sd=(fr sd).bind λa=>if a.length<=1000 then .ok (.lst a) else .no:=rfl
@[simp]def nN (fr)(sd):xC fr sd=(fr sd).bind λa=>if a.length<=1000 then .ok (.tup a) else .no:=rfl
@[simp]def bP (Fn)(fr)(sd):J9 Fn fr sd=(fr sd).bind Fn:=rfl
@[simp]def re (g)(fr)(sd):jv g fr sd=(fr sd).bind λa=>.ofO (g a):=rfl
@[simp]def bV {α: Type}(a:α):(Res.ok a).bare=.ok a:=rfl
@[simp]def nP (is)(f)(sd):yX is f sd=(f (qE is sd)).bare.bind λd=>if KD d then .ok d else .no:=rfl
@[simp]def uM (i):KD (.int i)=true:=rfl
@[simp]def bj (i):KD (.bl i)=true:=rfl
@[simp]def gF (sd):qE [] sd=sd:=rfl
def frz1 (i:Nat)(sd:SD):Option (Option SV)->SD
 |some (some (.own _ d))=>sd.set i (some (.val d))
 |_=>sd
@[simp]def gG (i)(sd)(p)(d):frz1 i sd (some (some (.own p d)))=sd.set i (some (.val d)):=rfl
@[simp]def lw (i)(is)(sd):qE (i::is) sd=qE is (frz1 i sd sd[i]?):=by
 rfl
def xi (g:FS):Out->Res Out
 | .next sd=>g sd
 |o=>.ok o
@[simp]def lu (g)(sd):xi g (.next sd)=g sd:=rfl
@[simp]def uJ (g)(d):xi g (.ret d)=.ok (.ret d):=rfl
@[simp]def uK (g)(d):xi g (.brk d)=.ok (.brk d):=rfl
@[simp]def nS (g1 g2)(sd):jz g1 g2 sd=(g1 sd).bind (xi g2):=by
 rfl
@[simp]def bH (sd):JO sd=.ok (.next sd):=rfl
@[simp]def rd (sd):vC sd=.ok (.brk sd):=rfl
@[simp]def nR (i)(f)(sd):jI i f sd=(f sd).bind λd=>.ok (.next (sd.set i (some (.val d)))):=rfl
@[simp]def nV (i)(f)(sd):qw i f sd=(f sd).bind λd=>.ok (.next (sd.set i (some (.own false d)))):=rfl
@[simp]def nU (f)(sd):j1 f sd=(f sd).bind λd=>.ok (.ret d):=rfl
def vD:Option (Option SV)->Res D
 |some (some (.own _ d))=>.ok d
 |_=>.no
@[simp]def kj (p)(d):vD (some (some (.own p d)))=.ok d:=rfl
@[simp]def pW (i)(sd):KE i sd=(vD sd[i]?).bind λd=>.ok (.ret d):=by
 unfold KE;cases sd[i]? with
 |none=>rfl
 |some o =>
  cases o with
  |none=>rfl
  |some v=>cases v<;>rfl
@[simp]def nZ (c)(g1 g2)(sd):qP c g1 g2 sd=(c sd).bind λb=>if b then g1 sd else g2 sd:=rfl
def va:Option (Option SV)->Res YG
 |some (some (.own false (.lst ds)))=>.ok ds
 |_=>.no
@[simp]def kl (ds):va (some (some (.own false (.lst ds))))=.ok ds:=rfl
@[simp]def ls (i)(f)(sd):Kz i f sd=(va sd[i]?).bind λds=>(f sd).bind λd=>if ds.length<sizeLine then .ok (.next (sd.set i (some (.own false (.lst (ds++[d])))))) else .no:=by
 unfold Kz;cases sd[i]? with
 |none=>rfl
 |some o =>
  cases o with
  |none=>rfl
  |some v =>
   cases v with
   |val d=>rfl
   |own p d=>cases p<;>cases d<;>rfl
def GI:D->Res YG
 | .lst es=>.ok es
 |_=>.no
@[simp]def pT (es):GI (.lst es)=.ok es:=rfl
@[simp]def lA (i)(f)(sd):Xk i f sd=(va sd[i]?).bind λds=>(f sd).bind λd=>(GI d).bind λes=>if ds.length+es.length<=sizeLine then .ok (.next (sd.set i (some (.own false (.lst (ds++es)))))) else .no:=by
 unfold Xk;cases sd[i]? with
 |none=>rfl
 |some o =>
  cases o with
  |none=>rfl
  |some v =>
   cases v with
   |val d=>rfl
   |own p d =>
    cases p with
    |true=>cases d<;>rfl
    |false =>
     cases d with
     |lst ds =>
      cases f sd with
      |ok x=>cases x<;>rfl
      |ex c fs=>rfl
      |no=>rfl
     |_=>rfl
def kn:Option (Option SV)->Res (List j5×YG)
 |some (some (.own false (.dct ks ds)))=>.ok (ks,ds)
 |_=>.no
@[simp]def km (ks)(ds):kn (some (some (.own false (.dct ks ds))))=.ok (ks,ds):=rfl
@[simp]def bM (i)(fk fv)(sd):YR i fk fv sd=(fv sd).bind λv=>(kn sd[i]?).bind λo=>(fk sd).bind λk=>(Res.ofO (QB k)).bind λq=>if o.1.length<sizeLine then .ok (.next (sd.set i (some (.own false (.dct (VV o.1 q) (Wo o.1 o.2 q v)))))) else .no:=by
 unfold YR;cases fv sd with
 |ok v =>
  cases sd[i]? with
  |none=>rfl
  |some o =>
   cases o with
   |none=>rfl
   |some w =>
    cases w with
    |val d=>rfl
    |own p d =>
     cases p with
     |true=>cases d<;>rfl
     |false =>
      cases d with
      |dct ks ds =>
       cases fk sd with
       |ok k=>show(match QB k with|some q=>_|none=>_)=(Res.ofO (QB k)).bind _;cases QB k<;>rfl
       |ex c fs=>rfl
       |no=>rfl
      |_=>rfl
 |ex c fs=>rfl
 |no=>rfl
def x8:Out->Res D
 | .ret d=>.ok d
 | .next _=>.ok .non
 |_=>.no
@[simp]def kq (d):x8 (.ret d)=.ok d:=rfl
def uP (n ar)(g)(ds)(h:ds.length=ar):jK n ar g ds=(g (JW n ds)).bind x8:=by
 unfold jK;rw[Zd h];rfl
def zl:Out->Res D
 | .ret d=>.ok d
 |_=>.no
@[simp]def kr (d):zl (.ret d)=.ok d:=rfl
def uO (n ar)(g)(ds)(h:ds.length=ar):qx n ar g ds=(g (JW n ds)).bind zl:=by
 unfold qx;rw[Zd h];rfl
@[simp]def mJ (n)(g)(a):jK n 1 g [a]=(g (some (.val a)::List.replicate (n-1) none)).bind x8:=uP n 1 g [a] rfl
@[simp]def mI (n)(g)(a b):jK n 2 g [a,b]=(g (some (.val a)::some (.val b)::List.replicate (n-2) none)).bind x8:=rfl
@[simp]def mH (n)(g)(a b c):jK n 3 g [a,b,c]=(g (some (.val a)::some (.val b)::some (.val c)::List.replicate (n-3) none)).bind x8:=rfl
@[simp]def mF (n)(g)(a b):qx n 2 g [a,b]=(g (some (.val a)::some (.val b)::List.replicate (n-2) none)).bind zl:=rfl
@[simp]def mE (n)(g)(a b c):qx n 3 g [a,b,c]=(g (some (.val a)::some (.val b)::some (.val c)::List.replicate (n-3) none)).bind zl:=rfl
@[simp]def gE (i j):j8 (.int i) (.int j)=some (.int (i+j)):=rfl
@[simp]def gm (i j):xc (.int i) (.int j)=some (.int (i-j)):=rfl
@[simp]def gq (i):yC (.int i)=some (.int (-i)):=rfl
@[simp]def bp (i j):nF (.int i) (.int j)=some (.bl (decide (i<j))):=rfl
@[simp]def bt (i j:Int):vX (.int i) (.int j)=some (.bl (decide (i<=j))):=rfl
@[simp]def b7 (i j):vZ (.int i) (.int j)=some (.bl (decide (j<i))):=rfl
@[simp]def b8 (i j):ub (.int i) (.int j)=some (.bl (decide (j<=i))):=rfl
@[simp]def gD (i j):xk (.int i) (.int j)=some (.bl (decide (i=j))):=P0 i j
@[simp]def gr (i j):yV (.int i) (.int j)=some (.bl (!decide (i=j))):=P1 i j
def AW (h:K0 i j=true):xU (.int i) (.int j)=some (.int (i*j)):=by
 show(if K0 i j then _ else _)=_
 simp_all
def Rl (a: -18446744073709551616<j)(b:j<18446744073709551616):K0 i j=true:=by
 unfold K0;rw[U7,U7,UF,UF];lia
def GJ (a: -18446744073709551616<i)(b:i<18446744073709551616):K0 i j=true:=by
 unfold K0;rw[U7,U7,UF,UF];lia
def Rm (a:i.natAbs<xY)(b:j.natAbs<xY):K0 i j=true:=by
 simp_all [K0]
@[simp]def Rn (h:0<j):xO (.int i) (.int j)=some (.int (i % j)):=by
 show(if Uu 0 j.toNat then _ else _)=_;rw[Zd (by rw[UF];lia)]
@[simp]def GK (h:0<j)(a:j<1073741824):YO (.int i) (.int j)=some (.int (i / j)):=by
 show(if Uu 0 j.toNat&&Uu j.toNat 1073741824 then _ else _)=_;rw[Zd (by rw[Ue,UF,UF];lia)]
@[simp]def gv (ds):jT [.lst ds]=some (.int ds.length):=rfl
@[simp]def gu (ns):jT [.scr ns]=some (.int ns.length):=rfl
@[simp]def pR (i j):YQ [.int i,.int j]=some (.int (if j > i then j else i)):=rfl
@[simp]def pV (i j):AR [.int i,.int j]=some (.int (if j<i then j else i)):=rfl
@[simp]def lx (ds):KF [.lst ds]=some (.lst ds):=rfl
@[simp]def lF (ds):WI [.lst ds]=some (.tup ds):=rfl
@[simp]def b4 (ds)(k):jF (.lst ds) (.int k)=qU ds k:=rfl
@[simp]def bu (ns)(k):jF (.scr ns) (.int k)=(qU ns k).map .int:=rfl
@[simp]def b5 (ks)(ds)(k):jF (.dct ks ds) (.int k)=jD ks ds (.inl k):=rfl
@[simp]def b6 (neg)(ks)(ds)(k):wI neg (.int k) (.dct ks ds)=some (.bl (if neg then !(jD ks ds (.inl k)).isSome else(jD ks ds (.inl k)).isSome)):=rfl
@[simp]def lz (k):QB (.int k)=some (.inl k):=rfl
@[simp]def Dd (h:r.length<=100)(o:j4 r):WJ [js r]=some (xX r):=by
 show(Kg (js r)).bind _=_;rw[CI];show(if r.length<=100 then some (xX (Xt r)) else none)=_;rw[Zd h,PM o]
def GL (h:ns ≠ []):WH [.lst (ns.map .int)]=some (.int (qK ns)):=by
 simp_all [WH,CS]
def GM (h:ns ≠ []):Xs [.lst (ns.map .int)]=some (.int (xb ns)):=by
 simp_all [Xs,CS]
theorem AX:∀{r:Jz},j4 r->∀t:Int,jD (r.map λp=>.inl p.1) (r.map λp=>.int p.2) (.inl t)=(JA r t).map .int
 | [],_,t=>rfl
 |p::r,o,t=>by
  have a:j4 r:=by simp_all [j4]
  have n:p.1∉r.map (·.1):=by simp_all [j4]
  rw[Zl,Zl,CM,A6];by_cases h:p.1=t
  .cases q:JA r t with
   |none=>simp_all
   |some w=>exact Zn (Ja.mpr ⟨(t,w),Qj q,h.symm⟩) n
  .rw[Ze (λz=>h (by injection z)),AX a t]
   grind
def GN:D->Res (List j5×YG)
 | .dct ks ds=>.ok (ks,ds)
 |_=>.no
@[simp]def l7 (ks)(ds):GN (.dct ks ds)=.ok (ks,ds):=rfl
@[simp]def bK (fo fk fx)(sd):AU fo fk fx sd=(fo sd).bind λd=>(GN d).bind λo=>(fk sd).bind λk=>(fx sd).bind λx=>.ofO ((QB k).map λq=>(jD o.1 o.2 q).getD x):=by
 unfold AU;cases fo sd with
 |ok d=>cases d<;>rfl
 |ex c fs=>rfl
 |no=>rfl
def Ro (r:Jz)(t):yS (.inl t) (r.map λp=>.inl p.1)=r.any λp=>decide (p.1=t):=by
 grind[yS,List.any_map]
def Rp (r)(t w):D.dct (VV (r.map λp=>.inl p.1) (.inl t)) (Wo (r.map λp=>.inl p.1) (r.map λp=>.int p.2) (.inl t) (.int w))=xX (qI r t w):=by
 unfold VV Wo xX qI;rw[Ro];have ch:∀r:Jz,zI (r.map λp=>.inl p.1) (r.map λp=>.int p.2) (.inl t) (.int w)=(r.map λp=>if p.1=t then(p.1,w) else p).map λp=>D.int p.2:=by
  intro r
  induction r with
  |nil=>rfl
  |cons p r a =>
   rw[Zl,Zl,Zl,Zl,Gs,a];by_cases h:p.1=t
   .rw[Zd (by rw[h]),Zd h]
   .rw[Ze (λz=>h (by injection z)),Ze h]
 have b:∀r:Jz,(r.map λp=>if p.1=t then(p.1,w) else p).map (λp=>(Uf p.1:j5))=r.map λp=>.inl p.1:=by
  intro r;rw[Zw]
  congr 1
  funext p
  show(Uf (if p.1=t then(p.1,w) else p).1:j5)=_;by_cases h:p.1=t
  .rw[Zd h]
  .rw[Ze h]
 by_cases q:(r.any λp=>decide (p.1=t))=true
 .rw[Zd q,Zd q,Zd q,ch,b]
 .rw[Ze q,Ze q,Ze q,Uc,Uc];rfl
@[simp]def lM (fo)(sd):CZ fo sd=(fo sd).bind λd=>.ofO (CY d):=rfl
def Rq (h:r ≠ [])(a:r.length<1000):CY (xX r)=some (.lst ((JS jU r).map qJ)):=by
 show(YS _ _).bind _=_
 simp_all [Ra]
@[simp]def sv (f)(sd):iS f sd=(f sd).bind λd=>.ofO (VW d):=rfl
@[simp]def pZ (ds):VW (.lst ds)=some ds:=rfl
@[simp]def pY (ds):VW (.tup ds)=some ds:=rfl
def KG:YG->Res YG
 | [.int j]=>if WK j then .ok (JP 0 j.toNat) else .no
 |_=>.no
@[simp]def ra (fr)(sd):zn fr sd=(fr sd).bind KG:=by
 rfl
def VX (a: -1000000000<=j)(b:j<=1000000000):KG [.int j]=.ok (JP 0 j.toNat):=Zd (GA a b)
def Xu {lo:Int}{n i:Nat}{x:D}(h:(JP lo n)[i]? = some x):x=.int (lo+i)/\i<n:=by
 grind[JP,List.getElem?_map,List.length_range]
def Wp (lo)(n):(JP lo n).length=n:=by unfold JP;simp
def qL (tg:Tg)(b:FS)(ds:YG)(sd:SD):Res Out:=yD (λx sd=>(JM tg x sd).bind b) ds sd
@[simp]def De (it)(tg)(b)(sd):jQ it tg b sd=(it sd).bind λds=>qL tg b ds sd:=rfl
@[simp]def gH (tg:Tg)(b:FS)(sd:SD):qL tg b [] sd=.ok (.next sd):=rfl
@[simp]def GO (i)(d)(sd):JM (.one i) d sd=.ok (sd.set i (some (.val d))):=rfl
@[simp]def lc (i j)(a b)(sd):JM (.tup [i,j]) (.tup [a,b]) sd=.ok ((sd.set i (some (.val a))).set j (some (.val b))):=rfl
@[simp]def l9 (i j)(p)(sd):JM (.tup [i,j]) (qJ p) sd=.ok ((sd.set i (some (.val (.int p.1)))).set j (some (.val (.int p.2)))):=rfl
def Uk (P:Nat->SD->Prop)(l:P 0 sd)(hs:∀i (x:D) sd,ds[i]? = some x->P i sd->∃sd',(JM tg x sd).bind b=.ok (.next sd')/\P (i+1) sd'):∃sd',qL tg b ds sd=.ok (.next sd')/\P ds.length sd':=by
 have c:∀k i sd,ds.length-i=k->i<=ds.length->P i sd->∃sd',qL tg b (ds.drop i) sd=.ok (.next sd')/\P ds.length sd':=by
  intro k
  induction k with
  |zero =>
   intro i sd e f p;have:i=ds.length:=()
   simp_all
  |succ k g =>
   intro i sd e f p;have a:i<ds.length:=()
   rw[Uq a];obtain⟨sd',m,h⟩:=hs i ds[i] sd () p;have ⟨j,n,o⟩:=g (i+1) sd' () a h
   simp_all [qL,yD]
 grind
def WN (R:Res Out->Prop)(P:Nat->SD->Prop)(j:P 0 sd)(l:∀sd,P ds.length sd->R (.ok (.next sd)))
 (hs:∀i x sd,ds[i]? = some x->P i sd->(∃sd',((JM tg x sd).bind b=.ok (.next sd')\/(JM tg x sd).bind b=.ok (.cont sd'))/\P (i+1) sd')\/(∃sd',(JM tg x sd).bind b=.ok (.brk sd')/\R (.ok (.next sd')))\/∃d,(JM tg x sd).bind b=.ok (.ret d)/\R (.ok (.ret d))):R (qL tg b ds sd):=by
 have g:∀k i sd,ds.length-i=k->i<=ds.length->P i sd->R (qL tg b (ds.drop i) sd):=by
  intro k
  induction k with
  |zero =>
   intro i sd e h p;have:i=ds.length:=()
   simp_all
  |succ k f =>
   intro i sd e h p;have a:i<ds.length:=()
   rw[Uq a];unfold qL yD;rcases hs i ds[i] sd () p with ⟨sd',h1|h1,c⟩|⟨sd',h1,c⟩|⟨d,h1,c⟩
   .rw[h1];exact f (i+1) sd' () a c
   .rw[h1];exact f (i+1) sd' () a c
   .rwa [h1]
   .rwa [h1]
 grind
def GP {α β γ: Type}{f:α -> Res β}{k:γ -> α}{g:γ -> β}{a:List γ}(h:∀x∈a,f (k x)=.ok (g x)):yh f (a.map k)=.ok (a.map g):=by
 induction a with
 |nil=>rfl
 |cons x a b =>
  simp_all [yh]
def jR (tg:Tg)(f:FE)(c:SD)(ds:YG):Res YG:=yh (λx=>(JM tg x c).bind f) ds
@[simp]def bO (cap)(it)(tg)(f)(sd):JZ cap it tg f sd=(it sd).bind λds=>if VU (jX cap sd) tg=true/\ds.length<sizeLine then(jR tg f (jX cap sd) ds).bind λys=>.ok (.lst ys) else .no:=rfl
def fP:Option (Option SV)->Option SV
 |some (some (.val d))=>some (.val d)
 |_=>none
@[simp]def fO (d):fP (some (some (.val d)))=some (.val d):=rfl
@[simp]def fQ (sd):jX [] sd=[]:=rfl
@[simp]def rj (cap)(sd):jX (none::cap) sd=none::jX cap sd:=rfl
@[simp]def ri (j)(cap)(sd):jX (some j::cap) sd=fP sd[j]? :: jX cap sd:=rfl
@[simp]def l8 (sd)(i):VU sd (.one i)=V9 sd i:=rfl
@[simp]def lJ (sd)(is):VU sd (.tup is)=is.all (V9 sd):=rfl
@[simp]def kL (sd:SD):V9 (none::sd) 0=true:=rfl
@[simp]def kK (o)(sd:SD)(i):V9 (o::sd) (i+1)=V9 sd i:=rfl
def Ki {α: Type}{k:α -> D}{g:α -> D}{a:List α}(h:∀x∈a,(JM tg (k x) c).bind f=.ok (g x)):jR tg f c (a.map k)=.ok (a.map g):=GP h
def YT {tg:Tg}{f:FE}{c:SD}{lo:Int}{n:Nat}{g:Nat->D}(h:∀i,i<n->(JM tg (.int (lo+i)) c).bind f=.ok (g i)):jR tg f c (JP lo n)=.ok ((List.range n).map g):=GP ()
@[simp]def lj (cap)(it)(tg)(c)(f)(sd):WL cap it tg c f sd=(it sd).bind λds=>if VU (jX cap sd) tg=true/\ds.length<sizeLine then(KZ tg c f (jX cap sd) ds).bind λys=>.ok (.lst ys) else .no:=rfl
def Df {α: Type}{k:α -> D}{s:α -> SD}{p:α -> Bool}{g:α -> D}{a:List α}(b:∀x∈a,JM tg (k x) sd=.ok (s x))(e:∀x∈a,c (s x)=.ok (p x))(h:∀x∈a,p x=true->f (s x)=.ok (g x)):
 KZ tg c f sd (a.map k)=.ok ((a.filter p).map g):=by
 induction a with
 |nil=>rfl
 |cons x a i =>
  grind[KZ,List.map_cons,List.filter_cons,ji]
def JT (h:n<=1000):n<sizeLine:=Fb h
def Qh {α: Type}(a:List α)(lo b st:Option Int):List α:= (sliceRange (sliceBounds lo b st a.length).1 (sliceBounds lo b st a.length).2.1 (sliceBounds lo b st a.length).2.2).filterMap (a[·]?)
def GQ (its)(lo hi st):slicePick its.toArray lo hi st=(Qh its lo hi st).toArray:=by
 simp_all [slicePick,Qh]
def Rr {a:YE}{its:Yf}(r:jo a its)(lo hi st):jo (Qh a lo hi st) (Qh its lo hi st):=by
 unfold Qh;rw[r.length];generalize sliceRange _ _ _=ix
 induction ix with
 |nil=>exact .nil
 |cons i ix c =>
  rw[UX,UX];cases b:a[i]? with
  |none=>rwa [r.none_of b]
  |some x =>
   obtain⟨u,e,f⟩:=r.get b;rw[e];exact .cons f c
def Rs {K:W.Frag}{H:Hp}{ds:YG}{a:YE}(r:jd K H ds a)(lo hi st):jd K H (Qh ds lo hi st) (Qh a lo hi st):=by
 unfold Qh;rw[r.length];generalize sliceRange _ _ _=ix
 induction ix with
 |nil=>rfl
 |cons i ix b =>
  rw[UX,UX];cases c:ds[i]? with
  |none =>
   have e:a[i]? = none:=List.getElem?_eq_none_iff.mpr (by rw[r.length];simp_all)
   rwa [e]
  |some x =>
   obtain⟨u,f,g⟩:=r.get c;rw[f];exact .mk g b
def GR {α β: Type}(f:α -> β)(xs)(lo hi st):Qh (xs.map f) lo hi st=(Qh xs lo hi st).map f:=by
 grind[Qh,Zql,List.filterMap_cons,List.getElem?_map]
def Rt {α: Type}(a:List α)(lo hi st):(Qh a lo hi st).length<=a.length:=by
 have h:=slicePick_size_le (a.map λ_=>Value.none).toArray lo hi st
 simp_all [GQ,GR]
section
variable {X:Cx}{E:XK}{m:Option Bool}{a b o i e f tg:Expr}{fa fb fo fi fv fe:FE}{fr:FA}{pos pos' apos cpos p p2:Pos}{lo hi st:Option Expr}
abbrev FO:=SD->Res (Option Int)
def pf (K:W.Frag)(E:XK)(f:FO):TO:=λZ H Q=>∃B F sd,RS K B F H sd Z /\ (f sd).need (λo=>∀g c,Ext F H g c->Q o c) (XW K E F H)
def Wq:FO:=λ_=>.ok none
def Wr (f:FE):FO:=λsd=>(f sd).bind λd=>match d with
 | .int i=>.ok (some i)
 |_=>.no
abbrev QO (X:Cx)(E:XK)(e:Option Expr)(f:FO):Prop:=PO X e (pf X.K E f)
def PO.weak {e:Option Expr}{t t':TO}(h:PO X e t)(w:∀Z H Q,t' Z H Q->t Z H Q):PO X e t':=λY s Z H Q I q=>h Y s Z H Q I (w _ _ _ q)
def YU:QO X E none Wq:=PO.weak NE λZ H Q ⟨B,F,sd,r,n⟩=>n F H (.refl r.ext.fh)
def AY (h:QE X E e fe):QO X E (some e) (Wr fe):=PO.weak (NF h) λZ H Q g=>by
 obtain⟨B,F,sd,r,n⟩:=g;refine⟨B,F,sd,r,(ja n).mono (λd c v j l s t=>?_) λ_ _ q=>q⟩;cases d with
 |int i=>exact⟨i,je.mp t,c j l s⟩
 |_=>exact c.elim
def mK (K:W.Frag):V->Option Int->Option Int->Option Int->Hp->VK->Prop:=λx lo hi st H Q=>∃a c,x=.ref a/\qp K H a c/\st≠some 0/\∀p,H p=none->Q (.ref p) (upd H p (.lst (Qh c lo hi st)))
def mr (r:V->Option Int->Option Int->Option Int->Hp->VK->Prop)(g:TE)(h j n:TO):TE:=λZ H Q=>g Z H λx q=>h Z q λl s=>j Z s λu t=>n Z t λc v=>r x l u c v Q
def Ru {t:TE}{w y z:TO}(J:PE X e t)(K:PO X lo w)(L:PO X hi y)(hs:PO X st z):PE X (.Subscript e (.Slice lo hi st p2) pos) (mr (mK X.K) t w y z):=by
 intro Y s Z H Q I h;refine Subscript_ (jH (J Y s Z H _ I h) λv M ⟨x,N,O,P,R⟩=>(wpAny_Slice (jH (K Y M Z N _ O R) λA S ⟨l,T,U,pl,q2⟩=>jH (L Y S Z T _ U q2) λB s3 ⟨u,H3,I3,pu,q3⟩=>jH (hs Y s3 Z H3 _ I3 q3) λC g ⟨c,H4,I4,ps,q4⟩=>?_)));obtain⟨a,F,rfl,hx,h0,q⟩:=q4;obtain rfl:=P;have j:Inv X Y Z H4 { g with heap:=g.heap.push { cls:=.type "slice",data:=.fields #[A,B,C] } }:=I4.kept λb ob q=>Zq _ q;obtain⟨its,r,n,hz⟩:=j.list hx;have G:=r.length
 suffices fin:YI X (getItem (.ref a) (.ref g.heap.objs.size)) (EP X Y Z Q) X.xe { g with heap:=g.heap.push { cls:=.type "slice",data:=.fields #[A,B,C] } } by
  cases st with
  |none=>exact tail_any n.isList.typeIs slot_list_getitem.lookup fin (by rfl)
  |some c=>exact tail_any n.isList.typeIs slot_list_getitem.lookup fin (by rfl)
 refine wpAny_getItem_list_slice n.isList (Heap.IsSliceOf.new ..) pl pu ps h0 ?_ ();rw[GQ];exact⟨.ref _,_,j.laid (o:=.lst (Qh F l u c)) (λb ob q=>Zq _ q) (Zf _) ⟨Zh (Rt F l u c) hz,_,0,Rr r l u c,Zr _ rfl⟩,rfl,q _ (j.hok.fresh (Zf _))⟩
def bo:D->Option Int->Option Int->Option Int->YH
 | .lst ds,lo,hi,st=>if st=some 0 then none else some (.lst (Qh ds lo hi st))
 | .scr ns,lo,hi,st=>if st=some 0 then none else some (.lst ((Qh ns lo hi st).map .int))
 |_,_,_,_=>none
def uf (fe:FE)(g j fs:FO):FE:=λsd=>(fe sd).bind λd=>(g sd).bind λl=>(j sd).bind λh=>(fs sd).bind λc=>.ofO (bo d l h c)
def Dg {A C fs:FO}(J:QE X E e fe)(K:QO X E lo A)(L:QO X E hi C)(hs:QO X E st fs):QN X E (.Subscript e (.Slice lo hi st p2) pos) (uf fe A C fs):=PE.weak (Ru J K L hs) λZ H Q M=>by
 obtain⟨B,F,sd,r,n⟩:=M;refine⟨B,F,sd,r,(ja n).mono (λd N v O H1 j G=>⟨B,O,sd,r.step j,(ja N).mono (λl P R H2 s=>(⟨B,R,sd,(r.step j).step s,(ja P).mono (λh S T H3 w=>⟨B,T,sd,((r.step j).step s).step w,(ja S).mono (λc U I H4 t=>?_) λ_ _ q=>q.ext ((j.trans s).trans w)⟩) λ_ _ q=>q.ext (j.trans s)⟩)) λ_ _ q=>q.ext j⟩) λ_ _ q=>q⟩;obtain⟨z,hz,q⟩:=jg U;have g:=((s.trans w).trans t);have u:=j.trans g;cases d with
 |lst ds =>
  have hz:(if c=some 0 then none else some (D.lst (Qh ds l h c)))=some z:=hz
  split at hz
  .exact J5 hz
  .rename_i x;obtain rfl:=Zqi hz;obtain⟨a,Y,rfl,y,h2⟩:=G;exact⟨a,Y,rfl,((y.same g.ff).same g.fh).sq,x,λp hp=>q p I _ (u.trans (.keep t.fh hp _)) (Qd u.hh hp) (Qd t.fh hp) ⟨_,JL,Rs (jd.same g.ff _ _ h2) l h c⟩⟩
 |scr ns =>
  have hz:(if c=some 0 then none else some (D.lst ((Qh ns l h c).map .int)))=some z:=hz
  split at hz
  .exact J5 hz
  .rename_i x;obtain rfl:=Zqi hz;obtain⟨a,rfl,y⟩:=G;refine⟨a,_,rfl,jk.seq g.fh (jk.seq g.ff y),x,λp hp=>q p I _ (u.trans (.keep t.fh hp _)) (Qd u.hh hp) (Qd t.fh hp) ⟨_,JL,?_⟩⟩;rw[GR];exact qg _
 |_=>exact J5 hz
@[simp]def sr (fe)(fl fh fs)(sd):uf fe fl fh fs sd=(fe sd).bind λd=>(fl sd).bind λl=>(fh sd).bind λh=>(fs sd).bind λc=>.ofO (bo d l h c):=rfl
@[simp]def lg (sd):Wq sd=.ok none:=rfl
def Dh:D->Res (Option Int)
 | .int i=>.ok (some i)
 |_=>.no
@[simp]def lI (i):Dh (.int i)=.ok (some i):=rfl
@[simp]def bF (f)(sd):Wr f sd=(f sd).bind Dh:=by
 rfl
@[simp]def gn (ds)(lo hi):bo (.lst ds) lo hi none=some (.lst (Qh ds lo hi none)):=rfl
def Rv {ds:Yh}{lo hi:Option Int}{c:Int}(h:c≠0):bo (.scr ds) lo hi (some c)=some (.lst ((Qh ds lo hi (some c)).map .int)):=Ze λz=>h (Zqi z)
def AZ (i:Nat)(c fv:FE):FS:=λsd=>(fv sd).bind λv=>match sd[i]? with
 |some (some (.own false (.lst ds)))=>(c sd).bind λk=>match k with
  | .int k=>match y0 ds.length k with
   |some j=>.ok (.next (sd.set i (some (.own false (.lst (ds.set j v))))))
   |none=>.no
  |_=>.no
 |_=>.no
def Rx {j:Nat}(A:PE X o (xy j))(hi:QE X E i fi)(C:QE X E e fv)(G:∀v,assign (.Subscript o i pos') X.env v=(do
 let s <- holding [v] (eval o X.env)
 let u <- holding [v,s] (eval i X.env)
 standAt pos'
 holding [v,s,u] (setItem s u v)
 release [v,s,u] []):=by intro _;rfl) (hs:swapsWithSole [.Subscript o i pos'] e pos.line X.env=pure false:=by rfl) (I:swappedStores [.Subscript o i pos'] e X.env=pure none:=by rfl)
 (t:(assignEach [.Subscript o i pos'] X.env).map (·.2)=[assign (.Subscript o i pos') X.env]:=by rfl):QS X E m (.Assign [.Subscript o i pos'] e pos) (AZ j fi fv):=PS.weak (E6 C (E5 A hi EQ G) hs I t) λT Z H J=>by
 obtain⟨B,F,sd,r,n⟩:=J;refine⟨B,F,sd,r,(ja n).mono (λd x v K Q c L=>?_) λ_ _ q=>q.ext r.ext⟩
 split at x
 .rename_i ds y;obtain⟨l,t,R,S,⟨M,N,z⟩,_⟩:=(r.step c).own y;refine⟨.ref l,t,B,K,sd,r.step c,(ja x).mono (λk g w O U h P=>?_) λ_ _ q=>q.ext (r.step c).ext⟩
  split at g
  .rename_i k
   split at g
   .rename_i q Y;have hl:=z.length;exact⟨l,M,k,q,rfl,je.mp P,(h.hh _ _ N),(),g Z O _ (c.ff.trans h.ff) (((r.step c).step h).chg y t ⟨_,JL,(jd.same h.ff _ _ z).set q (jf.same h.ff _ _ L)⟩)⟩
   .exact g.elim
  .exact g.elim
 .exact x.elim
@[simp]def bJ (i)(fk fv)(sd):AZ i fk fv sd=(fv sd).bind λv=>(va sd[i]?).bind λds=>(fk sd).bind λk=>(Dh k).bind λk=>(Res.ofO (y0 ds.length (k.getD 0))).bind λj=>.ok (.next (sd.set i (some (.own false (.lst (ds.set j v)))))):=by
 unfold AZ;cases fv sd with
 |ok v =>
  cases sd[i]? with
  |none=>rfl
  |some o =>
   cases o with
   |none=>rfl
   |some w =>
    cases w with
    |val d=>rfl
    |own p d =>
     cases p with
     |true=>cases d<;>rfl
     |false =>
      cases d with
      |lst ds =>
       cases fk sd with
       |ok k =>
        cases k with
        |int k=>show(match y0 ds.length k with|some j=>_|none=>_)=(Res.ofO (y0 ds.length k)).bind _;cases y0 ds.length k<;>rfl
        |_=>rfl
       |ex c fs=>rfl
       |no=>rfl
      |_=>rfl
 |ex c fs=>rfl
 |no=>rfl
@[simp]def f6 (i)(fb)(sd):WM i fb sd=(vD sd[i]?).bind λd=>(fb sd).bind λy=>.ofO (jF d y):=by
 unfold WM;cases sd[i]? with
 |none=>rfl
 |some o =>
  cases o with
  |none=>rfl
  |some v=>cases v<;>rfl
@[simp]def gB (c:Bool):xj c .non=some (.bl (!c)):=rfl
@[simp]def gC (c:Bool)(i:YG):xj c (.lst i)=some (.bl c):=rfl
def Ws:YG->YH
 | [.lst ds]=>(Qt Kg ds).bind λrs=>if(∀r∈rs,r ≠ [])/\rs.length<1000 then some (.lst ((JS j6 rs).map js)) else none
 |_=>none
def GS (u:X.A.units+64<cLine):jO X (.builtin "sorted") (wd X.K Ws):=jO.weak (Pa u) λC H Q w=>by
 obtain⟨F,ds,z,c,id,hz,q⟩:=w;unfold Ws at hz
 split at hz
 .obtain⟨rs,y,hz⟩:=Jg.mp hz
  split at hz
  .rename_i r;obtain rfl:=Zqi hz;obtain⟨v,rfl,h⟩:=Qu id;rw[AM y,jj] at h;obtain⟨a,ys,rfl,A,s⟩:=h;refine⟨a,ys,rs,rfl,A.same c,zY.mp (jd.same c _ _ s),r.1,r.2,λl ix g j t=>(q l F _ (.keep c g _) g (Qd c g) ⟨_,JL,?_⟩)⟩;rw[<- t,Zw];clear t
   induction ix with
   |nil=>exact .nil
   |cons i ix G =>
    rw[Zl,Zl];have hi:=j i Zqs;obtain⟨x,B,n⟩:=s.get (d:=js (rs.getD i [])) (by rw[Zv,Zqg hi,Qf (Zqg hi)];rfl);rw[Qf B];exact .mk n ()
  .exact J5 hz
 simp_all
end
end L2.DL
namespace L2
section
variable {X:Cx}
def Ry (i:X.calm=true):jO X (.builtin "sum") (λf H Q=>∃(a:Addr) (ns:Yh),f=[.ref a]/\qp X.K H a (ns.map V.int)/\Q (.int ns.sum) H):=by
 intro Y s Z H f o Q I r h;obtain⟨a,ns,rfl,j,q⟩:=h;obtain⟨u,rfl,l⟩:=QD r;obtain rfl:=l;obtain⟨its,m,p,hz⟩:=I.list j;have g:=Cb m;obtain⟨ys,e⟩:=g.allInts.items;have c:ns=ys.toList.map (·.1):=by
  rw[<- g.numsOf,<- nums_intItems,<- e]
 have b:=p.isList;rw[e] at b;refine sum_intListG (I.ok.hd i) b λt tk t' n=>(⟨.int ns.sum,H,I.kept n,⟨t',?_⟩,q⟩);rw[preSum_eq,UJ (),<- c]
def Rz {bs:List Bool}{its:Yf}(r:jo (bs.map V.bl) its)(i:Nat)(v:Value)(h:its.toArray[i]? = some v):v=.bool (bs.getD i false):=by
 have a:its[i]? = some v:=by simp_all
 have g:=(Jc.mp a).1;have c:=r.length;rw[Zql] at c;have e:bs[i]? = some bs[i]:=by simp
 obtain⟨u,b,f⟩:=r.get (i:=i) (x:=.bl bs[i]) ();rw[a] at b;obtain rfl:=Zqi b;rw[f,Us,e];rfl
def R0 (bs:List Bool):(List.range bs.length).all (λi=>bs.getD i false)=bs.all id:=by
 apply Vf.mpr;rw[UU,UU];constructor
 .intro h b c;obtain⟨i,a,rfl⟩:=Uz c;have:=h i (Jh.mpr a)
  rwa [Us,Zqg a] at this
 .intro h i a;have a:=Jh.mp a;rw[Us,Zqg a];exact h _ (UE a)
def R1 (l:X.calm=true):jO X (.builtin "all") (λg H Q=>∃(a:Addr) (bs:List Bool),g=[.ref a]/\qp X.K H a (bs.map V.bl)/\Q (.bl (bs.all id)) H):=by
 intro Y s Z H g B Q I r h;obtain⟨a,bs,rfl,m,q⟩:=h;obtain⟨u,rfl,n⟩:=QD r;obtain rfl:=n;obtain⟨its,j,p,hz⟩:=I.list m;have f:a<s.heap.objs.size:=by obtain⟨_,e,_⟩:=p.isList;exact Zk e
 have c:=j.length;rw[Zql] at c;refine call_all_walk (wpAny_pyIter_list p.isList ⟨_,_,_,_,_,_,λi=>bs.getD i false,rfl,Walks.list (A:=X.A.in1) (I.ok.hd l) s.heap.objs.size a (Zi f) its.toArray,⟨⟨_,Zr _ rfl,rfl,rfl⟩,p.isList.push _⟩,?_,λC tk t=>?_⟩)
 .intro i v s' E F w x;have y:=Rz j i v w;subst y;exact wpAny_of_eq rfl x
 .rw[Zm,<- c,R0];refine⟨.bl _,H,I.kept λb o e=>t b o ?_ (Zq _ e),rfl,q⟩;intro z;rw[(Jd.mp z)] at e;exact Zy _ (Zk e)
end
end L2
namespace L2.DL
def vG:D->Option Bool
 | .bl i=>some i
 |_=>none
def R3 (h:vG d=some i):d=.bl i:=by
 cases d with
 |bl j=>cases h;rfl
 |_=>exact J5 h
theorem xp {K:W.Frag}{H:Hp}:∀{bs:List Bool} {a:YE},jd K H (bs.map D.bl) a->a=bs.map V.bl
 | [],_,h=>jd.nil_iff.mp h
 |b::bs,_,h=>by
  obtain⟨x,r,rfl,c,e⟩:=h;rw[jn.mp c,xp e];rfl
def Ba:D->Option (List Bool)
 | .lst ds=>Qt vG ds
 |_=>none
def R4 {K:W.Frag}{H:Hp}{d:D}{ns:List Bool}{v:V}(h:Ba d=some ns)(i:jf K H d v):∃a,v=.ref a/\xo K H a (ns.map V.bl):=by
 cases d with
 |lst ds =>
  obtain⟨a,e,rfl,c,b⟩:=i;rw[Y9 (λ_ _=>R3) (h)] at b;rw[xp b] at c
  simp_all
 |_=>exact J5 h
def R5 (ns:List Bool):Ba (.lst (ns.map D.bl))=some ns:=by
 have h:=Y8 (f:=vG) (g:=D.bl) (λ_=>rfl) ns
 rwa [List.map_id'] at h
def wg:YG->YH
 | [d]=>(Xr d).bind λns=>some (.int ns.sum)
 |_=>none
def zo:YG->YH
 | [d]=>(Ba d).bind λns=>some (.bl (ns.all id))
 |_=>none
section
variable {X:Cx}{E:XK}{m:Option Bool}{a b o i e f tg:Expr}{fa fb fo fi fv fe:FE}{fr:FA}{pos pos' apos cpos p p2:Pos}{lo hi st:Option Expr}
def fR (g:X.calm=true):jO X (.builtin "sum") (we X.K wg):=jO.weak (Ry g) λr H Q j=>by
 obtain⟨F,ds,z,c,id,hz,q⟩:=j;unfold wg at hz
 split at hz
 .obtain⟨ns,l,hz⟩:=Jg.mp hz;obtain rfl:=Zqi hz;obtain⟨v,rfl,h⟩:=Qu id;obtain⟨a,rfl,n⟩:=CQ l h;exact⟨a,ns,rfl,(n.same c).sq,q _ F H (.refl c) (y9 _ F)⟩
 simp_all
def fS (g:X.calm=true):jO X (.builtin "all") (we X.K zo):=jO.weak (R1 g) λr H Q j=>by
 obtain⟨F,ds,z,c,id,hz,q⟩:=j;unfold zo at hz
 split at hz
 .obtain⟨ns,l,hz⟩:=Jg.mp hz;obtain rfl:=Zqi hz;obtain⟨v,rfl,h⟩:=Qu id;obtain⟨a,rfl,n⟩:=R4 l h;exact⟨a,ns,rfl,(n.same c).sq,q _ F H (.refl c) (zD _ F)⟩
 simp_all
end
@[simp]def l0 (ns:Yh):wg [.lst (ns.map .int)]=some (.int ns.sum):=by
 show(Xr _).bind _=_;rw[CS];rfl
def R6 (ns:List Bool):zo [.lst (ns.map .bl)]=some (.bl (ns.all id)):=by
 show(Ba _).bind _=_;rw[R5];rfl
end L2.DL
namespace L2
def R7:bootBuiltins "all" = some (.builtin "all"):=boot_all
end L2
namespace L2.DL
def Di (i:Nat)(v:SV)(tg:Tg)(b:FS)(ds:YG)(sd:SD):Res Out:=xV i v (λx sd=>(JM tg x sd).bind b) ds sd
def R8 (P:Nat->SD->Prop)(hp:∀j sd,P j sd->pinned k sd=true)(q:P 0 sd)(hs:∀(i:Nat) (x:D) (sd:SD),ds[i]? = some x->P i sd->∃sd',(JM tg x sd).bind b=.ok (.next sd')/\P (i+1) sd'):∃sd',Di k v tg b ds sd=.ok (.next (sd'.set k (some v)))/\P ds.length sd':=by
 unfold Di;have f:∀(m i:Nat) (sd:SD),ds.length-i=m->i<=ds.length->P i sd->∃sd',xV k v (λx sd=>(JM tg x sd).bind b) (ds.drop i) sd=.ok (.next (sd'.set k (some v)))/\P ds.length sd':=by
  intro m
  induction m with
  |zero =>
   intro i sd e g p;have:i=ds.length:=()
   subst this;rw[UT];refine⟨sd,?_,p⟩;unfold xV Xm;rw[Zd (hp _ _ p)]
  |succ m h =>
   intro i sd e g p;have a:i<ds.length:=()
   rw[Uq a];have ⟨sd',l,n⟩:=hs i ds[i] sd () p;have ⟨c,r,o⟩:=h (i+1) sd' () a n;refine⟨c,?_,o⟩;unfold xV
   rwa [Zd (hp _ _ p),l]
 grind
end L2.DL
namespace L2
section
variable {X:Cx}{Y:Yb}{Z: St}{H:Hp}{s:Shared}{h':Heap}
def Inv.turnedL {t':Nat}{ch:Yl}(I:Inv X Y Z H s)(k:∀b o,b∉ch->s.heap.get? b=some o->h'.get? b=some o)(f:∀b∈ch,xg X Y H b):Inv X Y Z H { s with heap:=h',toks:=t' }:=by
 have g:∀b u,H b=some u->b∉ch:=λb u e z=>by rw[(f b z).1] at e;exact J5 e
 refine I.step (λb h=>?_) (λb o _ _ a e _=>k b o a e) (λb o _ _ a e _=>⟨o.slots,k b o a e⟩) (λ_ _ _ _ n=>n)
  (λb o a e=>⟨o,k b o a e⟩) (λ_ _ e=>e) (λ_ _ _ e=>e) (λb ps e=>⟨#[],by rw[e];simp⟩) (λm i=>?_) (λb u e=>?_) I.bare
 .obtain⟨_,j,_,l,p,t⟩:=f b h;exact⟨l,j,p,t⟩
 .obtain⟨o,es,ep,w,r⟩:=i;exact⟨o,es,ep,k _ o (λz=>(f _ z).2.1 rfl) w,r⟩
 .refine(I.hok b u e).stay (λc v a q=>k c v ?_ q) (λ_ q=>q) λ_ _ q=>q
  grind
theorem xg.upd (h:xg X Y H b)(n:b≠T):xg X Y (upd H T o) b:=⟨(JI n).trans h.1,h.2⟩
def Inv.paired {t':Nat}{ch:Yl}{x y:V}{u v:Value}(I:Inv X Y Z H s)(c:jp x u)(f:jp y v)(g:∀b∈ch,xg X Y H b)(h:∀b∈ch,b≠s.heap.objs.size)
 (j:h'.get? s.heap.objs.size=some { cls:=.type "tuple",data:=.seq #[u,v] }) (k:∀b o,b∉ch->s.heap.get? b=some o->h'.get? b=some o):
 Inv X Y Z (upd H s.heap.objs.size (.tup [x,y])) { s with heap:=h',toks:=t' }:=by
 have i:Inv X Y Z (upd H s.heap.objs.size (.tup [x,y])) { s with heap:=s.heap.push { cls:=.type "tuple",data:=.seq #[u,v] },toks:=s.toks } :=
  I.laid (λb o e=>Zq _ e) (Zf _) ⟨⟨by simp only[sizeLine_eq,Zu,ZC];lia,_,Zr _ rfl,rfl⟩,[u,v],.cons c (.cons f .nil),_,Zr _ rfl,rfl,_,rfl⟩
 refine Inv.turnedL (s:={ s with heap:=s.heap.push { cls:=.type "tuple",data:=.seq #[u,v] },toks:=s.toks }) i (λb o a e=>?_) λb a=>(g b a).upd (h b a)
 grind[Heap.get?_push_cases]
end
def r3 (K:W.Frag)(a:Addr):It:=
 ⟨λi H=>∃b x,qp K H a b/\b[i]? = some x,
  λi H v c=>∃T x,v=.ref T/\H T=none/\c=upd H T (.tup [.int i,x])/\∀b,qp K H a b->b[i]? = some x,
  λi H=>∃b,qp K H a b/\b.length<=i⟩
def R9 (e it a:Addr)(i:Nat)(h:Heap):Prop:=(∃b,IsEnum h e it i b)/\h.IsListIter it a i
def RA {P:Program}{w:World}{K:W.Frag}{l:Ym}{kx}{B:Pos}(a e it:Addr)(m:e≠it):Turn P w K (.Tuple l kx B) (r3 K a) [e,it] e (R9 e it a) where
 mem:=by simp
 obj:=λi h st c b=>by
  obtain⟨⟨f,j⟩,⟨Q,O,c1,d1⟩⟩:=st
  grind
 keep:=λi h t st v=>⟨(let ⟨f,j⟩:=st.1;⟨f,v e () _ j⟩),st.2.at λo q=>v it () o q⟩
 item:=by
  intro X C F G b i Y s Z H E I y st J;subst C F G;obtain⟨R,x,A,L⟩:=J;obtain⟨its,M,p,hz⟩:=I.list A;obtain⟨u,S,T⟩:=M.get L;obtain⟨⟨f,j⟩,g⟩:=id st;obtain⟨Q,O,_⟩:=id g;refine wpAny_pyNext_enum_item j g p.isList (x:=u) (by simpa using S) m λt U a2 a3 a4 v=>?_;refine⟨_,rfl,wpAny_letOwnedTupleGo_enum (s:={ s with heap:=t,toks:=s.toks+1 }) U λh2 b1 n=>?_⟩;have n:Heap.SameBut e t h2:=n;have lt:∀{c o},s.heap.get? c=some o->c≠s.heap.objs.size:=λq=>Zi (Zk q);have r:∀c ∈ [e,it],c≠s.heap.objs.size:=λc b=>by
   simp only[UV,Vc,or_false] at b;rcases b with rfl|rfl
   .exact lt j
   .exact lt O
  have N:s.heap.objs.size≠e:=λq=>lt j q.symm;have I2:=I.paired (t':=s.toks+1) (x:=.int i) ⟨_,rfl⟩ T y r (n.extBut _ _ N a3) (λc o b q=>by
   simp only[UV,Vc,or_false,not_or] at b;exact n.extBut c o b.1 (v c o b.1 b.2 q))
  refine⟨.ref s.heap.objs.size,_,I2,rfl,⟨_,x,rfl,I.hok.fresh (Zf _),rfl,λzs hq=>by rw[I.list_inj hq A];exact L⟩,⟨⟨u,?_⟩,a2.extBut n.extBut (Ne.symm m)⟩,λc b=>(JI (r c b)).trans (y c b).1⟩
  grind
 done:=by
  intro X C F G b i Y s Z H E I y st J;subst C F G;obtain⟨R,A,L⟩:=J;obtain⟨its,M,p,hz⟩:=I.list A;have l1:=M.length;obtain⟨⟨f,j⟩,g⟩:=id st;refine wpAny_pyNext_enum_end (I.ok.hd b) j g p.isList (by simp;lia) λt eb=>⟨rfl,I.turnedL (ch:=[it]) (λc o b q=>?_) λc b=>y c ?_⟩
  .exact eb c o (λz=>b (by simp[z])) q
  simp_all
 self:=λ_ _ _ _ _ st h=>wpAny_pyIter_enum st.1.choose_spec h
section
variable {X:Cx}
def kZ (K:W.Frag)(c:TA):TI:=λZ H R=>c Z H λe b=>∃a,e=[.ref a]/\(∃f,qp K b a f)/\R (r3 K a) b
def RB {a:Expr}{l:TA}{p f:Pos}{g:Ym}{kx}{o:Pos}(t:Gl X "enumerate")(u:X.mg "enumerate" = none)(v:PA X [a] l)(hs:starEach [a] X.env=[(false,eval a X.env)]:=by rfl):
 PI X (.Tuple g kx o) (.Call (.Name "enumerate" p) [a] [] f) (kZ X.K l):=by
 intro Y s Z H R I h;refine Call_ (WY I t u (show bootBuiltins "enumerate" = some (.type "enumerate") by kernel_rfl) (PyProof.Rows.callWith_type1 (jH (v f Y s Z H _ I h) λE b ⟨F,w,j,x,y⟩=>?_) hs rfl));obtain⟨a,e,⟨G,z⟩,q⟩:=y;subst e;cases x with
 |cons r A =>
  cases A;cases r;obtain⟨its,J,p,hz⟩:=j.list z;refine call_enumerate_list p.isList λK m B L C=>wpAny_pyIter_enum m (⟨b.heap.objs.size+1,[b.heap.objs.size+1,b.heap.objs.size],_,_,w,rfl,j.kept C,RA a (b.heap.objs.size+1) b.heap.objs.size (Nat.succ_ne_self _),⟨⟨_,m⟩,B⟩,λc n=>?_,q⟩);have i:b.heap.objs.size<=c:=by
   simp at n;rcases n with rfl|rfl<;>first|exact Zf _|exact Uj _ _
  exact j.fpOk i (j.hok.fresh i)
end
end L2
namespace L2.DL
def RC {K:W.Frag}{F:Hp}{d:D}{ds:YG}{v:V}(h:CU d=some ds)(i:jf K F d v):∃a b,v=.ref a/\qp K F a b/\jd K F ds b:=by
 cases d with
 |lst es =>
  obtain rfl:=Zqi h;obtain⟨a,b,rfl,c,e⟩:=i;exact⟨a,b,rfl,c.sq,e⟩
 |scr ns =>
  obtain rfl:=Zqi h;obtain⟨a,rfl,c⟩:=i;exact⟨a,_,rfl,c,qg ns⟩
 |_=>exact J5 h
def Um (a:YG):YG:=List.zipWith (λ(k:Nat) x=>D.tup [.int k,x]) (List.range a.length) a
def Bb:YG->Res YG
 | [d]=>(Res.ofO (CU d)).bind λa=>.ok (Um a)
 |_=>.no
def nv (a:FA):FA:=λsd=>(a sd).bind Bb
@[simp]def rb (a:FA)(sd:SD):nv a sd=(a sd).bind Bb:=rfl
@[simp]def lD (a:YG):Bb [.lst a]=.ok (Um a):=rfl
def GT (ds:YG)(i:Nat):(Um ds)[i]? = ds[i]?.map λx=>D.tup [.int i,x]:=by
 grind[Um,List.getElem?_zipWith]
def RE (ds:YG):(Um ds).length=ds.length:=by grind[Um,List.length_zipWith,List.length_range,Nat.min_self]
def RF {K:W.Frag}{c:Hp}{a:Addr}{ds:YG}{b:YE}(o:qp K c a b)(f:jd K c ds b):wu K c (r3 K a) (Um ds):=λi s t g h=>by
 have e:=jk.seq h (jk.seq g o);have u:=f.length;rw[RE];refine⟨λj=>?_,λj=>⟨b,e,()⟩⟩;obtain⟨x,l,ix⟩:=f.get (Zqg j);refine⟨⟨b,x,e,l⟩,λv w p=>?_⟩;obtain⟨T,y,rfl,q,rfl,r⟩:=p;have m:=r b e;rw[l] at m;obtain rfl:=Zqi m;have n:=qh h q (.tup [.int i,x]);refine⟨.tup [.int i,ds[i]],_,?_,n,ju.mpr ⟨T,_,rfl,.of JL,.mk (je.mpr rfl) (.mk (jf.same (g.trans n.ff) _ _ ix) .nil)⟩⟩
 simp_all [GT]
section
variable {X:Cx}{E:XK}{fr:FA}{p pos tp:Pos}{elts:Ym}
def RG {a:Expr}{kx}(f:Gl X "enumerate")(g:X.mg "enumerate" = none)(i:QA X E [a] fr)(hs:starEach [a] X.env=[(false,eval a X.env)]:=by rfl):QI X E (.Tuple elts kx tp) (.Call (.Name "enumerate" p) [a] [] pos) (nv fr):=PI.weak (RB f g i hs) λZ H R j=>by
 obtain⟨B,F,sd,r,n⟩:=j;refine⟨B,F,sd,r,(ja n).mono (λds b x l m c o=>?_) λ_ _ q=>q⟩;unfold Bb at b
 split at b
 .obtain⟨y,s,t⟩:=jg (ja b);obtain⟨v,rfl,h⟩:=Qu o;obtain⟨u,z,rfl,e,w⟩:=RC s h;exact⟨u,rfl,⟨_,jk.seq c.fh e⟩,t _ l m c (RF e w)⟩
 .exact b.elim
end
end L2.DL
namespace L2.ST
open PySem
def yK:Nat->Nat->Nat
 | 0,z=>z
 |n+1,z=>yK n (5*z+1)
def GU (a b z):yK (a+b) z=yK b (yK a z):=by
 induction a generalizing z with
 |zero=>rw[Nat.zero_add];rfl
 |succ a c=>rw[Nat.succ_add];exact c _
def GV (n z d):yK n (z+d)=yK n z+5 ^ n*d:=by
 induction n generalizing z d with
 |zero=>simp[yK]
 |succ n a =>
  show yK n (5*(z+d)+1)=yK n (5*z+1)+5 ^ (n+1)*d
  grind
def mM (n):5 ^ n % 4=1:=by
 induction n with
 |zero=>rfl
 |succ n a=>lia
def RH (k z):∃u,yK (2 ^ k) z=z+2 ^ k*(2*u+1):=by
 induction k generalizing z with
 |zero=>exact⟨2*z,by show 5*z+1=z+1*(2*(2*z)+1);lia⟩
 |succ k b =>
  obtain⟨u,a⟩:=b z;have e:2 ^ (k+1)=2 ^ k+2 ^ k:=()
  rw[e,GU,a,GV,a];have c:=mM (2 ^ k);have ⟨v,hv⟩:∃v,5 ^ (2 ^ k)=4*v+1:=⟨5 ^ (2 ^ k) / 4,()⟩;refine⟨2*u*(2*v+1) / 2+v,?_⟩;have:2*u*(2*v+1) / 2=u*(2*v+1):=by grind
  grind
def RJ (m n z):yK n z % m=yK n (z % m) % m:=by
 have h:=GV n (z % m) (m*(z / m));rw[Nat.mod_add_div] at h;rw[h,<- Nat.mul_assoc,Nat.mul_comm _ m,Nat.mul_assoc,Nat.add_mul_mod_self_left]
theorem Dj:∀k x y,y<2 ^ k->∃q,q<2 ^ k/\yK q x % 2 ^ k=y
 | 0,x,y,h=>by grind
 |k+1,x,y,h=>by
  have e:2 ^ (k+1)=2*2 ^ k:=()
  have hp:0<2 ^ k:=Nat.two_pow_pos k;obtain⟨q,n,g⟩:=Dj k x (y % 2 ^ k) (UA _ hp);rw[e] at h ⊢;by_cases c:yK q x % (2*2 ^ k)=y
  .grind
  .refine⟨q+2 ^ k,(),?_⟩;rw[GU];obtain⟨u,i⟩:=RH k (yK q x);rw[i];generalize yK q x=w at *;generalize 2 ^ k=m at *;have j:w+m*(2*u+1)=(w+m)+(2*m)*u:=by grind
   rw[j,Nat.add_mul_mod_self_left];have d1:=Nat.div_add_mod w m;have f:=UA w (show 0<2*m from ());rw[g] at d1;have a:w % (2*m) % m=y % m:=by rwa [Nat.mod_mul_left_mod]
   have a1:w % (2*m)<m\/m<=w % (2*m):=()
   have a2:y<m\/m<=y:=()
   have b:∀t,t<2*m->m<=t->t % m=t-m:=λt o l=>by
    rw[Nat.mod_eq_sub_mod l,UW ()]
   rw[Nat.add_mod,UW (show m<2*m from ())];generalize w % (2*m)=t at *;rcases a1 with a1|a1<;>rcases a2 with a2|a2
   .rw[UW a1,UW a2] at a;exact Zn a c
   .rw[UW a1,b y h a2] at a;rw[UW ()];lia
   .rw[UW a2,b t f a1] at a;rw[Nat.mod_eq_sub_mod (),UW ()];lia
   .rw[b t f a1,b y h a2] at a;exact Zn () c
def JG (t:YD):Nat->SetTable.Probe->SetTable.Probe
 | 0,p=>p
 |n+1,p=>JG t n (t.advance p)
def YV (t)(a b)(p):JG t (a+b) p=JG t b (JG t a p):=by
 induction a generalizing p with
 |zero=>rw[Nat.zero_add];rfl
 |succ a c=>rw[Nat.succ_add];exact c _
def RK (t)(n)(p):JG t (n+1) p=t.advance (JG t n p):=YV t n 1 p
def Ko (mask i pert:Nat):SetTable.Probe:={ j:=i,more:=SetTable.runEnd mask i-i,i:=i,perturb:=pert,dummy:=none }
def qH (mask:Nat):Nat->Nat×Nat->Nat×Nat
 | 0,s=>s
 |n+1,s=>qH mask n (SetTable.leap mask s.1 s.2)
def Bc (mask i):SetTable.runEnd mask i-i<=9:=by
 grind[SetTable.runEnd]
def GW (t)(m):∀p,p.more=m->p.dummy=none->JG t (m+1) p=Ko t.mask (SetTable.leap t.mask p.i p.perturb).1 (SetTable.leap t.mask p.i p.perturb).2:=by
 induction m with
 |zero =>
  intro p a b;show t.advance p=_
  simp_all [SetTable.advance,Ko]
 |succ m c =>
  intro p a b;show JG t (m+1) (t.advance p)=_
  simp_all [SetTable.advance]
theorem GX (t):∀r i pert,∃n,n<=10*r/\JG t n (Ko t.mask i pert)=Ko t.mask (qH t.mask r (i,pert)).1 (qH t.mask r (i,pert)).2
 | 0,i,pert=>⟨0,Zf _,rfl⟩
 |r+1,i,pert=>by
  have ⟨n,a,b⟩:=GX t r (SetTable.leap t.mask i pert).1 (SetTable.leap t.mask i pert).2;have c:=Bc t.mask i;refine⟨(SetTable.runEnd t.mask i-i+1)+n,(),?_⟩
  rwa [YV,(GW t (SetTable.runEnd t.mask i-i) (Ko t.mask i pert) rfl rfl)]
def GY (mask a b)(s):qH mask (a+b) s=qH mask b (qH mask a s):=by
 induction a generalizing s with
 |zero=>rw[Nat.zero_add];rfl
 |succ a c=>rw[Nat.succ_add];exact c _
theorem Dk (mask):∀r s,(qH mask r s).2=s.2 / 32 ^ r
 | 0,s=>by show s.2=_;rw[Nat.pow_zero,Nat.div_one]
 |r+1,s=>by
  show(qH mask r (SetTable.leap mask s.1 s.2)).2=_;rw[Dk mask r];show s.2 / 32 / 32 ^ r=_;rw[Nat.div_div_eq_div_mul,Nat.pow_succ,Nat.mul_comm 32]
theorem Dl (mask):∀r i,i<mask+1->qH mask r (i,0)=(yK r i % (mask+1),0)
 | 0,i,h=>by
  show(i,0)=(i % (mask+1),0);rw[UW h]
 |r+1,i,h=>by
  show qH mask r ((i*5+1+0 / 32) % (mask+1),0 / 32)=(yK r (5*i+1) % (mask+1),0);rw[Nat.zero_div,Nat.add_zero,Dl mask r _ (UA _ ()),<- RJ,Nat.mul_comm i 5]
def GZ (mask r)(s)(h:s.1<mask+1):(qH mask r s).1<mask+1:=by
 induction r generalizing s with
 |zero=>exact h
 |succ r a=>exact a _ (UA _ ())
def fL (c:t.mask+1=2 ^ k)(h)(f:y<=t.mask):∃n,n<10*SetTable.turns t.mask/\(JG t n (t.probeStart h)).j=y:=by
 have hs:t.probeStart h=Ko t.mask (SetTable.bits h % (t.mask+1)) (SetTable.bits h):=rfl;have g:SetTable.bits h<2 ^ 64:=by
  grind[SetTable.bits]
 have i:=GZ t.mask 13 (SetTable.bits h % (t.mask+1),SetTable.bits h) (UA _ ());have hp:(qH t.mask 13 (SetTable.bits h % (t.mask+1),SetTable.bits h)).2=0:=by
  grind[Dk]
 have ⟨q,j,e⟩:=Dj k (qH t.mask 13 (SetTable.bits h % (t.mask+1),SetTable.bits h)).1 y ();have a:qH t.mask (13+q) (SetTable.bits h % (t.mask+1),SetTable.bits h)=(y,0):=by
  rw[GY]
  grind[Dl]
 have ⟨n,l,b⟩:=GX t (13+q) (SetTable.bits h % (t.mask+1)) (SetTable.bits h);refine⟨n,by unfold SetTable.turns;lia,?_⟩;rw[hs,b,a];rfl
def Ha {t:YD}{p:SetTable.Probe}(h:p.dummy=none):(t.advance p).dummy=none:=by
 grind[SetTable.advance]
def RL {t:YD}{p:SetTable.Probe}(h:p.dummy=none)(n):(JG t n p).dummy=none:=by
 induction n generalizing p with
 |zero=>exact h
 |succ n a=>exact a (Ha h)
theorem Hb {t:YD}{hashAt:Nat->Int}{h:Int}:∀k fuel p,k<fuel->p.dummy=none->(∀m,m<k->∃i,t.slot (JG t m p).j=.live i)->t.slot (JG t k p).j=.empty ->
 (∃m i,m<k/\t.slot (JG t m p).j=.live i/\hashAt i=h/\SetTable.probe.go t hashAt h fuel p=some (.candidate (JG t m p).j i (JG t (m+1) p))/\∀a b,a<m->t.slot (JG t a p).j=.live b->hashAt b≠h) \/
 (SetTable.probe.go t hashAt h fuel p=some (.empty (JG t k p).j none)/\∀a b,a<k->t.slot (JG t a p).j=.live b->hashAt b≠h)
 | 0,0,p,hf,_,_,_=>()
 | 0,fuel+1,p,_,hd,_,e=>by
  have e:t.slot p.j=.empty:=e;refine .inr ⟨?_,()⟩;unfold SetTable.probe.go;rw[e,hd];rfl
 |k+1,0,p,hf,_,_,_=>()
 |k+1,fuel+1,p,hf,hd,hl,e=>by
  have ⟨i,f⟩:=hl 0 (Vd _);have f:t.slot p.j=.live i:=f;by_cases c:hashAt i=h
  .refine .inl ⟨0,i,Vd _,f,c,?_,()⟩;unfold SetTable.probe.go;rw[f];show(if(hashAt i == h)=true then _ else _)=_;rw[Zd ()];rfl
  .have j:SetTable.probe.go t hashAt h (fuel+1) p=SetTable.probe.go t hashAt h fuel (t.advance p):=by
    simp_all [SetTable.probe.go]
   rcases Hb k fuel (t.advance p) () (Ha hd) (λm l=>hl (m+1) ()) e with ⟨m,n,o,g,q,s,r⟩|⟨o,g⟩
   .refine .inl ⟨m+1,n,(),g,q,by rwa [j],λa b l hs=>?_⟩;cases a with
    |zero =>
     simp_all
    |succ a=>exact r a b () hs
   .refine .inr ⟨by rwa [j],λa b l hs=>?_⟩;cases a with
    |zero =>
     simp_all
    |succ a=>exact g a b () hs
open PySem
def wv (a:Yi):Prop:=∀i j,i<j->j<a.size->a.getD i 0<a.getD j 0
def Kp {α: Type}{a:Array α}(h)(d):a.getD i d=a[i]:=()
theorem Dm (u:wv xs):∀fuel lo a,a-lo<=fuel->lo<=a->a<=xs.size->(∀i,i<lo->xs.getD i 0<j)->(∀i,a<=i->i<xs.size->j<=xs.getD i 0) ->
 SetTable.below.go xs j fuel lo a<=xs.size/\(∀i,i<SetTable.below.go xs j fuel lo a->xs.getD i 0<j)/\∀i,SetTable.below.go xs j fuel lo a<=i->i<xs.size->j<=xs.getD i 0
 | 0,lo,a,hf,hl,hs,h1,h2=>by
  have e:lo=a:=()
  subst e;unfold SetTable.below.go;exact⟨hs,h1,h2⟩
 |fuel+1,lo,a,hf,hl,hs,h1,h2=>by
  unfold SetTable.below.go;by_cases c:lo<a
  .rw[Zd c];obtain⟨m,e,l,m2,n,o⟩:=Ft (k:=fuel+1) (x:=0) c hf;have f:m<xs.size:=Zg m2 hs;have h:xs.getD m j=xs.getD m 0:=by rw[Kp f,Kp f]
   show(if xs.getD ((lo+a) / 2) j<j then _ else _)<=xs.size/\(∀i,i<(if xs.getD ((lo+a) / 2) j<j then _ else _)->_)/\∀i,(if xs.getD ((lo+a) / 2) j<j then _ else _)<=i->_;rw[e];by_cases d:xs.getD m j<j
   .rw[Zd d];rw[h] at d;refine Dm u fuel (m+1) a o m2 hs (λi b=>?_) h2;by_cases q:i=m
    .rw[q];exact d
    .exact Ug (u i m (UB (Ur b) q) f) d
   .rw[Ze d];rw[h] at d;refine Dm u fuel lo m n l (Zz f) h1 λi b g=>?_;by_cases q:i=m
    .rw[q];exact Nat.le_of_not_lt d
    .exact Zz (UH (Nat.le_of_not_lt d) (u m i (UB b (Ne.symm q)) g))
  .rw[Ze c];have e:lo=a:=()
   subst e;exact⟨hs,h1,h2⟩
def Bd (u:wv xs)(j):SetTable.below xs j<=xs.size/\(∀i,i<SetTable.below xs j->xs.getD i 0<j)/\∀i,SetTable.below xs j<=i->i<xs.size->j<=xs.getD i 0:=
 Dm u xs.size 0 xs.size () () (Zf _) () ()
def RM (u:wv xs)(c:i<xs.size):SetTable.below xs (xs.getD i 0)=i:=by
 obtain⟨g,e,f⟩:=Bd u (xs.getD i 0);generalize SetTable.below xs (xs.getD i 0)=p at *;rcases Ve p i with q|q|q
 .have a:=u p i q c;have b:=f p (Zf _) ();lia
 .exact q
 .have:=e i q;lia
def yy (t:YD)(j:Nat):Prop:=∃i,i<t.place.size/\t.place.getD i 0=j
def Hc (j):SetTable.has #[] j=false:=rfl
def Hd {t:YD}(u:wv t.place){i j:Nat}(a:i<t.place.size)(e:t.place.getD i 0=j):t.slot j=.live i:=by
 unfold SetTable.slot;have b:SetTable.below t.place j=i:=by rw[<- e];exact RM u a
 simp_all
def RN (b:t.dummies = #[])(h:¬yy t j):t.slot j=.empty:=by
 unfold SetTable.slot;have c:¬(t.place[SetTable.below t.place j]? == some j)=true:=by
  intro z;have z:t.place[SetTable.below t.place j]? = some j:=by simpa using z
  obtain⟨a,e⟩:=Jw.mp z;exact h ⟨_,a,by rwa [Kp a]⟩
 simp_all [Hc]
def RO (u:wv t.place)(h:yy t j):∃i,t.slot j=.live i/\i<t.place.size/\t.place.getD i 0=j:=by
 obtain⟨i,a,e⟩:=h;exact⟨i,Hd u a e,a,e⟩
def RP {t t':YD}(h:t.mask=t'.mask)(p):t.advance p=t'.advance p:=by
 unfold SetTable.advance;rw[h]
def He {t t':YD}(h:t.mask=t'.mask)(n)(p):JG t n p=JG t' n p:=by
 induction n generalizing p with
 |zero=>rfl
 |succ n a=>show JG t n (t.advance p)=JG t' n (t'.advance p);rw[RP h,a]
def Hf {t t':YD}(h:t.mask=t'.mask)(x):t.probeStart x=t'.probeStart x:=by
 unfold SetTable.probeStart;rw[h]
def v3 (t:YD)(o:Nat->Prop)(x:Int)(y:Nat):Prop:=∃n,(JG t n (t.probeStart x)).j=y/\∀m,m<n->o (JG t m (t.probeStart x)).j
def v3.mono {t t':YD}{o c:Nat->Prop}{x:Int}{y:Nat}(h:v3 t o x y)(a:t.mask=t'.mask)(e:∀j,o j->c j):v3 t' c x y:=by
 obtain⟨n,g,f⟩:=h;refine⟨n,?_,λm b=>?_⟩
 .rwa [<- He a,<- Hf a]
 .rw[<- He a,<- Hf a];exact e _ (f m b)
structure TabOk (t:YD)(hs:Array Int):Prop where
 size:t.place.size=hs.size
 up:wv t.place
 le:∀i,i<t.place.size->t.place.getD i 0<=t.mask
 nod:t.dummies = #[]
 pow:∃k,t.mask+1=2 ^ k
 room:t.place.size<=t.mask
 ways:∀i,i<t.place.size->v3 t (yy t) (hs.getD i 0) (t.place.getD i 0)
def RQ (u:wv xs)(hs:xs.size<=m):∃y,y<=m/\∀i,i<xs.size->xs.getD i 0≠y:=by
 by_cases h:∀i,i<xs.size->xs.getD i 0=i
 .exact⟨m,Zf _,λi j e=>()⟩
 .obtain⟨i,j,hne,hmin⟩:∃i,i<xs.size/\xs.getD i 0≠i/\∀k,k<i->xs.getD k 0=k:=by
   have g:∀n,n<=xs.size->(∀k,k<n->xs.getD k 0=k)\/∃i,i<xs.size/\xs.getD i 0≠i/\∀k,k<i->xs.getD k 0=k:=by
    intro n
    induction n with
    |zero=>intro _;exact .inl λk f=>Zn f (UO _)
    |succ n l =>
     intro o;rcases l () with q|q
     .by_cases c:xs.getD n 0=n
      .refine .inl λk f=>?_;by_cases e:k=n
       .rwa [e]
       .exact q k ()
      .exact .inr ⟨n,(),c,q⟩
     .exact .inr q
   rcases g xs.size (Zf _) with q|q
   .exact Zn q h
   .exact q
  refine⟨i,(),λk f e=>?_⟩;rcases Ve k i with q|q|q
  .grind
  .subst q;exact hne e
  .have a:=u i k q f;have b:i<=xs.getD i 0:=by
    cases i with
    |zero=>exact Ua _
    |succ i =>
     have:=u i (i+1) () j;have:=hmin i ();lia
   lia
def RR (T:TabOk t hs)(x):∃n,n<10*SetTable.turns t.mask/\(∀m,m<n->yy t (JG t m (t.probeStart x)).j)/\¬yy t (JG t n (t.probeStart x)).j:=by
 obtain⟨k,g⟩:=T.pow;obtain⟨y,h,j⟩:=RQ T.up T.room;obtain⟨n,b,e⟩:=fL g x h;have a:¬yy t (JG t n (t.probeStart x)).j:=by
  rw[e];rintro⟨i,l,q⟩;exact j i l q
 have f:∀d n,n<=d->n<10*SetTable.turns t.mask->¬yy t (JG t n (t.probeStart x)).j->∃n,n<10*SetTable.turns t.mask/\(∀m,m<n->yy t (JG t m (t.probeStart x)).j)/\¬yy t (JG t n (t.probeStart x)).j:=by
  intro d
  induction d with
  |zero =>
   grind
  |succ d o =>
   intro n s b a;by_cases c:∀m,m<n->yy t (JG t m (t.probeStart x)).j
   .exact⟨n,b,c,a⟩
   .have ⟨m,p⟩:=Classical.not_forall.mp c;have ⟨u,r⟩:=Classical.not_imp.mp p;exact o m () () r
 exact f n n (Zf _) b a
def Dn {α: Type}(a:Array α)(hp:p<=a.size)(x):(SetTable.insertAt a p x).size=a.size+1:=by
 grind[SetTable.insertAt]
def Hg {α: Type}(a:Array α)(hp:p<=a.size)(x d)(i):(SetTable.insertAt a p x).getD i d=if i<p then a.getD i d else if i=p then x else a.getD (i-1) d:=by
 unfold SetTable.insertAt;simp only[VS]
 grind
def RU (T:TabOk t hs)(w:y<=t.mask)(A:¬yy t y)(B:v3 t (yy t) x y)(H:t.place.size+1<=t.mask):TabOk (t.put y).1 (SetTable.insertAt hs (t.put y).2 x)/\(t.put y).2<=hs.size/\(t.put y).1.mask=t.mask:=by
 obtain⟨q,C,E⟩:=Bd T.up y;have hp:(t.put y).2=SetTable.below t.place y:=rfl;have a:(t.put y).1.place=SetTable.insertAt t.place (SetTable.below t.place y) y:=rfl;have b:(t.put y).1.mask=t.mask:=rfl;have m:(t.put y).1.dummies = #[]:=by
  show(if SetTable.has t.dummies y then SetTable.eraseAt t.dummies (SetTable.below t.dummies y) else t.dummies)=_;rw[T.nod,Hc];rfl
 rw[hp];have F:∀i,SetTable.below t.place y<=i->i<t.place.size->y<t.place.getD i 0:=λi G r=>by
  have:=E i G r;have:t.place.getD i 0≠y:=λz=>A ⟨i,r,z⟩;lia
 generalize SetTable.below t.place y=p at *;have sz:(SetTable.insertAt t.place p y).size=t.place.size+1:=Dn _ q _;have h:=Hg t.place q y 0;have n:∀j,yy t j->yy (t.put y).1 j:=by
  rintro j ⟨i,l,e⟩;by_cases c:i<p
  .exact⟨i,by rw[a,sz];lia,by rw[a,h,Zd c];exact e⟩
  .exact⟨i+1,by rw[a,sz];lia,by rw[a,h,Ze (),Ze (),Nat.add_sub_cancel];exact e⟩
 have hsz:=T.size;refine⟨⟨?_,?_,?_,m,by rw[b];exact T.pow,(),?_⟩,(),b⟩
 .rw[a,sz,Dn _ ()];lia
 .intro i j o s;rw[a] at s ⊢;rw[sz] at s;rw[h,h];by_cases f:j<p
  .rw[Zd f,Zd ()];exact T.up i j o ()
  .rw[Ze f];by_cases g:j=p
   .rw[Zd g,Zd ()];exact C i ()
   .rw[Ze g];by_cases u:i<p
    .rw[Zd u];exact T.up i (j-1) () ()
    .rw[Ze u];by_cases v:i=p
     .rw[Zd v];exact F (j-1) () ()
     .rw[Ze v];exact T.up (i-1) (j-1) (Nat.sub_lt_sub_right () (by assumption)) ()
 .intro i l;rw[a] at l ⊢;rw[sz] at l;rw[h,b]
  split
  .exact T.le i ()
  .split
   .exact w
   .exact T.le (i-1) ()
 .intro i l;rw[a] at l ⊢;rw[sz] at l;rw[h,Hg hs () x 0];by_cases f:i<p
  .rw[Zd f,Zd f];exact(T.ways i ()).mono b.symm n
  .rw[Ze f,Ze f];by_cases g:i=p
   .rw[Zd g,Zd g];exact B.mono b.symm n
   .rw[Ze g,Ze g];exact(T.ways (i-1) ()).mono b.symm n
open PySem
theorem Be (t)(i pert):∀k,k<=SetTable.runEnd t.mask i-i->JG t k (Ko t.mask i pert)={ j:=i+k,more:=SetTable.runEnd t.mask i-i-k,i:=i,perturb:=pert,dummy:=none }
 | 0,_=>rfl
 |k+1,h=>by
  rw[RK,Be t i pert k ()]
  grind[SetTable.advance]
def Dp {mask i:Nat}(h:i<=mask):i<=SetTable.runEnd mask i/\SetTable.runEnd mask i<=mask:=by
 grind[SetTable.runEnd]
def yg (owner:Array (Option Nat))(j:Nat):Prop:=∃i,owner.getD j none=some i
theorem Hh {t:YD}{owner:Array (Option Nat)}(hs:owner.size=t.mask+1):∀fuel i pert y,i<=t.mask->SetTable.layClean.free t.mask owner fuel i pert=some y ->
 y<=t.mask/\owner.getD y none=none/\∃n,(JG t n (Ko t.mask i pert)).j=y/\∀m,m<n->yg owner (JG t m (Ko t.mask i pert)).j
 | 0,i,pert,y,_,h=>by unfold SetTable.layClean.free at h;exact J5 h
 |fuel+1,i,pert,y,hi,h=>by
  have j:=Dp hi;unfold SetTable.layClean.free at h;have l:∀{k},k<SetTable.runEnd t.mask i+1-i->k<=SetTable.runEnd t.mask i-i:=λa=>by
   rw[Nat.succ_sub j.1] at a;exact Ur a
  have o:∀{k},k<SetTable.runEnd t.mask i+1-i->i+k<owner.size:=λa=>by
   rw[hs];exact Nat.lt_succ_of_le (Zh (Nat.add_le_of_le_sub' j.1 (l a)) j.2)
  have e:∀k,k<SetTable.runEnd t.mask i+1-i->owner.getD (i+k) (some 0)=owner.getD (i+k) none:=λk a=>by
   rw[Kp (o a),Kp (o a)]
  have bz:∀k,k<SetTable.runEnd t.mask i+1-i->(!(owner.getD (i+k) (some 0)).isNone)=true->yg owner (i+k):=λk a p=>by
   rw[e k a] at p;unfold yg;cases q:owner.getD (i+k) none with
   |none=>rw[q] at p;exact JC p
   |some v=>exact⟨v,rfl⟩
  split at h
  .rename_i k a;obtain⟨r,b,s⟩:=List.find?_range_eq_some.mp a;have b:=Jh.mp b;obtain rfl:=Zqi h;refine⟨Ur (by have:=o b;rwa [hs] at this),?_,k,?_,λm f=>?_⟩
   .rw[e k b] at r;cases q:owner.getD (i+k) none with
    |none=>rfl
    |some v=>rw[q] at r;exact JC r
   .rw[Be t i pert k (l b)]
   .rw[Be t i pert m (l (Ug f b))];exact bz m (Ug f b) (s m f)
  .rename_i a;have s:=Jx.mp a;have w:(SetTable.leap t.mask i pert).1<=t.mask:=Jn.mp (UA _ (Vd _));obtain⟨x,z,n,A,B⟩:=Hh hs fuel _ _ y w h;have g:=GW t (SetTable.runEnd t.mask i-i) (Ko t.mask i pert) rfl rfl;have g:JG t (SetTable.runEnd t.mask i-i+1) (Ko t.mask i pert)=Ko t.mask (SetTable.leap t.mask i pert).1 (SetTable.leap t.mask i pert).2:=g;refine⟨x,z,SetTable.runEnd t.mask i-i+1+n,by rw[YV,g];exact A,λm f=>?_⟩;by_cases c:m<=SetTable.runEnd t.mask i-i
   .rw[Be t i pert m c];exact bz m () (s m ())
   .obtain⟨u,rfl⟩:∃u,m=SetTable.runEnd t.mask i-i+1+u:=⟨m-(SetTable.runEnd t.mask i-i+1),()⟩;rw[YV,g];exact B u ()
theorem Hi {mask:Nat}{owner:Array (Option Nat)}(hs:owner.size=mask+1):∀fuel i pert,i<=mask->SetTable.layClean.free mask owner fuel i pert=none->∀r,r<fuel->yg owner (qH mask r (i,pert)).1
 | 0,i,pert,_,_,r,hr=>Zn hr (UO _)
 |fuel+1,i,pert,hi,h,r,hr=>by
  have a:=Dp hi;unfold SetTable.layClean.free at h
  split at h
  .cases h
  .rename_i b;have c:(SetTable.leap mask i pert).1<=mask:=Jn.mp (UA _ (Vd _));cases r with
   |zero =>
    have f:=(Jx.mp b) 0 ();have e:owner.getD (i+0) (some 0)=owner.getD i none:=by grind
    rw[e] at f;show yg owner i;unfold yg;cases q:owner.getD i none with
    |none=>simp_all
    |some v=>simp
   |succ r=>exact Hi hs fuel _ _ c h r ()
def RV {mask k:Nat}(a:mask+1=2 ^ k)(h){y:Nat}(b:y<=mask):∃r,r<SetTable.turns mask/\(qH mask r (SetTable.bits h % (mask+1),SetTable.bits h)).1=y:=by
 have c:SetTable.bits h<2 ^ 64:=by
  grind[SetTable.bits]
 have f:=GZ mask 13 (SetTable.bits h % (mask+1),SetTable.bits h) (UA _ ());have hp:(qH mask 13 (SetTable.bits h % (mask+1),SetTable.bits h)).2=0:=by
  grind[Dk]
 have ⟨q,g,e⟩:=Dj k (qH mask 13 (SetTable.bits h % (mask+1),SetTable.bits h)).1 y ();refine⟨13+q,by unfold SetTable.turns;lia,?_⟩;rw[GY]
 grind[Dl]
structure LayOk (t:YD)(owner:Array (Option Nat))(hs:Yh):Prop where
 size:owner.size=t.mask+1
 lt:∀j i,owner.getD j none=some i->i<hs.length
 one:∀j j' i,owner.getD j none=some i->owner.getD j' none=some i->j=j'
 all:∀i,i<hs.length->∃j,j<=t.mask/\owner.getD j none=some i/\v3 t (yg owner) (hs.getD i 0) j
def RW {f:Nat->Nat}{n:Nat}(h:∀a b,a<n->b<n->f a=f b->a=b):((List.range n).map f).Nodup:=by
 grind[List.pairwise_map,List.Pairwise.imp_of_mem,List.nodup_range]
def RX {t:YD}{owner:Array (Option Nat)}{hs:Yh}(L:LayOk t owner hs)(p:hs.length<=t.mask):∃y,y<=t.mask/\owner.getD y none=none:=by
 apply Classical.byContradiction;intro j;have g:∀y,y<t.mask+1->∃i,owner.getD y none=some i:=λy h=>by
  cases q:owner.getD y none with
  |none=>grind
  |some i=>simp
 have l:((List.range (t.mask+1)).map λy=>(owner.getD y none).getD 0).Nodup:=RW λa b m n e=>by
  obtain⟨i,c⟩:=g a m;obtain⟨o,f⟩:=g b n;rw[c,f] at e;have e:i=o:=e;subst e;exact L.one a b i c f
 have sub:((List.range (t.mask+1)).map λy=>(owner.getD y none).getD 0) ⊆ List.range hs.length:=λz hz=>by
  obtain⟨y,h,rfl⟩:=Ja.mp hz;obtain⟨i,c⟩:=g y (Jh.mp h);rw[c];exact Jh.mpr (L.lt y i c)
 have:=VT l sub
 grind
def RY {owner:Array (Option Nat)}{y:Nat}(a:y<owner.size)(v)(j):(owner.setIfInBounds y v).getD j none=if j=y then v else owner.getD j none:=by
 simp
 grind
def RZ {t:YD}{owner:Array (Option Nat)}{hs:Yh}(L:LayOk t owner hs)(x:hs.length<=t.mask)(hp:∃k,t.mask+1=2 ^ k)(h):
 ∃y,SetTable.layClean.free t.mask owner (SetTable.turns t.mask) (SetTable.bits h % (t.mask+1)) (SetTable.bits h)=some y/\LayOk t (owner.setIfInBounds y (some hs.length)) (hs++[h]):=by
 have p:SetTable.bits h % (t.mask+1)<=t.mask:=Jn.mp (UA _ (Vd _));cases q:SetTable.layClean.free t.mask owner (SetTable.turns t.mask) (SetTable.bits h % (t.mask+1)) (SetTable.bits h) with
 |none =>
  obtain⟨k,A⟩:=hp;obtain⟨y,B,C⟩:=RX L x;obtain⟨r,E,e⟩:=RV A h B;obtain⟨i,hz⟩:=Hi L.size _ _ _ p q r E;rw[e,C] at hz;exact J5 hz
 |some y =>
  obtain⟨F,s,n,G,H⟩:=Hh L.size _ _ _ y p q;have l:=RY (owner:=owner) (y:=y) (by rw[L.size];lia) (some hs.length);have u:∀j,yg owner j->yg (owner.setIfInBounds y (some hs.length)) j:=by
   rintro j ⟨i,f⟩;refine⟨i,?_⟩;rw[l,Ze λz=>by rw[z,s] at f;cases f];exact f
  refine⟨y,rfl,⟨by rw[Array.size_setIfInBounds];exact L.size,λj i f=>?_,λj v i f g=>?_,λi o=>?_⟩⟩
  .rw[Ub,Ui];rw[l] at f
   split at f
   .simp_all
   .have:=L.lt j i f;lia
  .rw[l] at f g
   split at f
   .rename_i a;obtain rfl:=Zqi f
    split at g
    .rename_i b;rw[a,b]
    .have:=L.lt v _ g;lia
   .split at g
    .obtain rfl:=Zqi g;have:=L.lt j _ f;lia
    .exact L.one j v i f g
  .rw[Ub,Ui] at o;by_cases c:i<hs.length
   .have ⟨j,I,w,J⟩:=L.all i c;refine⟨j,I,?_,?_⟩
    .rwa [l,Ze λz=>by rw[z,s] at w;cases w]
    .have e:(hs++[h]).getD i 0=hs.getD i 0:=by
      rw[Us,Us,UP c]
     rw[e];exact J.mono rfl u
   .have e:i=hs.length:=()
    subst e;refine⟨y,F,by rw[l,Zd rfl],?_⟩;have e:(hs++[h]).getD hs.length 0=h:=by
     rw[Us,UQ (Zf _),Nat.sub_self];rfl
    rw[e];exact⟨n,G,λm K=>u _ (H m K)⟩
theorem Hj {t:YD}(hp:∃k,t.mask+1=2 ^ k):∀rest hs owner,LayOk t owner hs->hs.length+rest.length<=t.mask+1 ->
 ∃a,rest.foldl (init:=some (owner,hs.length)) (λb h=>do
  let (owner,k) <- b
  let j <- SetTable.layClean.free t.mask owner (SetTable.turns t.mask) (SetTable.bits h % (t.mask+1)) (SetTable.bits h)
  pure (owner.setIfInBounds j (some k),k+1))=some (a,hs.length+rest.length)/\LayOk t a (hs++rest)
 | [],hs,owner,L,_=>by grind
 |h::rest,hs,owner,L,hl=>by
  rw[Zu] at hl;obtain⟨y,e,c⟩:=RZ L () hp h;obtain⟨f,g,i⟩:=Hj hp rest (hs++[h]) _ c ()
  grind
def Sa {t:YD}(hp:∃k,t.mask+1=2 ^ k)(hs)(b:hs.size<=t.mask+1):∃owner,SetTable.layClean t.mask hs=some owner/\LayOk t owner hs.toList:=by
 have a:LayOk t (Array.replicate (t.mask+1) none) []:=by
  have z:∀j i,(Array.replicate (t.mask+1) (none:Option Nat)).getD j none≠some i:=λj i h=>by
   simp[Array.getElem?_replicate] at h
   split at h<;>exact J5 h
  exact⟨(),(),(),()⟩
 have ⟨o,e,L⟩:=Hj hp hs.toList [] _ a ()
 simp_all [SetTable.layClean]
open PySem
def Sb {owner:Array (Option Nat)}{j i:Nat}(h:owner.getD j none=some i):j<owner.size:=()
def KH (mask:Nat)(owner:Array (Option Nat)):List (Nat×Nat):=(List.range (mask+1)).filterMap λj=>(owner.getD j none).map (j,·)
def Sc:p∈KH mask owner↔p.1<=mask/\owner.getD p.1 none=some p.2:=by
 unfold KH;rw[List.mem_filterMap];constructor
 .rintro⟨j,a,e⟩;obtain⟨i,b,e⟩:=Jk.mp e;subst e;exact⟨Jn.mp (Jh.mp a),b⟩
 grind
def Se (mask)(owner):(KH mask owner).Pairwise λa b=>a.1<b.1:=by
 unfold KH;rw[List.pairwise_filterMap];refine List.pairwise_lt_range.imp λ{a b} c x e y f=>?_;obtain⟨i,_,rfl⟩:=Jk.mp e;obtain⟨g,_,rfl⟩:=Jk.mp f;exact c
def Dq {α: Type}(l:List α)(i)(d):l.toArray.getD i d=l.getD i d:=()
def Dr {α β: Type}(l:List α)(f:α -> β)(i)(hi)(d):(l.map f).getD i d=f l[i]:=()
def Sf {mask:Nat}(hp:∃k,mask+1=2 ^ k)(hs)(S:hs.size<=mask)(finger moves)(led plain):
 ∃t' c,SetTable.laid mask finger moves led plain hs=some (t',c)/\t'.mask=mask/\t'.moves=moves/\t'.led=led/\t'.plain=plain/\t'.finger=finger/\c.size=hs.size/\(∀k,k<c.size->c.getD k 0<hs.size)/\(∀k l,k<c.size->l<c.size->c.getD k 0=c.getD l 0->k=l)/\(∀i,i<hs.size->∃k,k<c.size/\c.getD k 0=i)/\TabOk t' (c.map λi=>hs.getD i 0):=by
 let C:YD:={ mask:=mask,place:=#[],dummies:=#[],finger:=0,led:=false,moves:=0,plain:=true }
 obtain⟨owner,e,L⟩:=Sa (t:=C) hp hs ();have e:SetTable.layClean mask hs=some owner:=e;have hsz:owner.size=mask+1:=L.size;have mem:=λp=>Sc (mask:=mask) (owner:=owner) (p:=p);have B:=Se mask owner;have x:((KH mask owner).map (·.2)).Nodup:=by
  unfold List.Nodup;rw[UZ];refine List.Pairwise.imp_of_mem (λ{a b} E F G n=>?_) B;have m:=((mem a).mp E).2;have u:=((mem b).mp F).2;rw[n] at m;have:=L.one _ _ _ m u;lia
 have v:((KH mask owner).map (·.2)) ⊆ List.range hs.size:=λz hz=>by
  obtain⟨p,hp,rfl⟩:=Ja.mp hz;have:=L.lt _ _ ((mem p).mp hp).2;exact Jh.mpr (by simpa using this)
 have o:List.range hs.size ⊆ ((KH mask owner).map (·.2)):=λi g=>by
  obtain⟨j,m,u,_⟩:=L.all i (by simpa using Jh.mp g);exact Ja.mpr ⟨(j,i),(mem (j,i)).mpr ⟨m,u⟩,rfl⟩
 have len:(KH mask owner).length=hs.size:=by
  have a:=VT x v;have b:=VT List.nodup_range o;rw[Zql,ZB] at a b;lia
 have H:SetTable.laid mask finger moves led plain hs=some ({ mask:=mask,place:=((KH mask owner).map (·.1)).toArray,dummies:=#[],finger:=finger,led:=led,moves:=moves,plain:=plain },((KH mask owner).map (·.2)).toArray):=by
  unfold SetTable.laid;rw[e];rfl
 generalize I:KH mask owner=lv at *;have w:∀i g,((lv.map (·.1)).toArray).getD i 0=lv[i].1:=λi g=>by rw[Dq,Dr _ _ _ g]
 have go:∀i g,((lv.map (·.2)).toArray).getD i 0=lv[i].2:=λi g=>by rw[Dq,Dr _ _ _ g]
 have r:=Jj.mp B;refine⟨_,_,H,rfl,rfl,rfl,rfl,rfl,by simpa using len,λk f=>?_,λk l f h n=>?_,λi g=>?_,?_⟩
 .have f:k<lv.length:=by simpa using f
  rw[go k f];have:=L.lt _ _ ((mem lv[k]).mp (UE f)).2;simpa using this
 .have f:k<lv.length:=by simpa using f
  have h:l<lv.length:=by simpa using h
  rw[go k f,go l h] at n;have m:=((mem lv[k]).mp (UE f)).2;have u:=((mem lv[l]).mp (UE h)).2;rw[n] at m;have T:=L.one _ _ _ m u;rcases Ve k l with q|q|q
  .have:=r k l f h q;lia
  .exact q
  .have:=r l k h f q;lia
 .obtain⟨p,hp,n⟩:=Ja.mp (o (Jh.mpr g));obtain⟨k,f,rfl⟩:=Uz hp;exact⟨k,by simpa using f,by rw[go k f];exact n⟩
 .have J:∀j,yg owner j->yy { mask:=mask,place:=(lv.map (·.1)).toArray,dummies:=#[],finger:=finger,led:=led,moves:=moves,plain:=plain } j:=by
   rintro j ⟨i,s⟩;have K:=Sb s;have M:(j,i)∈lv:=(mem (j,i)).mpr ⟨by show j<=mask;lia,s⟩;obtain⟨k,f,n⟩:=Uz M;exact⟨k,by simpa using f,by show((lv.map (·.1)).toArray).getD k 0=j;rw[w k f,n]⟩
  refine⟨(),λi j y s=>?_,λi g=>?_,rfl,hp,by show((lv.map (·.1)).toArray).size<=mask;simp;lia,λk f=>?_⟩
  .have s:j<lv.length:=by simpa using s
   show((lv.map (·.1)).toArray).getD i 0<((lv.map (·.1)).toArray).getD j 0;rw[w i (),w j s];exact r i j () s y
  .have g:i<lv.length:=by simpa using g
   show((lv.map (·.1)).toArray).getD i 0<=mask;rw[w i g];exact((mem lv[i]).mp (UE g)).1
  .have f:k<lv.length:=by simpa using f
   have m:=((mem lv[k]).mp (UE f)).2;have A:=L.lt _ _ m;obtain⟨j,U,N,O⟩:=L.all lv[k].2 A;have P:=L.one _ _ _ N m;subst P;have Q:(((lv.map (·.2)).toArray).map λi=>hs.getD i 0).getD k 0=hs.toList.getD lv[k].2 0:=by
    have R:((lv.map (·.2)).toArray).map (λi=>hs.getD i 0)=((lv.map (·.2)).map λi=>hs.getD i 0).toArray:=by simp
    rw[R,Dq,Zw,Dr _ _ _ f];show hs.getD lv[k].2 0=_;rw[VS,Us,Vl]
   rw[Q];show v3 _ _ _ (((lv.map (·.1)).toArray).getD k 0);rw[w k f];exact O.mono rfl J
theorem Hk:∀fuel a n,(∃k,a=2 ^ k)->n<a*2 ^ fuel->(∃k,SetTable.sizeAbove.go n fuel a=2 ^ k)/\n<SetTable.sizeAbove.go n fuel a
 | 0,a,n,hp,h=>by
  simp_all [SetTable.sizeAbove.go]
 |fuel+1,a,n,⟨k,hk⟩,h=>by
  unfold SetTable.sizeAbove.go
  split
  .exact Hk fuel (a*2) n ⟨k+1,()⟩ ()
  grind
def Hl (h:n<1000000000):(∃k,SetTable.sizeAbove n=2 ^ k)/\n<SetTable.sizeAbove n:=
 Hk 64 8 n ⟨3,rfl⟩ (Zg h (by decide))
theorem Hm:∀fuel a n,a<=2*n+8->SetTable.sizeAbove.go n fuel a<=2*n+8
 | 0,a,n,h=>h
 |fuel+1,a,n,h=>by
  unfold SetTable.sizeAbove.go
  split
  .exact Hm fuel (a*2) n ()
  lia
def Sh (n):SetTable.sizeAbove n<=2*n+8:=Hm 64 8 n ()
def Si {t:YD}{hs:Array Int}{wanted:Nat}(r:hs.size<=wanted)(f:wanted<1000000000):
 ∃t' a,t.relaid hs wanted=some (t',a)/\t'.led=t.led/\t'.plain=t.plain/\t'.mask+1=SetTable.sizeAbove wanted/\a.size=hs.size/\(∀k,k<a.size->a.getD k 0<hs.size)/\(∀k b,k<a.size->b<a.size->a.getD k 0=a.getD b 0->k=b)/\(∀i,i<hs.size->∃k,k<a.size/\a.getD k 0=i)/\TabOk t' (a.map λi=>hs.getD i 0):=by
 obtain⟨⟨k,s⟩,g⟩:=Hl f;have h:SetTable.sizeAbove wanted-1+1=SetTable.sizeAbove wanted:=()
 obtain⟨t',a,e,j,_,l,m,_,n,o,p,q,c⟩:=Sf ⟨k,by rwa [h]⟩ hs () t.finger (t.movedTo (SetTable.sizeAbove wanted-1)) t.led t.plain;exact⟨t',a,e,l,m,by rwa [j],n,o,p,q,c⟩
open PySem
variable {prog:Program}{w:World}{A:Around}{E:Ya}{s:Shared}
theorem TabOk.fits {t:YD}{es:Array (Int×Value)}(T:TabOk t (es.map (·.1))):t.fits es.size=true:=by
 have a:=T.size;rw[Ul] at a;unfold SetTable.fits SetTable.fill;rw[T.nod];simp[a,show es.size<=t.mask by have:=T.room;lia]
def Hn {es:Array (Int×Value)}{i:Nat}(hi):(es.map (·.1)).getD i 0=es[i].1:=()
def Ds {es:Array (Int×Value)}{i:Nat}(hi):(es[i]?.map (·.1)).getD 0=es[i].1:=()
def VY (t:YD)(p:SetTable.Probe):Prop:=p.j+p.more<=t.mask
def Ho (t)(h:i<=t.mask):VY t (Ko t.mask i pert):=by
 have:=Dp h;show i+(SetTable.runEnd t.mask i-i)<=t.mask;lia
def Sj (h:VY t p):VY t (t.advance p):=by
 unfold VY at h;unfold SetTable.advance
 split
 .show p.j+1+(p.more-1)<=t.mask;lia
 .have a:(SetTable.leap t.mask p.i p.perturb).1<=t.mask:=Jn.mp (UA _ (Vd _));exact Ho t (pert:=(SetTable.leap t.mask p.i p.perturb).2) a
def Sk (h:VY t p)(n):VY t (JG t n p):=by
 induction n generalizing p with
 |zero=>exact h
 |succ n a=>exact a (Sj h)
def Sl (t)(h):VY t (t.probeStart h):=Ho t (Jn.mp (UA _ (Vd _)))
def Sm (h:VY t p)(n):(JG t n p).j<=t.mask:=by
 have:=Sk h n
 grind[VY]
theorem Hq {a:Addr}{o:Obj}{es:Array (Int×Value)}{ep:Nat}{t:YD}{x:Value}{h:Int}{same:Value->Bool}{Q:SetFound->YC}{e:Nat}
 (O:s.heap.get? a=some o) (P:o.data=.set es ep t) (T:TabOk t (es.map (·.1))) (u:t.mask % 2=1)
 (hq:∀i (l:i<es.size),es[i].1=h->∀Q:Bool->YC,Q (same es[i].2) s->YJ prog w A (eqBool es[i].2 x) Q E s)
 (hr:∀i (l:i<es.size),∃b,es[i].2=.ref b)
 (hsn:t.led=true\/∀Q:Bool->YC,Q false s->YJ prog w A (searchCouldBeSeen x ((es.filter (·.1 == h)).toList.map (·.2))) Q E s)
 (he:e<10*SetTable.turns t.mask) (H:∀m,m<e->yy t (JG t m (t.probeStart h)).j) (r:¬yy t (JG t e (t.probeStart h)).j)
 (I:∀i (l:i<es.size),es[i].1=h->same es[i].2=true->Q (.there none) s)
 (v:(∀i (l:i<es.size),es[i].1=h->same es[i].2=false)->Q (.free (JG t e (t.probeStart h)).j false) s):
 ∀fuel c st,c<=e->e-c<fuel->st.getD (t.probeStart h)=JG t c (t.probeStart h) ->
  (∀m i l,m<c->t.slot (JG t m (t.probeStart h)).j=.live i->es[i].1=h->same es[i].2=false) ->
  YJ prog w A (setSearchFrom a x h true fuel st) Q E s
 | 0,c,st,hc,hf,_,_=>Zn hf (UO _)
 |fuel+1,c,st,hc,hf,hst,hno=>by
  have hsz:t.place.size=es.size:=by have:=T.size;rwa [Ul] at this
  show wpAny _ _ (_ >>= _) _ _ _;refine Za (wpAny_setState_of O P T.fits ?_);dsimp only;have hg:t.gaveWay=false:=by unfold SetTable.gaveWay;rw[u];rfl
  rw[hg];simp only[UD,if_false];have live:∀m,m<e->∃i,t.slot (JG t m (t.probeStart h)).j=.live i/\i<es.size/\t.place.getD i 0=(JG t m (t.probeStart h)).j:=λm hm=>by
   obtain⟨i,h1,h2,h3⟩:=RO T.up (H m hm);exact⟨i,h1,(),h3⟩
  have step:∀m,JG t m (JG t c (t.probeStart h))=JG t (c+m) (t.probeStart h):=λm=>(YV t c m _).symm;have F:∀g:Nat->Int,(∀i,g i=(es[i]?.map (·.1)).getD 0)->(∃m i,c<=m/\m<e/\t.slot (JG t m (t.probeStart h)).j=.live i/\g i=h/\t.probe g h (st.getD (t.probeStart h))=some (.candidate (JG t m (t.probeStart h)).j i (JG t (m+1) (t.probeStart h)))/\∀f j,c<=f->f<m->t.slot (JG t f (t.probeStart h)).j=.live j->g j≠h) \/
   (t.probe g h (st.getD (t.probeStart h))=some (.empty (JG t e (t.probeStart h)).j none)/\∀f j,c<=f->f<e->t.slot (JG t f (t.probeStart h)).j=.live j->g j≠h):=λg _=>by
   rw[hst];have sd:(JG t c (t.probeStart h)).dummy=none:=RL rfl c;have ek:c+(e-c)=e:=()
   rcases Hb (t:=t) (hashAt:=g) (h:=h) (e-c) (10*SetTable.turns t.mask) (JG t c (t.probeStart h)) () sd () (by rw[step,ek];exact RN T.nod r) with ⟨m,i,g1,g2,g3,g4,g5⟩|⟨g1,g2⟩
   .rw[step] at g2 g4;rw[step] at g4;refine .inl ⟨c+m,i,(),(),g2,g3,g4,λf j a1 a2 R=>g5 (f-c) j () (by rw[step,show c+(f-c)=f by lia];exact R)⟩
   .rw[step,ek] at g1;exact .inr ⟨g1,λf j a1 a2 R=>g2 (f-c) j () (by rw[step,show c+(f-c)=f by lia];exact R)⟩
  generalize B:t.probe _ h (st.getD (t.probeStart h))=met;have J:∀i l,es[i].1=h->∃m,m<e/\t.slot (JG t m (t.probeStart h)).j=.live i:=λi l C=>by
   obtain⟨n,S,n2⟩:=T.ways i ();rw[Hn l,C] at S n2;refine⟨n,?_,by rw[S];exact Hd T.up () rfl⟩;rcases Ve n e with q|q|q
   .exact q
   .subst q;exact Zn ⟨i,(),S.symm⟩ r
   .exact Zn (n2 e q) r
  rcases F _ (λi=>rfl) with ⟨m,i,c1,U,X,c4,c5,c6⟩|⟨c1,U⟩
  .have Y:=B.symm.trans c5;subst Y;obtain⟨i2,k1,k2,k3⟩:=live m U;rw[X] at k1;cases k1;have C:es[i].1=h:=by rw[<- Ds k2];exact c4
   dsimp only;have rest:YJ prog w A (do
    let some (_,y):=es[i]? | unsupported "internal:set-entry"
    let p <- holding [y] (eqBool y x)
    let (es',_,t') <- setState a
    if true&&p then return SetFound.there none
    let some same:=t'.sameMemory t.moves t.mask|unsupported "set.changed-during-lookup:is-the-new-block-at-the-old-address"
    let G <- match (if same then t'.slot (JG t m (t.probeStart h)).j else .empty) with
     | .live j=>match es'[j]? with
      |some (_,y')=>do pure (if <- isSame y' y then some j else none)
      |none=>pure none
     |_=>pure none
    match G with
    |none=>rule "set.search.anew";setSearchFrom a x h true fuel none
    |some j=>if p then return .there (some j) else setSearchFrom a x h true fuel (some (JG t (m+1) (t.probeStart h)))) Q E s:=by
    rw[Uy k2];dsimp only;refine Za (wpAny_holding (hq i k2 C _ ?_));refine Za (wpAny_setState_of O P T.fits ?_);dsimp only;cases hs:same es[i].2 with
    |true =>
     simp only[Bool.and_self,if_true];exact Zb (I i k2 C hs)
    |false =>
     simp only[Bool.and_false,UD,if_false];have Z:t.sameMemory t.moves t.mask=some true:=by unfold SetTable.sameMemory;rw[Zd (beq_self_eq_true _)]
     rw[Z];dsimp only;simp only[if_true];rw[X];dsimp only;rw[Uy k2];dsimp only;obtain⟨b,hb⟩:=hr i k2;have his:∀{Q':Bool->YC},Q' true s->YJ prog w A (isSame es[i].2 es[i].2) Q' E s:=λ{Q'} hq'=>by
      rw[hb];unfold isSame;dsimp only;rw[Zd (beq_self_eq_true _)];exact Zb hq'
     refine Za (his ?_);simp only[if_true];refine Za (Zb ?_);dsimp only;refine Hq O P T u hq hr hsn he H r I v fuel (m+1) _ () () rfl λf j K hm' N L=>?_;by_cases d1:f<c
     .exact hno f j K d1 N L
     .by_cases d2:f=m
      .subst d2;rw[X] at N;cases N;exact hs
      .exact Zn (by rw[Ds K];exact L) (c6 f j () () N)
   cases M:t.led with
   |true =>
    rw[Ze ()];exact rest
   |false =>
    rw[Zd ()];rcases hsn with z|hsn
    .rw[z] at M;cases M
    .refine Za (hsn _ ?_);rw[Ze ()];exact rest
  .have Y:=B.symm.trans c1;subst Y;dsimp only;refine Zb (v λi l C=>?_);obtain⟨m,m1,m2⟩:=J i l C;by_cases d1:m<c
   .exact hno m i l d1 m2 C
   .exact Zn (by rw[Ds l];exact C) (U m i () m1 m2)
def Sn {a:Addr}{o:Obj}{es:Array (Int×Value)}{ep:Nat}{t:YD}{x:Value}{h:Int}{same:Value->Bool}{Q:SetFound->YC}
 (p:s.heap.get? a=some o) (q:o.data=.set es ep t) (T:TabOk t (es.map (·.1))) (c:t.mask % 2=1) (B:t.mask<=9000)
 (r:∀i (l:i<es.size),es[i].1=h->∀Q:Bool->YC,Q (same es[i].2) s->YJ prog w A (eqBool es[i].2 x) Q E s)
 (u:∀i (l:i<es.size),∃b,es[i].2=.ref b)
 (m:t.led=true\/∀Q:Bool->YC,Q false s->YJ prog w A (searchCouldBeSeen x ((es.filter (·.1 == h)).toList.map (·.2))) Q E s)
 (n:∀i (l:i<es.size),es[i].1=h->same es[i].2=true->Q (.there none) s)
 (f:(∀i (l:i<es.size),es[i].1=h->same es[i].2=false)->∀y,y<=t.mask->¬yy t y->v3 t (yy t) h y->Q (.free y false) s):
 YJ prog w A (setSearch a x h true) Q E s:=have ⟨e,v,g,j⟩:=RR T h;Hq p q T c r u m v g j n (λz=>f z _ (Sm (Sl t h) e) j ⟨e,rfl,g⟩) 100000 0 none (Ua _) (by grind[SetTable.turns]) rfl ()
open PySem
theorem Hr:∀fuel a n,a<=SetTable.sizeAbove.go n fuel a
 | 0,a,n=>by simp_all [SetTable.sizeAbove.go]
 |fuel+1,a,n=>by
  unfold SetTable.sizeAbove.go
  split
  .exact Zh () (Hr fuel (a*2) n)
  .exact Zf _
def So (n):8<=SetTable.sizeAbove n:=Hr 64 8 n
def Sq {m k:Nat}(h:m+1=2 ^ k)(a:7<=m):m % 2=1:=by
 cases k with
 |zero=>lia
 |succ k=>lia
def Sr {b:Yi}{n:Nat}(o:∀k,k<b.size->b.getD k 0<n)(p:∀k m,k<b.size->m<b.size->b.getD k 0=b.getD m 0->k=m)(q:∀i,i<n->∃k,k<b.size/\b.getD k 0=i):b.toList.Perm (List.range n):=by
 have r:b.toList.Nodup:=by
  unfold List.Nodup;rw[List.pairwise_iff_getElem];intro i j t u v e;have c:i<b.size:=by simpa using t
  have f:j<b.size:=by simpa using u
  have:=p i j c f (by rw[Kp c,Kp f];simpa using e);lia
 refine List.perm_iff_count.mpr λa=>?_;rw[r.count,List.nodup_range.count];have:a∈b.toList↔a∈List.range n:=by
  rw[List.mem_range];constructor
  .intro h;obtain⟨k,l,e⟩:=Uz h;have g:k<b.size:=by simpa using l
   have:=o k g;rw[Kp g] at this;have e:b[k]=a:=by simpa using e
   lia
  .intro h;have ⟨k,l,e⟩:=q a h;rw[Kp l] at e;rw[<- e,VI];exact VJ l
 simp only[this]
def Ss {α: Type}{es:Array α}{a:Yi}(d)(c:∀k,k<a.size->a.getD k 0<es.size):(a.filterMap (es[·]?))=a.map λi=>es.getD i d:=by
 apply Array.toList_inj.mp;rw[Array.toList_filterMap,Array.toList_map];have:∀l:Yj,(∀i∈l,i<es.size)->l.filterMap (es[·]?)=l.map λi=>es.getD i d:=by
  intro l
  induction l with
  |nil=>intro _;rfl
  |cons i l g =>
   simp_all
 refine this _ λi f=>?_;obtain⟨k,h,e⟩:=Uz f;have b:k<a.size:=()
 have:=c k b
 simp_all
structure SetIs (hp:Heap)(a:Addr)(es:Array (Int×Value))(t:YD):Prop where
 at_:∃ep,hp.get? a=some { cls:=.type "set",dict:=none,data:=.set es ep t,slots:=#[] }
 tab:TabOk t (es.map (·.1))
 seven:7<=t.mask
 most:t.mask<=8*es.size+7
 room:es.size*5<t.mask*3
 refs:∀i (hi:i<es.size),∃b,es[i].2=.ref b
def SetIs.odd {hp:Heap}{a:Addr}{es:Array (Int×Value)}{t:YD}(S:SetIs hp a es t):t.mask % 2=1:=have ⟨k,b⟩:=S.tab.pow;Sq b S.seven
variable {prog:Program}{w:World}{A:Around}{E:Ya}{s:Shared}
def Hs {hp:Heap}{a:Addr}{es es':Array (Int×Value)}{ep:Nat}{t t':YD}(b:hp.get? a=some { cls:=.type "set",dict:=none,data:=.set es ep t,slots:=#[] }):
 (hp.update a (Obj.putSet es' t')).get? a=some { cls:=.type "set",dict:=none,data:=.set es' (ep+1) t',slots:=#[] }:=by
 have:=Heap.get?_update_self (Obj.putSet es' t') b (by rfl)
 rwa [(putSet_of es' t' rfl)] at this
def Su {α β: Type}(f:α -> β)(xs)(p)(x):(SetTable.insertAt xs p x).map f=SetTable.insertAt (xs.map f) p (f x):=by
 unfold SetTable.insertAt;simp
def Sv {a:Addr}{es:Array (Int×Value)}{ep:Nat}{t:YD}{Q:Unit->YC}
 (m:s.heap.get? a=some { cls:=.type "set",dict:=none,data:=.set es ep t,slots:=#[] }) (T:TabOk t (es.map (·.1))) (U:1<=es.size) (X:es.size<=1000) (C:∀i (f:i<es.size),∃b,es[i].2=.ref b)
 (h:∀es' t',es'.toList.Perm es.toList->t'.led=t.led->t'.plain=t.plain->SetIs (s.heap.update a (Obj.putSet es' t')) a es' t'->Q Yt { s with heap:=s.heap.update a (Obj.putSet es' t') }):
 YJ prog w A (setRelay a (SetTable.grown es.size)) Q E s:=by
 have F:SetTable.grown es.size=es.size*4:=by unfold SetTable.grown;rw[Ze ()]
 have G:=Sh (es.size*4);obtain⟨_,H⟩:=Hl (n:=es.size*4) ();have I:=So (es.size*4);obtain⟨t',c,e,J,K,Y,r,l,L,u,M⟩:=Si (t:=t) (hs:=es.map (·.1)) (wanted:=es.size*4) (by rw[Ul];lia) ();rw[Ul] at r l u;rw[F];unfold setRelay;refine Za (wpAny_setState_of m rfl T.fits ?_);dsimp only;rw[Ze (by rw[sizeLine_eq];lia)];rw[e];have v:=Ss (es:=es) (0,Value.none) l;have g:(c.filterMap (es[·]?)).size=es.size:=by rw[v,Ul];exact r
 have o:(c.filterMap (es[·]?)).toList.Perm es.toList:=by
  rw[Array.toList_filterMap];exact((Sr l L u).filterMap _).trans (by rw[filterMap_getElem?_range])
 have x:(c.filterMap (es[·]?)).map (·.1)=c.map λi=>(es.map (·.1)).getD i 0:=by
  rw[v,Array.map_map];apply Array.map_congr_left;intro i f;obtain⟨k,y,N⟩:=Array.getElem_of_mem f;have:=l k y;rw[Kp y,N] at this;show(es.getD i (0,Value.none)).1=_;rw[Kp this,Hn this]
 have z:TabOk t' ((c.filterMap (es[·]?)).map (·.1)):=by rw[x];exact M
 have B:∀i (f:i<(c.filterMap (es[·]?)).size),∃b,(c.filterMap (es[·]?))[i].2=.ref b:=λi f=>by
  have O:(c.filterMap (es[·]?))[i]∈es.toList:=o.mem_iff.mp (by rw[VI];exact VJ f);obtain⟨j,P,R⟩:=Uz O;have p:j<es.size:=by simpa using P
  obtain⟨b,S⟩:=C j p;refine⟨b,?_⟩;rw[<- R];simpa using S
 have q:¬((c.filterMap (es[·]?)).size != es.size)=true:=by rw[g];simp
 refine Za (wpAny_of_eq (a:=(c.filterMap (es[·]?),t')) ?_ ?_)
 .show(if((c.filterMap (es[·]?)).size != es.size)=true then _ else _)=_;rw[Ze q]
 .dsimp only;generalize c.filterMap (es[·]?)=es' at g o z B x;exact wpAny_storeSet_of m rfl (h es' t' o J K ⟨⟨ep+1,Hs m⟩,z,(),(),(),B⟩) (by rw[sizeLine_eq];lia)
def Sw {es es':Array (Int×Value)}(e:∀i (a:i<es.size),∃b,es[i].2=.ref b){x:Value}{h:Int}{b:Addr}(f:x=.ref b)(g:es'.toList.Perm (es.toList++[(h,x)])):∀i (a:i<es'.size),∃b,es'[i].2=.ref b:=λi a=>by
 rcases Jb.mp (g.mem_iff.mp (by rw[VI];exact VJ a)) with z|z
 .obtain⟨j,l,m⟩:=Uz z;have c:j<es.size:=by simpa using l
  obtain⟨b,n⟩:=e j c;refine⟨b,?_⟩;rw[<- m];simpa using n
 .rw[Jd.mp z];exact⟨b,f⟩
def Sx {a:Addr}{es:Array (Int×Value)}{t:YD}{x:Value}{b:Addr}{h:Int}{same:Value->Bool}{Q:Bool->YC}
 (S:SetIs s.heap a es t) (P:x=.ref b) (hl:es.size+1<=1000)
 (U:∀i (C:i<es.size),es[i].1=h->∀Q:Bool->YC,Q (same es[i].2) s->YJ prog w A (eqBool es[i].2 x) Q E s)
 (H:t.led=true\/∀Q:Bool->YC,Q false s->YJ prog w A (searchCouldBeSeen x ((es.filter (·.1 == h)).toList.map (·.2))) Q E s)
 (X:∀Q:Bool->YC,Q true s->YJ prog w A (hashByValue 8 x) Q E s)
 (I:∀i (C:i<es.size),es[i].1=h->same es[i].2=true->Q false s)
 (l:(∀i (C:i<es.size),es[i].1=h->same es[i].2=false)->∀J es' t',Heap.SameBut a s.heap J->SetIs J a es' t'->es'.toList.Perm (es.toList++[(h,x)])->t'.led=t.led->t'.plain=t.plain->Q true { s with heap:=J }):
 YJ prog w A (setAddHashed a x h) Q E s:=by
 obtain⟨ep,o⟩:=S.at_;have K:t.mask<=9000:=by have:=S.most;lia
 unfold setAddHashed setAddHashedIn;refine wpAny_holding (Za (wpAny_setState_of o rfl S.tab.fits ?_));dsimp only;have Y:byScan x es=false:=by subst P;rfl
 rw[Y];simp only[UD,if_false];refine Za (Sn o rfl S.tab S.odd K U S.refs H (λi C Z h2=>Zb (I i C Z h2)) λq y hy hf hw=>?_);dsimp only;refine Za (wpAny_setState_of o rfl S.tab.fits ?_);dsimp only;have hsz:t.place.size=es.size:=by have:=S.tab.size;rwa [Ul] at this
 have L:=S.room;have F:=S.seven;obtain⟨m,f,r⟩:=RU S.tab hy hf hw ();rw[Ul] at f;have g:(t.put y).1.led=t.led:=rfl;have j:(t.put y).1.plain=t.plain:=rfl;generalize R:t.put y=tp at m f r g j;obtain⟨e,p⟩:=tp;dsimp only at m f r g j ⊢;have em:(SetTable.insertAt es p (h,x)).map (·.1)=SetTable.insertAt (es.map (·.1)) p h:=Su _ _ _ _;rw[<- em] at m;have G:(SetTable.insertAt es p (h,x)).toList.Perm (es.toList++[(h,x)]):=by
  have:=SetTable.insertAt_perm es p (h,x)
  rwa [Array.toList_push] at this
 have u:(SetTable.insertAt es p (h,x)).size=es.size+1:=Dn es f _;have n:=Sw S.refs P G;generalize SetTable.insertAt es p (h,x)=es1 at m G u n;have T:YJ prog w A (do
  storeSet a es1 e
  if !false&&e.tooFull then setRelay a (SetTable.grown (es.size+1))
  return true) Q E s:=by
  refine Za (wpAny_storeSet_of o rfl ?_ (by rw[sizeLine_eq];lia));have v:=Hs (es':=es1) (t':=e) o;have B:=Heap.SameBut.update s.heap a (Obj.putSet es1 e);by_cases c:e.tooFull=true
  .rw[Zd (by rw[c];rfl)];rw[<- u];refine Za (Sv v m () () n λM t2 N l2 p2 S2=>(Zb (l q _ M t2 (B.trans (Heap.SameBut.update _ a _)) S2 (N.trans G) (l2.trans g) (p2.trans j))))
  .rw[Ze (by simpa using c)];have O:¬(e.fill*5 ≥ e.mask*3):=by
    intro z;exact c (Zp z)
   have hfl:e.fill=es1.size:=by
    unfold SetTable.fill;have:=m.size;rw[Ul] at this;rw[this,m.nod];rfl
   have S1:SetIs (s.heap.update a (Obj.putSet es1 e)) a es1 e:=⟨⟨ep+1,v⟩,m,(),by have:=S.most;lia,(),n⟩;exact Zb (l q _ es1 e B S1 G g j)
 grind[wpAny_bind,wpAny_pure]
open PySem
variable {prog:Program}{w:World}{A:Around}{E:Ya}{s:Shared}
inductive HashAll (prog:Program)(w:World)(A:Around)(E:Ya)(s:Shared):Yf->List Int->Prop
 |nil:HashAll prog w A E s [] []
 |cons {v:Value} {vs:Yf} {h:Int} {hs:Yh}:(∀(tk:Nat) (Q:Int->YC),(∀tk',tk<=tk'->Q h { s with toks:=tk' })->YJ prog w A (pyHash v) Q E { s with toks:=tk })->HashAll prog w A E s vs hs->HashAll prog w A E s (v::vs) (h::hs)
def Dt (hs:Yh):Int:=reduceHash (Builtin.Tuple.tupleHashOf hs)
def Ht (g:s.heap.get? a=some o)(i:o.cls=.type "tuple")(j:o.data=.seq items n)(l:A.units<cLine)
 (H:HashAll prog w A.in1 E s items.toList hs) (h:∀tk,tk0<=tk->Q (Dt hs) { s with toks:=tk }):YJ prog w A (pyHash (.ref a)) Q E { s with toks:=tk0 }:=by
 have m:Shared.TypeIs { s with toks:=tk0 } (.ref a) "tuple" := ⟨o,g,i⟩;refine W.pyHash_slot m F.slot_tuple_hash F.entry_tuple_hash (F.args_tuple_hash_1 _) (beq_builtin_none _) (.inr l) ?_;show wpAny _ _ (Builtin.Tuple.tupleItemsOf (.ref a) >>= _) _ _ _;refine Za (wpAny_tupleItemsOf g j (Za ?_));rw[<- Vm];refine wpAny_forIn_list _ (λrest (b:Array Int) s'=>∃left tk,HashAll prog w A.in1 E s rest left/\b.toList++left=hs/\s'={ s with toks:=tk }/\tk0<=tk) _ ?_ ?_ _ _ ⟨hs,tk0,H,rfl,rfl,Zf _⟩
 .rintro x rest b s' ⟨left,tk,e,f,rfl,c⟩;cases e with
  |cons q p =>
   grind[wpAny_bind,wpAny_pure,Nat.le_trans]
 .rintro b s' ⟨left,tk,e,f,rfl,c⟩;cases e;rw[ZA] at f;show wpAny _ _ (retInt (Builtin.Tuple.tupleHashOf b.toList)) _ _ _;rw[f];exact Za (wpAny_mkInt (Zb ⟨_,_,rfl,h _ (Vk c)⟩))
theorem Hu:∀{a:Yf} {ns:Yh},PyProof.Rows.IntsAre a ns->HashAll prog w A E s a (ns.map hashInt)
 |_,_,.nil=>.nil
 |_,_,.cons n t r=>.cons (λtk Q h=>wpAny_pyHash_int (h _ (Nat.le_succ tk))) (Hu r)
inductive PlainV (hp:Heap):Nat->Value->Prop
 |int (n:Nat) (i:Int) (t:Tok):PlainV hp n (.int i t)
 |tup {n:Nat} {a:Addr} {o:Obj} {items:Yn} {k:Nat}:hp.get? a=some o->o.cls=.type "tuple" -> o.data=.seq items k->(∀v∈items.toList,PlainV hp n v)->PlainV hp (n+1) (.ref a)
def Sy (p:PlainV s.heap n v):∀d Q,n<=d->Q true s->YJ prog w A (hashByValue d v) Q E s:=by
 induction p with
 |int n i t =>
  intro d Q _ h;cases d<;>exact Zb h
 |tup a b c _ g =>
  intro d Q j h;cases d with
  |zero=>lia
  |succ d =>
   have e:Shared.TypeIs s (.ref _) "tuple" := ⟨_,a,b⟩;refine Za (wpAny_specialOf e F.slot_tuple_hash.lookup (Za (wpAny_seqItems a c (Za ?_))));rw[Option.getD_some,<- Vm];refine wpAny_forIn_list _ (λrest r s'=>r.1=none/\s'=s/\∀v∈rest,v∈_) _ ?_ ?_ _ _ ⟨rfl,rfl,λv f=>f⟩
   .grind[wpAny_bind,wpAny_pure]
   grind[wpAny_pure]
def Hv (p:PlainV s.heap n v):∀d Q,n<=d->Q true s->YJ prog w A (eqIsQuiet d v) Q E s:=by
 induction p with
 |int n i t =>
  intro d Q _ h;exact wpAny_of_eq (eqIsQuiet_byValue d rfl) h
 |tup a c e _ g =>
  intro d Q j h;cases d with
  |zero=>lia
  |succ d =>
   have b:Shared.TypeIs s (.ref _) "tuple" := ⟨_,a,c⟩;unfold eqIsQuiet;refine Za (wpAny_specialOf b F.slot_tuple_eq.lookup (Za (wpAny_isInstance b isSubtype_tuple_tuple (Za (wpAny_seqItems a e (Za ?_))))));rw[Option.getD_some,<- Vm];refine wpAny_forIn_list _ (λrest r s'=>r.1=none/\s'=s/\∀v∈rest,v∈_) _ ?_ ?_ _ _ ⟨rfl,rfl,λv f=>f⟩
   .grind[wpAny_bind,wpAny_pure]
   grind[wpAny_pure]
def Hw (p:PlainV s.heap n v):∀d Q,n<=d->Q false s->YJ prog w A (ofAClassStatement d v) Q E s:=by
 induction p with
 |int n i t =>
  intro d Q _ h;cases d<;>exact Zb h
 |tup a b c _ g =>
  intro d Q j h;cases d with
  |zero=>lia
  |succ d =>
   have e:Shared.TypeIs s (.ref _) "tuple" := ⟨_,a,b⟩;unfold ofAClassStatement;refine Za (wpAny_typeOf e ?_);simp;refine Za (wpAny_seqItems a c (Za ?_));rw[<- Vm];refine wpAny_forIn_list _ (λrest r s'=>r.1=none/\s'=s/\∀v∈rest,v∈_) _ ?_ ?_ _ _ ⟨rfl,rfl,λv f=>f⟩
   .grind[wpAny_bind,wpAny_pure]
   grind[wpAny_pure]
def Sz (a:n<=8)(b:PlainV s.heap n x)(e:∀y∈ys,PlainV s.heap n y)(h:Q false s):YJ prog w A (searchCouldBeSeen x ys) Q E s:=by
 refine Za (wpAny_forIn_list _ (λrest r s'=>r.1=none/\s'=s/\∀v∈rest,v∈ys) _ ?_ ?_ _ _ ())
 .rintro y rest r s' ⟨g,rfl,f⟩;have c:=e y (f y Zqs);have nx:∀v∈rest,v∈ys:=by grind
  dsimp only
  split
  all_goals
   split
   .exact Zb ⟨rfl,rfl,nx⟩
   .exact Za (Hv b 8 _ a (Za (Hv c 8 _ a (Za (Hw b 8 _ a (Za (Hw c 8 _ a (Zb ⟨rfl,rfl,nx⟩))))))))
 grind[wpAny_pure]
structure KeyFam (prog:Program)(w:World)(hp:Heap)(PV:Value->Prop)(hsh:Value->Int)(same:Value->Value->Bool):Prop where
 ref:∀v,PV v->∃b,v=.ref b
 plain:∀v,PV v->PlainV hp 8 v
 hash:∀v,PV v->∀(A:Around) (E:Ya) (s:Shared) (Q:Int->YC),(∀b o,hp.get? b=some o->s.heap.get? b=some o)->A.units+8<cLine->(∀tk,s.toks<=tk->Q (hsh v) { s with toks:=tk })->YJ prog w A (pyHash v) Q E s
 eq:∀v u,PV v->PV u->∀(A:Around) (E:Ya) (s:Shared) (Q:Bool->YC),(∀b o,hp.get? b=some o->s.heap.get? b=some o)->A.units+8<cLine->Q (same v u) s->YJ prog w A (eqBool v u) Q E s
 coh:∀v u,PV v->PV u->same v u=true->hsh v=hsh u
def PlainV.keep (k:∀b o,hp.get? b=some o->hp'.get? b=some o)(p:PlainV hp n v):PlainV hp' n v:=by
 induction p with
 |int n i t=>exact .int n i t
 |tup a c e _ f=>exact .tup (k _ _ a) c e f
def Wt (same:Value->Value->Bool)(D:Yf)(v:Value):Yf:=if D.any (same · v) then D else D++[v]
def yj (same:Value->Value->Bool)(val:Nat->Value)(i:Nat):Yf:=((List.range i).map val).foldl (Wt same) []
theorem Bf (same)(val)(i):yj same val (i+1)=Wt same (yj same val i) (val i):=by
 grind[yj,List.range_succ,List.map_append,List.foldl_append]
theorem Hx (same)(val):∀i,(yj same val i).length<=i
 | 0=>Zf _
 |i+1=>by
  have:=Hx same val i
  grind[Wt,Bf,List.length_append,List.length_singleton]
theorem Du (same)(val):∀i v,v∈yj same val i->∃j,j<i/\v=val j
 | 0,v,h=>by cases h
 |i+1,v,h=>by
  rw[Bf] at h;unfold Wt at h
  split at h
  .have ⟨j,a,e⟩:=Du same val i v h;exact⟨j,(),e⟩
  .rcases Jb.mp h with z|z
   .have ⟨j,a,e⟩:=Du same val i v z;exact⟨j,(),e⟩
   grind
def Holds (a:Value->Int)(hp:Heap)(S:Addr)(ld:Bool)(D:Yf):Prop:=∃es t,SetIs hp S es t/\es.toList.Perm (D.map λv=>(a v,v))/\t.led=ld/\t.plain=true
section
variable {prog:Program}{w:World}{A:Around}{E:Ya}{s:Shared}
def S0 {hp:Heap}{B:Value->Prop}{a:Value->Int}{same:Value->Value->Bool}(K:KeyFam prog w hp B a same){S:Addr}{ld:Bool}{D:Yf}{x:Value}{Q:Bool->YC}
 (C:∀b o,hp.get? b=some o->s.heap.get? b=some o) (R:A.units+8<cLine) (H:Holds a s.heap S ld D) (F:∀v∈D,B v) (r:B x) (hl:D.length<=999)
 (h:∀j b,Heap.SameBut S s.heap j->Holds a j S ld (Wt same D x)->Q b { s with heap:=j }):YJ prog w A (setAddHashed S x (a x)) Q E s:=by
 obtain⟨es,t,L,l,m,n⟩:=H;obtain⟨b,T⟩:=K.ref x r;have M:es.size=D.length:=by
  have:=l.length_eq
  simp_all
 have f:∀i (c:i<es.size),es[i].2∈D/\es[i].1=a es[i].2:=λi c=>by
  have G:=l.mem_iff.mp (by rw[VI];exact VJ c);obtain⟨v,g,e⟩:=Ja.mp G;rw[<- e];exact⟨g,rfl⟩
 have p:∀v∈D,∃i,∃c:i<es.size,es[i]=(a v,v):=λv g=>by
  have G:=l.mem_iff.mpr (Ja.mpr ⟨v,g,rfl⟩);obtain⟨i,c,e⟩:=Uz G;exact⟨i,by simpa using c,by simpa using e⟩
 have N:=(K.plain x r).keep C;refine Sx (same:=λy=>same y x) L T () (λi c _ u q=>K.eq _ _ (F _ (f i c).1) r A E s u C R q) (.inr λu q=>?_) (λu q=>Sy N 8 u (Zf _) q) (λi c h1 U=>?_) λI j es' t' X Y J Z p'=>?_
 .refine Sz (Zf 8) N (λy hy=>?_) q;obtain⟨e,O,rfl⟩:=Ja.mp hy;have O:e∈es:=by
   simp_all
  obtain⟨i,c,rfl⟩:=Array.getElem_of_mem O;exact(K.plain _ (F _ (f i c).1)).keep C
 .have e:Wt same D x=D:=Zd (VH.mpr ⟨_,(f i c).1,U⟩);have:=h s.heap false (Heap.SameBut.refl S s.heap) ⟨es,t,L,by rw[e];exact l,m,n⟩;exact this
 .have e:Wt same D x=D++[x]:=Ze λz=>by
   obtain⟨v,g,hs⟩:=VH.mp z;obtain⟨i,c,P⟩:=p v g;have:=I i c (by rw[P];exact K.coh v x (F v g) r hs);rw[P] at this;rw[hs] at this;cases this
  refine h j true X ⟨es',t',Y,?_,Z.trans m,p'.trans n⟩;rw[e,Uc];exact J.trans (l.append_right _)
end
section
variable {prog:Program}{w:World}{A:Around}{R:Result->YC}{I:Addr}{fp wr:Yl}{G:Array GenState->Array GenState->Prop}{n:Nat}{P:Nat->Value->Prop}{St:Nat->YC}
def Holds.keep {b:Value->Int}{hp hp':Heap}{S:Addr}{ld:Bool}{D:Yf}(H:Holds b hp S ld D)(k:∀o,hp.get? S=some o->hp'.get? S=some o):Holds b hp' S ld D:=by
 obtain⟨es,t,a,r⟩:=H;obtain⟨ep,c⟩:=a.at_;exact⟨es,t,⟨⟨ep,k _ c⟩,a.tab,a.seven,a.most,a.room,a.refs⟩,r⟩
def S3 (W:WalksS prog w A.in1 I fp wr G n P St)(S)(B:S∉fp)(p:∀b o,hp.get? b=some o->b∉wr/\b≠S)
 {C:Value->Prop} {f:Value->Int} {same:Value->Value->Bool} (K:KeyFam prog w hp C f same) (val) (q:∀i v,P i v->v=val i) (J:∀i,i<n->C (val i)) (hn:n<=999) (Q:A.in1.units+8<cLine) (ld):
 ∀k i s,n-i=k->i<=n->St i s->(∀b o,hp.get? b=some o->s.heap.get? b=some o)->Holds f s.heap S ld (yj same val i) ->
  (∀s',Moved (S::wr) G s s'->Holds f s'.heap S ld (yj same val n)->R (.ok (.ret .none)) s') ->
  codeAny (model prog w) A (.builtin "set.update.loop" ⟨[.ref S,.ref I],[]⟩) R s:=by
 have r:S∉wr:=λh=>B (W.sub _ h);have c:∀b∈wr,b∈S::wr:=by grind
 intro k
 induction k with
 |zero =>
  intro i s T Z g t H L;have M:i=n:=()
  subst M;refine codeAny_builtin F.entry_set_update_loop ?_;rw[Around.under_plainId F.plain_set_update_loop _];show wpAny _ A.in1 (pyNext (.ref I) >>= _) _ _ s;refine Za (W.done s _ _ g λs' m=>?_);show wpAny _ A.in1 (ret Value.none) _ _ s';exact Zb (L s' (m.mono c) (H.keep λo e=>m.heap S _ r e))
 |succ k ih =>
  intro i s T Z g t H L;have j:i<n:=()
  refine codeAny_builtin F.entry_set_update_loop ?_;rw[Around.under_plainId F.plain_set_update_loop _];show wpAny _ A.in1 (pyNext (.ref I) >>= _) _ _ s;refine Za (W.item i s _ _ j g λv s' hP x m=>?_);have U:=q i v hP;have H':=H.keep (hp':=s'.heap) λo e=>m.heap S _ r e;have a:∀b o,hp.get? b=some o->s'.heap.get? b=some o:=λb o e=>m.heap b o (p b o e).1 (t b o e);have X:C v:=by rw[U];exact J i j
  show wpAny _ A.in1 (holding [v] (setAdd S v) >>= _) _ _ s';refine Za (wpAny_holding ?_);unfold setAdd;refine wpAny_holding ?_;refine Za (K.hash v X _ _ _ _ a Q λtk y=>?_);have hl:=Hx same val i;refine S0 K a Q H' (λu hu'=>?_) X () λh' b l Y=>?_
  .grind[Du]
  .rw[U,<- Bf] at Y;refine Zb ⟨plainId_quiet F.plain_set_update_loop _,ih (i+1) _ (by rw[Nat.sub_succ,T];rfl) j (W.frame _ s' _ _ x ?_ λb hb o e=>?_) (λb o e=>?_) Y λN z O=>?_⟩
   .exact y
   .rw[l.2 b ()];exact e
   .rw[l.2 b (p b o e).2];exact a b o e
   .refine L N (Moved.trans W.gtrans ((m.mono c).then_heap ?_ λb o hb e=>?_) z) O
    .exact y
    .rw[l.2 b ()];exact e
end
def S4 (led:Bool):TabOk (SetTable.fresh 0 0 led) ((#[]:Array (Int×Value)).map (·.1)):=by
 refine⟨by rw[Ul];rfl,λi j _ h=>Zn h (UO _),λi h=>Zn h (UO _),rfl,⟨3,rfl⟩,Ua _,λi h=>Zn h (UO _)⟩
def S5 (a:hp.get? S=some { cls:=.type "set",dict:=none,data:=.set #[] 0 (.fresh 0 0 led) }):Holds hsh hp S led []:=
 ⟨#[],.fresh 0 0 led,⟨⟨0,a⟩,S4 led,Zf _,Zf _,(show 0*5<7*3 by decide),λi h=>Zn h (UO _)⟩,Vs _,rfl,rfl⟩
section
variable {prog:Program}{w:World}{A:Around}{E:Ya}{s:Shared}
def zm (w:World):Bool:=!w.params.followText "set-order"
def S6 (a:Value)
 (h:Q₁ (.ref s.heap.objs.size) { s with heap:=s.heap.push { cls:=.type "set",dict:=none,data:=.set #[] 0 (.fresh 0 0 (zm w)) } }):
 codeAny (model prog w) A (.call (.builtin "set.__new__") ⟨[.type "set",a],[]⟩) (wants Q₁ E) s:=by
 refine codeAny_of_tree ?_;show wpAny _ A.in1 (do checkBuiltinCall "set.__new__" ⟨[.type "set",a],[]⟩;again (.builtin "set.__new__" ⟨[.type "set",a],[]⟩)) _ _ s;refine Za (wpAny_of_eq (F.newCall_set_1 a) (Zb ⟨plainId_quiet F.plain_set_new _,codeAny_builtin F.entry_set_new ?_⟩));rw[Around.under_plainId F.plain_set_new _];unfold Builtin.«set.__new__» Builtin.Frozenset.newClass;have b:=sub_set_self;obtain⟨hp,g,d,tk,os⟩:=s;dsimp only
 wp_walk
 refine wpAny_askSetting (Zb ?_);dsimp only;simp only[newObj];refine Za (wpAny_alloc (Zb ?_));exact Zb h
set_option maxRecDepth 100000 in
set_option maxHeartbeats 3200000 in
def S7 {l:Addr}{a:Yn}{Z:Value->Prop}{n:Value->Int}{same:Value->Value->Bool}{Q:Ya}(hh:A.handled=none)(hl:s.heap.IsList l a)(K:KeyFam prog w s.heap Z n same)
 (J:∀(i:Nat) (v:Value),a[i]? = some v->Z v) (hn:a.size<=999) (hu:A.in1.in1.in1.units+8<cLine)
 (h:∀(g:Heap) (tk:Nat),Holds n g s.heap.objs.size (zm w) (yj same (λi=>a.getD i .none) a.size)->(∀b o,b<s.heap.objs.size->s.heap.get? b=some o->g.get? b=some o)->Q (.ref s.heap.objs.size) { s with heap:=g,toks:=tk }):
 YJ prog w A (call (.type "set") [.ref l]) Q E s:=by
 have cn:=λA:Around=>S6 (prog:=prog) (w:=w) (A:=A) (E:=E) (s:=s) (.ref l) (Q₁:=λt s₁=>t=.ref s.heap.objs.size/\s₁={ s with heap:=s.heap.push { cls:=.type "set",dict:=none,data:=.set #[] 0 (.fresh 0 0 (zm w)) } }) ⟨rfl,rfl⟩;generalize zm w=led at h cn;obtain⟨c,tl,hmro⟩:=F.called_set.mro;have L:=F.called_set.made;have hsub:=F.called_set.sub;refine wpAny_call (codeAny_of_tree ?_);show wpAny _ _ (callAny (.type "set") _) _ _ _;refine Zb ⟨Code.quiet_builtin _ (by decide +kernel),codeAny_builtin F.entry_type_call ?_⟩;rw[Around.under_plain (weight_type_call_type "set" [.ref l] []) rfl];have h1:=F.called_set.notType;have h2:=F.called_set.canCreate;have hct:=F.typeCall_set_1 (.ref l)
 repeat (any_goals (first|assumption|wp_step))
 refine codeAny_mono (cn _) λr s₁ p=>?_;cases r with
 |error e=>exact p
 |ok M =>
  cases M with
  |ret t =>
   obtain⟨rfl,rfl⟩:=p;generalize f:({ cls:=.type "set",dict:=none,data:=.set #[] 0 (.fresh 0 0 led) }:Obj)=no at *;have hS:(s.heap.push no).get? s.heap.objs.size=some no:=Zr _ (by rw[<- f];rfl);have hT:Shared.TypeIs { s with heap:=s.heap.push no } (.ref s.heap.objs.size) "set" := ⟨_,hS,by rw[<- f]⟩;have hli:=F.called_set.init.lookup;have hbi:=F.called_set.init.bind (.ref s.heap.objs.size)
   repeat (any_goals (first|assumption|wp_step))
   refine codeAny_mono (codeAny_call_builtin (R:=wants (λr s₂=>r=.none/\∃g tk,s₂={ s with heap:=g,toks:=tk }/\Holds n g s.heap.objs.size led (yj same (λi=>a.getD i .none) a.size) /\
    (∀b o,b<s.heap.objs.size->s.heap.get? b=some o->g.get? b=some o)) E) F.called_set.init.plain F.entry_set_init (check_set_init_1 hT ?_)) λr₂ s₂ hr₂=>?_
   .obtain⟨ol,u,x,nl,y⟩:=hl;obtain⟨ocls,q,N,j⟩:=ol;simp only at x y;subst x;subst y;have z:(s.heap.push no).get? l=some { cls:=.type "list",dict:=q,data:=.seq a nl,slots:=j }:=Zq _ u;have hsls:=F.sub_list_set;have hslf:=F.sub_list_frozenset;have hne:(Value.type "list" == Value.type "dict")=false:=by decide
    have B:(s.heap.push no).IsList l a:=⟨_,z,rfl,nl,rfl⟩;subst f;unfold Builtin.«set.__init__» noKeywords Builtin.Frozenset.updateFrom;generalize O:pyIter=PI
    wp_walk
    subst O;refine wpAny_pyIter_list B ?_;refine Za (wpAny_runValue ?_);have C:l<s.heap.objs.size:=Zk u;have P:A.in1.in1.in1.handled=none:=by simp[hh]
    generalize f:({ cls:=.type "set",dict:=none,data:=.set #[] 0 (.fresh 0 0 led) }:Obj)=no at *;have m:(s.heap.push no).objs.size=s.heap.objs.size+1:=Heap.size_push ..;have G:l≠(s.heap.push no).objs.size:=by rw[m];exact Zi (UC C)
    have S:s.heap.objs.size ∉ [(s.heap.push no).objs.size,l]:=by
     simp only[UV,Vc,or_false,not_or];exact⟨by rw[m];exact Zi (UG _),U6 C⟩
    have hw:∀(i:Nat) (v:Value),a[i]? = some v->v=(λi=>a.getD i .none) i:=λi v hv=>by
     show v=a.getD i .none;rw[VS,hv];rfl
    refine S3 ((Walks.list P _ l G a).toS) s.heap.objs.size S (hp:=s.heap) (λb o e=>?_) K (λi=>a.getD i .none) hw (λi hi=>?_) hn (by exact hu) led (a.size-0) 0 _ () (Ua _)
     ⟨⟨_,Zr _ rfl,rfl,rfl⟩,(B.push _)⟩ (λb o e=>Zq _ (Zq _ e)) (S5 (by rw[f];exact Zq _ hS)) λs' I H'=>?_
    .have H:=Zk e;refine⟨?_,Zi H⟩;simp only[UV,Vc,or_false];rw[m];exact Zi (UC H)
    .exact J i _ (by show a[i]? = some (a.getD i .none);rw[Kp hi,Uy hi])
    .obtain⟨g,g',d',T,U⟩:=s';have eg:g'=s.gens:=I.gens;have ed:d'=s.drawn:=I.drawn;have eo:U=s.os:=I.os;subst eg;subst ed;subst eo;show wpAny _ _ _ _ _ _;refine Zb ?_;show wpAny _ _ (ret Value.none) _ _ _;refine Zb ⟨rfl,g,T,rfl,H',λb o H e=>?_⟩;exact I.heap b o (by simp only[UV,Vc,or_false,not_or];exact⟨Zi H,by rw[m];exact Zi (UC H)⟩) (Zq _ (Zq _ e))
   .cases r₂ with
    |error e=>exact hr₂
    |ok fl₂ =>
     cases fl₂ with
     |ret r =>
      obtain⟨rfl,g,tk,rfl,X,Y⟩:=hr₂
      repeat (any_goals (first|assumption|wp_step))
      exact h _ _ X Y
     |_=>exact hr₂.elim
  |_=>exact p.elim
end
def KI (p:Int×Int):PyData:=.tuple [.int p.1,.int p.2]
def zk (r:Jz):PyData:=.tuple (r.map KI)
def Hy (p:Int×Int):Int:=Dt ([p.1,p.2].map hashInt)
def Hz (r:Jz):Int:=Dt (r.map Hy)
def wK (hp:Heap)(v:Value)(p:Int×Int):Prop:=∃a o b n t u,v=.ref a/\hp.get? a=some o/\o.cls=.type "tuple" /\ o.data=.seq b n/\b.toList=[.int p.1 t,.int p.2 u]
inductive IsPairs (hp:Heap):Yf->Jz->Prop
 |nil:IsPairs hp [] []
 |cons {v vs p r}:wK hp v p->IsPairs hp vs r->IsPairs hp (v::vs) (p::r)
def zi (hp:Heap)(v:Value)(r:Jz):Prop:=∃a o b n,v=.ref a/\hp.get? a=some o/\o.cls=.type "tuple" /\ o.data=.seq b n/\IsPairs hp b.toList r
def S8 (h:wK hp v p):Reads hp v (KI p) []:=by
 obtain⟨a,o,g,n,t,u,rfl,b,c,e,f⟩:=h;refine .tuple b c e ?_;rw[f];exact .cons (.int _ _) (.cons (.int _ _) .nil)
def S9:∀{a:Yf} {r:Jz},IsPairs hp a r->ReadsAll hp a (r.map KI) []:=λh=>by
 induction h with
 |nil=>exact .nil
 |cons b _ c=>exact .cons (S8 b) c
def HA (h:zi hp v r):Reads hp v (zk r) []:=by
 obtain⟨a,o,g,n,rfl,b,c,e,f⟩:=h;exact .tuple b c e (S9 f)
def wK.keep (k:∀b o,hp.get? b=some o->hp'.get? b=some o)(h:wK hp v p):wK hp' v p:=by
 obtain⟨a,o,c,n,t,u,e,f,r⟩:=h;exact⟨a,o,c,n,t,u,e,k _ _ f,r⟩
theorem IsPairs.keep (k:∀b o,hp.get? b=some o->hp'.get? b=some o)(h:IsPairs hp vs r):IsPairs hp' vs r:=by
 induction h with
 |nil=>exact .nil
 |cons a _ c=>exact .cons (a.keep k) c
theorem zi.keep (k:∀b o,hp.get? b=some o->hp'.get? b=some o)(h:zi hp v r):zi hp' v r:=by
 obtain⟨a,o,c,n,e,f,g,i,j⟩:=h;exact⟨a,o,c,n,e,k _ _ f,g,i,j.keep k⟩
theorem SA (h:wK hp v p)(n):PlainV hp (n+1) v:=by
 obtain⟨a,o,j,k,t,u,rfl,c,f,g,i⟩:=h;refine .tup c f g λx b=>?_;rw[i] at b;rcases UV.mp b with e|e
 .rw[e];exact .int _ _ _
 .rw[Jd.mp e];exact .int _ _ _
def SC (h:zi hp v r)(n):PlainV hp (n+2) v:=by
 obtain⟨a,o,c,k,rfl,e,f,g,b⟩:=h;refine .tup e f g ?_;generalize c.toList=l at b
 induction b with
 |nil=>simp
 |cons i _ j =>
  grind[SA]
section
variable {prog:Program}{w:World}{A:Around}{E:Ya}{s:Shared}
def SE (c:A.units<cLine):∀{b:Yf} {r:Jz},IsPairs s.heap b r->HashAll prog w A E s b (r.map Hy):=λh=>by
 induction h with
 |nil=>exact .nil
 |cons e _ f =>
  refine .cons (λtk Q h=>?_) f;obtain⟨a,o,b,n,t,u,rfl,g,i,j,l⟩:=e;refine Ht g i j c ?_ h;rw[l];exact Hu (.cons _ _ (.cons _ _ .nil))
def SF (c:zi s.heap v r)(e:A.units<cLine)(b:A.in1.units<cLine)(h:∀tk,s.toks<=tk->Q (Hz r) { s with toks:=tk }):YJ prog w A (pyHash v) Q E s:=by
 obtain⟨a,o,l,n,rfl,f,g,i,j⟩:=c;exact Ht f g i e (SE b j) h
end
def SG (p q):PyData.eqv (KI p) (KI q)=decide (p=q):=by
 grind[KI,PyData.eqv,PyData.eqvAll]
theorem HB:∀r q:Jz,PyData.eqvAll (r.map KI) (q.map KI)=decide (r=q)
 | [],[]=>by rfl
 | [],_::_=>by rfl
 |_::_,[]=>by rfl
 |p::r,q::s=>by
  rw[Zl,Zl];unfold PyData.eqvAll;rw[SG,HB r s,Vf];simp
def SH (r q):PyData.eqv (zk r) (zk q)=decide (r=q):=HB r q
theorem HC:∀r:Jz,PyData.canLayAll0 (r.map KI)=true
 | []=>rfl
 |p::r=>by
  rw[Zl];unfold PyData.canLayAll0;rw[HC r];rfl
def HD (r):(zk r).canLay0=true:=HC r
theorem HE:∀r:Jz,PyData.depthAll (r.map KI)<=1
 | []=>Ua _
 |p::r=>by
  rw[Zl];unfold PyData.depthAll;have a:(KI p).depth=1:=rfl;have b:=HE r;rw[a];lia
def SI (r):(zk r).depth<=2:=Vr (HE r)
def wK.inj (h:wK hp v p)(b:wK hp v q):p=q:=by
 obtain⟨a,o,f,n,t,u,rfl,g,i,j,l⟩:=h;obtain⟨m,r,c,x,t',y,e,k1,k2,k3,z⟩:=b
 grind
theorem IsPairs.inj:∀{a:Yf} {r q:Jz},IsPairs hp a r->IsPairs hp a q->r=q:=λ{a r q} g h=>by
 induction g generalizing q with
 |nil=>cases h;rfl
 |cons b _ c =>
  cases h with
  |cons k1 k2=>rw[b.inj k1,c k2]
theorem zi.inj (h:zi hp v r)(b:zi hp v q):r=q:=by
 obtain⟨a,o,l,n,rfl,c,m,f,g⟩:=h;obtain⟨p,t,i,u,e,k1,k2,k3,j⟩:=b;cases e;rw[c] at k1;obtain rfl:=Zqi k1;rw[f] at k3;cases k3;exact g.inj j
open Classical in
def zj (hp:Heap)(v:Value):Jz:=if h:∃r,zi hp v r then h.choose else[]
theorem Bg (h:zi hp v r):zj hp v=r:=by
 unfold zj;have e:∃r,zi hp v r:=⟨r,h⟩;rw[dif_pos e];exact e.choose_spec.inj h
def SJ (prog)(w)(hp):KeyFam prog w hp (λv=>∃r,zi hp v r) (λv=>Hz (zj hp v)) (λv u=>decide (zj hp v=zj hp u)) where
 ref:=by
  rintro v ⟨r,a,o,b,n,e,_⟩;exact⟨a,e⟩
 plain:=by
  rintro v ⟨r,h⟩;exact SC h 6
 hash:=by
  rintro v ⟨r,h⟩ A E s Q hk hu hq;rw[Bg h] at hq;exact SF (h.keep hk) () (show A.units+1<cLine from ()) hq
 eq:=by
  rintro v u ⟨r,h⟩ ⟨q,h'⟩ A E s Q hk hu hq;rw[Bg h,Bg h',<- SH] at hq;have d1:=SI r;exact SeqAt.eqBoolOverData prog w A E s v u (zk r) (zk q) [] [] Q (HA (h.keep hk)) (HA (h'.keep hk)) (HD r) (HD q) () hq
 coh:=()
def vT:Slot "set_iterator" "__next__" "set_iterator.__next__" :=
 .of (owner:= "set_iterator") (n:= "__next__") (by kernel_rfl) (by rfl) (by rfl) (by rfl)
  (by first|exact .inl (by decide +kernel)|exact .inr (by decide +kernel)) (by kernel_rfl)
def HF:entryFor table "set_iterator.__next__" = some Builtin.«set_iterator.__next__»:=entryFor_of_tree (by rfl)
def HG:Manifest.owners.lookup (String.ofList ['r','o','t','a','r','e','t','i','_','t','e','s'].reverse)=some Manifest.sig_set_iterator:=by kernel_rfl
def HH (a):argsOk "set_iterator.__next__" ⟨[a],[]⟩:=by
 unfold argsOk;rw[signature?_of (n:=['_','_','t','x','e','n','_','_']) (by kernel_rfl) HG];rfl
def SK:entryFor table "set.__iter__" = some Builtin.«frozenset.__iter__»:=entryFor_alias (id':= "frozenset.__iter__") (by kernel_rfl) rfl (by decide +kernel) (by kernel_rfl)
def HJ:Slot "set_iterator" "__iter__" "set_iterator.__iter__" :=
 .of (owner:= "set_iterator") (n:= "__iter__") (by rw[typeLookup_type,builtinLookup_eq_fast];kernel_rfl) (by decide +kernel) (by rfl) (by rfl)
  (by first|exact .inl (by decide +kernel)|exact .inr (by decide +kernel)) (by rw[isSubtype_type];kernel_rfl)
def SL:entryFor table "set_iterator.__iter__" = some Builtin.«dict_keyiterator.__iter__» :=
 entryFor_alias (id':= "dict_keyiterator.__iter__") (by kernel_rfl) (by rfl) (by decide +kernel) (by kernel_rfl)
def SN (a):argsOk "set_iterator.__iter__" ⟨[a],[]⟩:=by
 unfold argsOk;rw[signature?_of (n:=['_','_','r','e','t','i','_','_']) (by kernel_rfl) HG];rfl
abbrev HK (h:Heap)(it S:Addr)(slot i n ep:Nat):Prop:=h.get? it=some { cls:=.type "set_iterator",dict:=none,data:=.fields #[.int slot 0,.int i 0,.ref S,.int n 0,.int ep 0],slots:=#[] }
abbrev WO (es:Array (Int×Value))(ep:Nat)(t:YD):Obj:={ cls:=.type "set",dict:=none,data:=.set es ep t,slots:=#[] }
def Kj (w:World)(S ep:Nat)(es:Array (Int×Value)):Array (Int×Value):=if w.params.followText "set-order" then pickOrder (w.params.setOrder S ep) es else es
theorem HM {α: Type}(next):∀fuel k (left:List α) a,left.length<=fuel->(pickOrder.go next fuel k left a).toList.Perm (a.toList++left)
 | 0,k,left,a,h=>by
  simp_all [pickOrder.go]
 |fuel+1,k,left,a,h=>by
  unfold pickOrder.go;cases q:left[next k % left.length]? with
  |none =>
   have b:left.length=0:=by
    grind[Nat.eq_zero_or_pos,Nat.mod_lt,Zqg]
   simp_all
  |some x =>
   have b:=List.length_eraseIdx_of_lt ((Jc.mp q).1);refine(HM next fuel (k+1) _ _ ()).trans ?_;rw[Array.toList_push,Uh];refine List.Perm.append_left _ ?_;have c:left=left.take (next k % left.length)++x::left.drop (next k % left.length+1):=by
    grind[List.take_append_drop,List.drop_eq_getElem_cons]
   rw[List.eraseIdx_eq_take_drop_succ];exact Vq ((List.perm_middle (l₁:=left.take (next k % left.length))).symm) (List.Perm.of_eq c.symm)
theorem SO {α: Type}(next)(es:Array α):(pickOrder next es).toList.Perm es.toList:=by
 grind[pickOrder,HM]
def HN (w)(S ep)(es):(Kj w S ep es).toList.Perm es.toList:=by
 grind[Kj,SO,List.Perm.refl]
def Dv (w)(S ep)(es):(Kj w S ep es).size=es.size:=by
 have:=(HN w S ep es).length_eq;omega
def SQ (u:wv xs)(hi):SetTable.below xs (xs[i]+1)=i+1:=by
 obtain⟨f,c,g⟩:=Bd u (xs[i]+1);have e:=Kp hi 0;rcases Ve (SetTable.below xs (xs[i]+1)) (i+1) with q|q|q
 .grind
 .exact q
 .have a:=c (i+1) q;have b:=u i (i+1) () ();lia
def SR (xs)(u:wv xs):SetTable.below xs 0=0:=by
 obtain⟨b,a,c⟩:=Bd u 0;rcases Vx (SetTable.below xs 0) with q|q
 .exact q
 .have:=a 0 q;lia
section
variable {prog:Program}{w:World}{A:Around}{E:Ya}{s:Shared}
def SS (a:s.heap.get? S=some (WO es ep t))(c:t.fits es.size=true)(hp:t.plain=true)
 (g:Q (.ref s.heap.objs.size) { s with heap:=s.heap.push { cls:=.type "set_iterator",data:=.fields #[.int 0 0,.int 0 0,.ref S,.int es.size 0,.int ep 0] } }):YJ prog w A (pyIter (.ref S)) Q E s:=by
 have f:s.TypeIs (.ref S) "set" := ⟨_,a,rfl⟩;refine wpAny_pyIter_slot f F.slot_set_iter (wpAny_call_entry F.slot_set_iter f SK ?_ (F.args_set_iter_1 _));unfold Builtin.«frozenset.__iter__» Builtin.Frozenset.slot0 slotArgs;simp only[bind_assoc];refine Za (Zb (Za (Zb (Za (Za (wpAny_setEntries_of a rfl c (Zb ?_)))))));have h:wpAny (model prog w) A.in1 (setDrawn S) (λb s'=>b=false/\s'=s) E s:=by
  refine Za (wpAny_setState_of a rfl c (Za (Za (wpAny_askSetting (Zb (Zb ⟨?_,rfl⟩))))));obtain⟨mask,place,dummies,finger,led,moves,plain⟩:=t;cases hp;exact Bool.and_false _
 refine Za (Zc h (λb s' z=>?_) λ_ _ e=>e);obtain⟨rfl,rfl⟩:=z;refine Za (Zb (Za (Za (wpAny_setState_of a rfl c (Zb (Za (wpAny_newObj_type (Zb ⟨_,rfl, "set_iterator",_,⟨_,Zr _ rfl,rfl⟩,vT.lookup,g⟩) (by simp_all [sizeOk,sizeLine_eq]))))))))
def HQ (f:s.heap.get? S=some (WO es ep t))(g:t.fits es.size=true)(hp:t.plain=true)(b:t.led=zm w)(l:wv t.place)(hz:t.place.size=es.size)
 (m:w.params.followText "set-order" = false->SetTable.below t.place slot=i)
 (c:∀a,(w.params.followText "set-order" = false->i<es.size->SetTable.below t.place a=i+1)->Q (((Kj w S ep es)[i]?).map λe=>(e.2,a)) s):YJ prog w A (setNext S slot i ep) Q E s:=by
 refine Za (wpAny_setState_of f rfl g ?_);refine Za (Za (wpAny_askSetting (Zb ?_)));cases q:w.params.followText "set-order" with
 |true =>
  have e:({ program:=(model prog w).prog,params:=(model prog w).w.params }:Setting).params.followText "set-order" = true:=q;rw[Zd e];rw[Ze ()];refine Za (Za (wpAny_setState_of f rfl g ?_));refine Za (Za (wpAny_askSetting (Zb ?_)));rw[Zd e];refine Za (wpAny_askSetting (Zb (Zb ?_)));have:=c slot λz=>by rw[q] at z;cases z
  unfold Kj at this
  rwa [Zd q] at this
 |false =>
  have e:¬({ program:=(model prog w).prog,params:=(model prog w).w.params }:Setting).params.followText "set-order" = true:=by
   show ¬w.params.followText "set-order" = true;rw[q];simp
  rw[Ze e];have n:Kj w S ep es=es:=by unfold Kj;rw[q];rfl
  rw[n] at c;rw[(m q)];have b:t.led=true:=by rw[b];unfold zm;rw[q];rfl
  obtain⟨mask,place,dummies,finger,led,moves,plain⟩:=t;cases hp;cases b
  split
  .rename_i z;exact Zn z Zj
  .refine Za (Zb (Zb ?_));by_cases h:i<es.size
   .have j:i<place.size:=by rwa [hz]
    have:=c (place[i]+1) λ_ _=>SQ l j;rw[Uy h] at this
    rwa [Uy h,Uy j]
   grind[Array.getElem?_eq_none]
abbrev YW (w:World)(it S:Addr)(es:Array (Int×Value))(ep:Nat)(t:YD)(i:Nat)(h:Heap):Prop:=(∃slot,HK h it S slot i es.size ep/\(w.params.followText "set-order" = false->i<=es.size->SetTable.below t.place slot=i))/\h.get? S=some (WO es ep t)
structure SetGood (w:World)(es:Array (Int×Value))(t:YD):Prop where
 fits:t.fits es.size=true
 plain:t.plain=true
 led:t.led=zm w
 up:wv t.place
 size:t.place.size=es.size
def SU (G:SetGood w es t)(st:YW w it S es ep t i s.heap)(o:i<es.size)
 (p:∀f x,(∃k,(Kj w S ep es)[i]? = some (k,x))->YW w it S es ep t (i+1) f->Heap.SameBut it s.heap f->Q (some x) { s with heap:=f }):YJ prog w A (pyNext (.ref it)) Q E s:=by
 obtain⟨⟨m,a,g⟩,j⟩:=st;have n:s.TypeIs (.ref it) "set_iterator" := ⟨_,a,rfl⟩;have e:S≠it:=by grind
 unfold pyNext;refine Za (wpAny_attempt (wpAny_callSpecial?_slot n vT
  (wpAny_call_entry vT n HF ?_ (HH _))))
 unfold Builtin.«set_iterator.__next__» slotArgs;simp only[UD,bind_assoc];refine Za (Zb ?_);refine Za (wpAny_fieldsOf a rfl (Za (wpAny_setEntries_of j rfl G.fits ?_)));simp;refine Za (HQ j G.fits G.plain G.led G.up G.size () λc hs=>?_);have q:i<(Kj w S ep es).size:=by rwa [Dv]
 rw[Uy q];refine Za (wpAny_setField_rec a () λh₁ he₁ hs₁=>(Za (wpAny_setField_rec he₁ () λh₂ he₂ hs₂=>?_)));refine Zb ⟨_,rfl,Zb (p h₂ _ () ⟨⟨c,?_,λz _=>hs z o⟩,hs₂.extBut _ _ e (hs₁.extBut _ _ e j)⟩ ⟨hs₂.1.trans hs₁.1,λb g=>(hs₂.2 b g).trans (hs₁.2 b g)⟩)⟩;unfold HK;simpa [rawInt] using he₂
def SW (h:A.handled=none)(G:SetGood w es t)(st:YW w it S es ep t i s.heap)(l:i=es.size)
 (j:∀c,Heap.ExtBut it s.heap c->Q none { s with heap:=c }):YJ prog w A (pyNext (.ref it)) Q E s:=by
 obtain⟨⟨e,a,m⟩,f⟩:=st;have g:s.TypeIs (.ref it) "set_iterator" := ⟨_,a,rfl⟩;unfold pyNext;refine Za (wpAny_attempt (wpAny_callSpecial?_slot (name:=Str.ofString "__next__") g vT
  (wpAny_call_entry vT g HF ?_ (HH _))))
 unfold Builtin.«set_iterator.__next__» slotArgs;simp only[List.isEmpty_nil,Bool.not_true,UD,↓reduceIte,ZC];refine Za (Zb ?_);refine Za (wpAny_fieldsOf a rfl ?_);dsimp only;refine Za (wpAny_setEntries_of f rfl G.fits ?_);simp[Int.toNat_natCast];refine Za (HQ f G.fits G.plain G.led G.up G.size () λb hs=>?_);rw[VQ (by rw[Dv];lia)];refine Za (wpAny_setField a rfl () (Za ?_));refine Za (wpAny_newObj_type (Za (wpAny_of_eq (by first|rfl|(simp only)) ?_)) (by size_fits));refine wpAny_newObj_type (Za (wpAny_handled ?_)) (by size_fits);rw[h];refine Za (Zb (wpAny_throw ?_));exact Za (wpAny_isInstance ⟨_,Zr _ rfl,rfl⟩ isSubtype_stop (Zb (j _ (((Heap.SameBut.update ..).extBut.push _).push _))))
end
def SX (p:A.handled=none)(G:SetGood w es t):WalksS prog w A it [it,S] [it] (λg q=>q=g) es.size (λi v=>∃k,(Kj w S ep es)[i]? = some (k,v)) (λi s=>YW w it S es ep t i s.heap):=
 (show Walks prog w A it [it,S] [it] es.size (λi v=>∃k,(Kj w S ep es)[i]? = some (k,v)) (λi h=>YW w it S es ep t i h) from {
  sub:=by simp
  frame:=by grind
  item:=λi s Q E r st a=>SU G st r λc x u f y=>a x c s.toks u f λb o m e=>y.extBut b o () e
  done:=λs Q E st a=>SW p G st rfl λc z=>a c s.toks λb o m e=>z b o () e
  self:=λi s Q E st a=>have ⟨⟨n,j,m⟩,B⟩:=st;have l:=⟨_,j,rfl⟩;wpAny_pyIter_slot l HJ (wpAny_call_entry HJ l SL (Zb ⟨_,rfl, "set_iterator",_,l,vT.lookup,a⟩) (SN _)) }).toS
def SY:typeLookup (.type "set") "__len__" = pure (some (.builtin "set.__len__")):=by rw[typeLookup_type,builtinLookup_eq_fast];kernel_rfl
section
variable {prog:Program}{w:World}{A:Around}{E:Ya}{s:Shared}
def SZ (a:s.TypeIs (.ref r) "set")(h:Q false s):YJ prog w A (Builtin.List.listLengthHint (.ref r)) Q E s:=by
 refine Za (wpAny_specialOf a SY ?_);generalize c:("set.__len__" : String)=id0;subst c;exact Za (wpAny_isInstance (b:=true) a (by rw[isSubtype_type];kernel_rfl) (wpAny_ite_split (λe=>Zn e (by decide)) (λ_=>(Za (wpAny_typeOf a (Zb h))))))
def Ta (hh:A.handled=none)(m:s.heap.get? S=some (WO es ep t))(G:SetGood w es t)(hn:es.size<=1000)
 (h:∀(f:Heap) (tk:Nat) (X:Yf),(∀b o,s.heap.get? b=some o->f.get? b=some o)->X.Perm (es.toList.map (·.2))->s.heap.objs.size<f.objs.size->R X { s with heap:=f,toks:=tk }):YJ prog w A (collect (.ref S)) R E s:=by
 have H:S<s.heap.objs.size:=Zk m;have Y:s.TypeIs (.ref S) "set" := ⟨_,m,rfl⟩;unfold collect;refine Za (wpAny_runValue (codeAny_builtin F.entry_proto_collect ?_));rw[Around.under_plainId F.plain_proto_collect _];show wpAny _ A.in1 (newList [] >>= λl=>again (.builtin "list.__iadd__" ⟨[l,.ref S],[]⟩)) _ _ s;refine Za (wpAny_newObj_type ?_);refine Zb ⟨plainId_quiet F.plain_list_iadd _,codeAny_builtin F.entry_list_iadd ?_⟩;rw[Around.under_plainId F.plain_list_iadd _];generalize p:({ cls:=.type "list",data:=.seq ([]:Yf).toArray }:Obj)=no;have hL₁:(s.heap.push no).get? s.heap.objs.size=some no:=Zr _ (by rw[<- p];rfl);have ho₁:(s.heap.push no).get? S=some (WO es ep t):=Zq _ m;have hT₁:Shared.TypeIs { s with heap:=s.heap.push no } (.ref S) "set" := ⟨_,ho₁,rfl⟩;have q:S≠s.heap.objs.size:=Zi H;show wpAny _ A.in1 (Builtin.List.listExtendWith (.ref s.heap.objs.size) (.ref S) (.ref s.heap.objs.size)) _ _ _;unfold Builtin.List.listExtendWith;refine Za (wpAny_typeOf hT₁ ?_);have h1:Builtin.List.listSameRef (.ref s.heap.objs.size) (.ref S)=false:=by simp[Builtin.List.listSameRef,Ne.symm q]
 have h2:(Value.type "set" == Value.type "list")=false:=by decide
 have h3:(Value.type "set" == Value.type "tuple")=false:=by decide
 simp only[h1,h2,h3,Bool.or_false,UD,if_false];refine Za (SS (s:={ s with heap:=s.heap.push no }) ho₁ G.fits G.plain ?_);have K:(s.heap.push no).objs.size=s.heap.objs.size+1:=Heap.size_push ..;generalize L:(s.heap.push no).objs.size=I at *;generalize r:({ cls:=.type "set_iterator",data:=.fields #[.int 0 0,.int 0 0,.ref S,.int es.size 0,.int ep 0] }:Obj)=ni;have hS₂:=Zq ni ho₁;have hL₂:=Zq ni hL₁;have hI₂:((s.heap.push no).push ni).get? I=some ni:=by rw[<- L];exact Zr _ (by rw[<- r];rfl)
 refine Za (wpAny_holding (SZ ⟨_,hS₂,rfl⟩ ?_));have M:I≠s.heap.objs.size:=()
 have u:∀N,(∀f tk c a,(∀b o,s.heap.get? b=some o->f.get? b=some o)->f.get? s.heap.objs.size=some { cls:=.type "list",dict:=none,data:=.seq a c,slots:=#[] }->a.toList.Perm (es.toList.map (·.2))->N (.ok (.ret (.ref s.heap.objs.size))) { s with heap:=f,toks:=tk }) ->
  ∀h c₁ tk,(∀b o,b≠s.heap.objs.size->((s.heap.push no).push ni).get? b=some o->h.get? b=some o)->h.get? s.heap.objs.size=some { cls:=.type "list",dict:=none,data:=.seq #[] c₁,slots:=#[] } ->
  codeAny (model prog w) A (.builtin "list.extend.loop" ⟨[.ref s.heap.objs.size,.ref I,.ref s.heap.objs.size],[]⟩) N { s with heap:=h,toks:=tk }:=by
  intro N hR h₀ c₁ tk v g;have O:s.heap.objs.size ∉ [I,S]:=by
   simp only[UV,Vc,or_false,not_or];exact()
  have x:h₀.get? I=some ni:=v I _ M hI₂;rw[<- r] at x;refine codeAny_extend_loopS (SX (prog:=prog) (w:=w) (A:=A.in1) (it:=I) (S:=S) (ep:=ep) hh G) (Zh hn (by rw[sizeLine_eq];lia)) s.heap.objs.size O _ es.size 0 { s with heap:=h₀,toks:=tk } #[] c₁ rfl (Ua _)
   ⟨⟨0,x,λ_ _=>SR _ G.up⟩,v S _ q hS₂⟩ g (ItemsOf.nil _) λs' a c J P i=>?_
  obtain⟨f,g',d',Q,T⟩:=s';have eg:g'=s.gens:=J.gens;have ed:d'=s.drawn:=J.drawn;have eo:T=s.os:=J.os;subst eg;subst ed;subst eo;refine hR f Q c a (λb o e=>?_) P ?_
  .have y:=Zk e;have z:b≠s.heap.objs.size:=Zi y;have U:b≠I:=Zi (Zg y (by rw[K];exact Nat.le_succ _));exact J.heap b o (by simp only[UV,Vc,or_false,not_or];exact⟨z,U⟩) (v b o z (Zq _ (Zq _ e)))
  .have el:a.toList=(Kj w S ep es).toList.map (·.2):=by
    apply Vy;intro j;rw[Zv];by_cases Z:j<a.size
    .obtain⟨k,v⟩:=i.2 j a[j] (Uy Z);have:(Kj w S ep es).toList[j]? = some (k,a[j]):=by simpa using v
     rw[this];simp[Z]
    .have hw:(Kj w S ep es).toList[j]? = none:=U0 (by rw[Uo,Dv,<- i.1];lia);rw[hw];exact U0 (by rw[Uo];lia)
   rw[el];exact(HN w S ep es).map _
 have B:∀f tk c (a:Yn),(∀b o,s.heap.get? b=some o->f.get? b=some o)->f.get? s.heap.objs.size=some { cls:=.type "list",dict:=none,data:=.seq a c,slots:=#[] }->a.toList.Perm (es.toList.map (·.2)) ->
  YJ prog w A (do
   let o <- load s.heap.objs.size
   match o.data with
    | .seq xs _=>pure xs.toList
    |_=>unsupported "internal:collect") R E { s with heap:=f,toks:=tk }:=λf tk c a C n hp=>by
  refine Za (wpAny_load n ?_);exact Zb (h f tk a.toList C hp (Zk n))
 have hL₂':((s.heap.push no).push ni).get? s.heap.objs.size=some { cls:=.type "list",dict:=none,data:=.seq #[] 0,slots:=#[] }:=by rw[hL₂,<- p]
 refine wpAny_ite_split (λ_=>?_) (λ_=>Zb ⟨plainId_quiet F.plain_extend_loop _,u _ (λf tk c a C n hp=>B f tk c a C n hp) _ 0 _ (λb o _ e=>e) hL₂'⟩);refine Za (wpAny_rule ?_);refine Za ?_;show wpAny _ _ (updateSeq s.heap.objs.size (·.push .none) >>= λ_=>updateSeq s.heap.objs.size (·.pop)) _ _ _;refine Za (wpAny_updateSeq hL₂' rfl ?_);have hL₃:=Heap.get?_update_self (Obj.mapSeq (·.push Value.none)) hL₂' rfl;refine wpAny_updateSeq (hz:=by seq_fits) hL₃ rfl ?_;have hL₄:=Heap.get?_update_self (Obj.mapSeq (·.pop)) hL₃ rfl;refine Zb ⟨plainId_quiet F.plain_extend_loop _,u _ (λf tk c a C n hp=>B f tk c a C n hp) _ _ _ (λb o y e=>?_) hL₄⟩;exact(Heap.get?_update_other _ _ (Ne.symm y)).trans ((Heap.get?_update_other _ _ (Ne.symm y)).trans e)
end
theorem HR:∀{a:Yf} {r:Jz},W9 h a r->IsPairs h a r
 | [],[],_=>.nil
 | [],_::_,p=>by have:=p.1;simp at this
 |_::_,[],p=>by have:=p.1;simp at this
 |u::a,q::r,p=>by
  obtain⟨b,c,nb,t,v,e,f,g,j⟩:=p.2 0 q rfl;obtain rfl:=Zqi e;refine .cons ⟨b,c,_,nb,t,v,rfl,f,g,j,rfl⟩ (HR ⟨by have:=p.1;simpa using this,λi x l=>p.2 (i+1) x l⟩)
def Tb (R:RowAt h v r a o us n):zi h v r:=
 ⟨a,o,us.toArray,n,R.isv,R.get,R.cls,R.dat,HR R.prs⟩
def jP (rs:J0):Nat->List Nat
 | 0=>[]
 |n+1=>if(jP rs n).any (λi=>decide (rs.getD i []=rs.getD n [])) then jP rs n else jP rs n++[n]
def Tc (rs)(n):jP rs (n+1)=if(jP rs n).any (λi=>decide (rs.getD i []=rs.getD n [])) then jP rs n else jP rs n++[n]:=rfl
def dedR (rs:J0):J0:=(jP rs rs.length).map λi=>rs.getD i []
theorem Xv (rs):∀n i,i∈jP rs n->i<n
 | 0,i,h=>by cases h
 |n+1,i,h=>by
  unfold jP at h
  split at h
  .have:=Xv rs n i h;lia
  .rcases Jb.mp h with q|q
   .have:=Xv rs n i q;lia
   simp_all
theorem Dw (rs):∀n,(jP rs n).length<=n
 | 0=>Zf _
 |n+1=>by
  have:=Dw rs n
  grind[jP,List.length_append,List.length_singleton]
theorem HS (rs):∀n,((jP rs n).map λi=>rs.getD i []).Nodup
 | 0=>Vv
 |n+1=>by
  have a:=HS rs n;unfold jP
  grind
theorem HU (rs):∀n r,r∈((jP rs n).map λi=>rs.getD i [])↔∃i,i<n/\rs.getD i []=r
 | 0,r=>by
  constructor
  .intro h;cases h
  lia
 |n+1,r=>by
  have a:=HU rs n;unfold jP
  grind
def Dx (rs):(dedR rs).Nodup:=HS rs _
def HV (rs):(dedR rs).length<=rs.length:=by unfold dedR;rw[Zql];exact Dw rs _
theorem bb:r∈dedR rs↔r∈rs:=by
 unfold dedR;rw[HU];constructor
 .grind
 .intro h;obtain⟨i,a,z⟩:=Uz h;exact⟨i,a,()⟩
theorem HW {same:Value->Value->Bool}{val:Nat->Value}{rs:J0}{n:Nat}(h:∀i j,i<n->j<n->same (val i) (val j)=decide (rs.getD i []=rs.getD j [])):∀k,k<=n->yj same val k=(jP rs k).map val
 | 0,_=>rfl
 |k+1,hk=>by
  rw[Bf,HW h k (),Tc];unfold Wt;have e:((jP rs k).map val).any (same · (val k))=(jP rs k).any (λi=>decide (rs.getD i []=rs.getD k [])):=by
   rw[List.any_map,Vf,VH,VH];constructor
   .rintro⟨i,a,z⟩;exact⟨i,a,by rwa [<- h i k (by have:=Xv rs k i a;lia) ()]⟩
   .rintro⟨i,a,z⟩;exact⟨i,a,by show same (val i) (val k)=true;rwa [h i k (by have:=Xv rs k i a;lia) ()]⟩
  grind
theorem Bh {G:Hp}{rs:J0}{ys:YE}(h:qk G (rs.map rD) ys):∀ix:Yj,(∀i∈ix,i<rs.length)->qk G ((ix.map λi=>rs.getD i []).map rD) (ix.map λi=>ys.getD i .non)
 | [],_=>by rfl
 |i::ix,hi=>by
  have ⟨x,a,b⟩:=h.get (i:=i) (d:=rD (rs.getD i [])) ();rw[Zl,Zl,Zl];refine⟨x,_,?_,b,Bh h ix ()⟩;rw[Qf a]
def yZ (w:World)(S:Addr)(ys:YE):HO:=.ext λh=>∃es ep t a,h.get? S=some (WO es ep t)/\SetGood w es t/\es.size<=1000/\(es.toList.map (·.2)).Perm a/\jo ys a
def Dy (w:World):YE->Hp->VK->Prop:=λb H Q=>∃a ys rs,b=[.ref a]/\Rd H a (.lst ys)/\qk H (rs.map rD) ys/\rs.length<=999/\∀S,H S=none->Q (.ref S) (upd H S (yZ w S ((jP rs rs.length).map λi=>ys.getD i .non)))
def HX (w:World):YE->Hp->VK->Prop:=λb H Q=>∃S ys rs,b=[.ref S]/\H S=some (yZ w S ys)/\qk H (rs.map rD) ys/\(∀r∈rs,r ≠ [])/\rs.length<1000 /\
 ∀l a,H l=none->(∀G,qk G (rs.map rD) ys->qk G ((JS j6 rs).map rD) a)->Q (.ref l) (upd H l (.lst a))
def HY (w:World):YE->Hp->VK->Prop:=λa H Q=>∃S ys,a=[.ref S]/\H S=some (yZ w S ys)/\Q (.int ys.length) H
def Td (p:us.Perm vs):∀{f:YE} {rs:J0},jo f us->f.length=rs.length->∃(a:YE) (b:J0),jo a vs/\b.Perm rs/\a.length=b.length/\∀G,qk G (rs.map rD) f->qk G (b.map rD) a:=by
 induction p with
 |nil=>exact λ{f rs} h c=>⟨f,rs,h,.refl _,c,λ_ h=>h⟩
 |cons x _ C =>
  intro f rs h c;cases h with
  |cons r h =>
   cases rs with
   |nil=>simp at c
   |cons q rs =>
    obtain⟨a,b,j,m,n,o⟩:=C h (by simpa using c);refine⟨_::a,q::b,.cons r j,m.cons q,by simp[n],λG g=>?_⟩;obtain⟨y,w,e,i,t⟩:=g;cases e;exact⟨_,_,rfl,i,o G t⟩
 |swap x y l =>
  intro f rs h c;cases h with
  |cons r h =>
   cases h with
   |cons F h =>
    cases rs with
    |nil=>simp at c
    |cons q rs =>
     cases rs with
     |nil=>simp at c
     |cons H rs =>
      refine⟨_,H::q::rs,.cons F (.cons r h),.swap _ _ _,by simpa using c,λG g=>?_⟩;obtain⟨y,w,e,i,t⟩:=g;cases e;obtain⟨y,w,e,I,J⟩:=t;cases e;exact⟨_,_,rfl,I,⟨_,_,rfl,i,J⟩⟩
 |trans _ _ u v =>
  intro f rs h c;obtain⟨a,b,j,m,n,o⟩:=u h c;obtain⟨z,B,i,K,L,M⟩:=v j n;exact⟨z,B,i,K.trans m,L,λG g=>M G (o G g)⟩
section
variable {X:Cx}
def call_setRows (L:X.calm=true)(hu:X.A.units+64<cLine):jO X (.type "set") (Dy X.w):=by
 intro Y s Z H xs G Q I M h;obtain⟨a,ys,rs,rfl,N,J,hl,q⟩:=h;obtain⟨u,rfl,O⟩:=QD M;obtain rfl:u=Value.ref a:=O;obtain⟨its,p,pl,hz⟩:=I.list (.inl N);have P:=J.length;have l2:=p.length;rw[Zql] at P;have sz:its.toArray.size=its.length:=Zm;have S:∀i,its.toArray.getD i .none=its.getD i .none:=λi=>by
  simp
 have T:∀i,i<its.length->zi s.heap (its.getD i .none) (rs.getD i []):=λi f=>by
  have hr:i<rs.length:=()
  obtain⟨x,g,U⟩:=J.get (i:=i) (d:=rD (rs.getD i [])) ();obtain⟨v,l,y⟩:=p.get g;obtain⟨b,o,ws,n,R⟩:=C9 I.hok U y;rw[Qf l];exact Tb R
 refine S7 (I.ok.hd L) pl.isList (SJ X.prog X.w s.heap) (λi v l=>?_) () () λh' tk H' kk=>?_
 .grind
 .have same:∀i j,i<its.toArray.size->j<its.toArray.size->(λv u=>decide (zj s.heap v=zj s.heap u)) ((λi=>its.toArray.getD i .none) i) ((λi=>its.toArray.getD i .none) j)=decide (rs.getD i []=rs.getD j []):=λi j f hj=>by
   grind[Bg]
  obtain⟨es,t,m,B,led,plain⟩:=H';rw[HW same _ (Zf _)] at B;obtain⟨ep,K⟩:=m.at_;have en:its.toArray.size=rs.length:=()
  rw[en] at B;have c:(es.toList.map (·.2)).Perm ((jP rs rs.length).map λi=>its.getD i .none):=by
   have:=B.map (·.2);rw[Zw,Zw] at this;refine this.trans (List.Perm.of_eq (UR λi _=>?_));exact S i
  have vl:jo ((jP rs rs.length).map λi=>ys.getD i .non) ((jP rs rs.length).map λi=>its.getD i .none):=Xj λi f=>by
   have f:=Xv rs _ i f;obtain⟨x,g⟩:∃x,ys[i]? = some x:=⟨ys[i]'(),()⟩;obtain⟨v,l,y⟩:=p.get g;rw[Qf g,Qf l];exact y
  have C:es.size<=1000:=by
   have:=c.length_eq;rw[Zql,Zql,Uo] at this;have:=Dw rs rs.length;lia
  have F:t.place.size=es.size:=by
   have:=m.tab.size;rw[Ul] at this;exact this
  refine⟨.ref s.heap.objs.size,upd H s.heap.objs.size (yZ X.w s.heap.objs.size ((jP rs rs.length).map λi=>ys.getD i .non)),I.laid (λb o e=>kk b o (Zk e) e) (Zf _) ?_,rfl,q _ (I.hok.fresh (Zf _))⟩;refine⟨⟨es,ep,t,_,K,⟨m.tab.fits,plain,led,m.tab.up,F⟩,C,c,vl⟩,⟨_,K⟩,λh1 h2 z kp=>?_⟩;have ⟨es,ep,t,G,e,r⟩:=z;exact⟨es,ep,t,G,kp _ e,r⟩
def HZ (I:Inv X Y Z H s)(h:H S=some (yZ X.w S ys)):∃es ep t a,s.heap.get? S=some (WO es ep t)/\SetGood X.w es t/\es.size<=1000/\(es.toList.map (·.2)).Perm a/\jo ys a:=(I.hok S _ h).1
def Te
 (j:wpAny (model prog w) A.in1 (collect x) (λa c=>∃lt,Wk lt/\a.length<1000/\(∀f,(∀b o,c.heap.get? b=some o->f.get? b=some o)->2<=a.length->w5 prog w A.in1.in1 { c with heap:=f } a lt) /\
  ∀g f l,Pl a.length g a.length->Up lt g a.length->(∀b o,c.heap.get? b=some o->f.get? b=some o)->c.heap.objs.size<=l->(∃e,f.get? l=some (seqObj "list" (g.map (j9 a)) e))->Q (.ref l) { c with heap:=f }) E s):
 YJ prog w A (call (.builtin "sorted") [x]) Q E s:=by
 refine Calls.call_function_entry kind_sorted plain_sorted entry_sorted (args_sorted1 _) (Za (Zb (Za (Zc j (λa c z=>?_) λ_ _ e=>e))));obtain⟨lt,W,h,m,n⟩:=z;have i:(c.heap.push (seqObj "list" a.toArray 0)).get? c.heap.objs.size=some (seqObj "list" a.toArray 0):=Zr _ rfl;have q:∀b o,c.heap.get? b=some o->b≠c.heap.objs.size:=λb o e=>Zi (Zk e);refine Za (wpAny_newList (Za (wpAny_holding (wpAny_call_entry slot_list_sort ⟨_,i,rfl⟩ entry_list_sort (FN W i h (λf r=>m f λb o e=>r b o (q b o e) (Zq _ e)) λg p u=>⟨_,rfl,Zb ⟨_,rfl,n g _ _ p u (λb o e=>?_) (Zf _) (sortedHeap_at i)⟩⟩) (args_list_sort _)))))
 grind[size_push',sortedHeap_old,Nat.lt_succ_of_lt,Heap.lt_size,Heap.get?_push_of_some]
def call_sortedSet (hc:X.calm=true)(hu:X.A.units+64<cLine):jO X (.builtin "sorted") (HX X.w):=by
 intro Y s Z H xs us Q I rv h;obtain⟨S,ys,rs,rfl,hS,U,J,h64,q⟩:=h;obtain⟨u,rfl,ru⟩:=QD rv;obtain rfl:u=Value.ref S:=ru;obtain⟨es,ep,t,ws,ho,G,hsz,pm,vl⟩:=HZ I hS;have l1:=U.length;rw[Zql] at l1;have K:∀m:Yf,m.Perm (es.toList.map (·.2))->m.length=rs.length:=λm n=>by
  have a:=n.length_eq;have b:=pm.length_eq;have c:=vl.length;lia
 refine Te (Ta (A:=X.A.in1) (E:=X.xe) (I.ok.hd hc) ho G hsz λh1 tk m kk n hsz1=>?_);obtain⟨g,f,y,L,l2,g2⟩:=Td (pm.symm.trans n.symm) vl ();have lv:=K m n;have lr:=L.length_eq;have A2:=g2 H U;have M:∀r∈f,r ≠ []:=λr hr=>J r (L.mem_iff.mp hr);refine⟨λi j=>j6 (f.getD i []) (f.getD j []),xt.wk λi=>f.getD i [],(),λh' N h2=>FZ (by show X.A.units+1+1+4<cLine;lia) (I.hok.kept λb o e=>N b o (kk b o e)) A2 y M h2,λz h' l p u N hl O=>?_⟩;have ⟨e,O⟩:=O;have P:m.length=f.length:=()
 rw[P] at p u;have B:s.heap.objs.size<=l:=by
  have hl:h1.objs.size<=l:=hl;lia
 have R:∀i∈z.toList,∃x v,g[i]? = some x/\m[i]? = some v/\jp x v:=λi C=>by
  have hn:=p.mem C;have ⟨x,F⟩:∃x,g[i]? = some x:=⟨g[i]'(),()⟩;have ⟨v,n,rr⟩:=y.get F;exact⟨x,v,F,n,rr⟩
 have sp:=C8 xt p u;have se:=Y0 xt (((Qk f).trans L).trans (Qk rs).symm) (V7 xt f) (V7 xt rs);have T:=q l (z.toList.map λi=>g.getD i .non) (I.hok.fresh B) λG hG=>by
  have:=Bh (g2 G hG) z.toList λi C=>p.mem C
  rwa [sp,se] at this
 refine⟨.ref l,upd H l (.lst (z.toList.map λi=>g.getD i .non)),I.laid (λb o e=>N b o (kk b o e)) B ⟨?_,z.toList.map (j9 m),e,?_,?_⟩,rfl,T⟩
 .rw[Zql,p.len];exact QR ()
 .refine Xj λi C=>?_;have ⟨x,v,F,n,rr⟩:=R i C;unfold j9
  rwa [Qf F,Qf n]
 .rw[O]
  congr 3
  apply Vj;simp
def call_lenSet:jO X (.builtin "len") (HY X.w):=by
 intro Y s Z H m n Q I b h;obtain⟨S,ys,rfl,f,q⟩:=h;obtain⟨u,rfl,g⟩:=QD b;obtain rfl:=g;obtain⟨es,ep,t,o,i,G,hsz,j,l⟩:=HZ I f;have a:=j.length_eq;rw[Zql,Uo] at a;have c:=l.length;have e:es.size=ys.length:=()
 refine call_len_set i ⟨rfl,rfl,rfl⟩ rfl G.fits () ⟨.int ys.length,H,I.tok _,⟨_,by rw[e]⟩,q⟩
end
end L2.ST
namespace L2.DL
open PySem PySem.Spec PyProof.Rows L2.ST
def YX:YG->YH
 | [.lst ds]=>(Qt Kg ds).bind λrs=>if(∀r∈rs,r ≠ [])/\(dedR rs).length<1000/\rs.length<=999 then some (.lst ((JS j6 (dedR rs)).map js)) else none
 |_=>none
def YY:YG->YH
 | [.lst ds]=>(Qt Kg ds).bind λrs=>if rs.length<=999 then some (.int (dedR rs).length) else none
 |_=>none
section
variable {X:Cx}{E:XK}{fr:FA}{es:Ym}{e:Expr}
def Th (h:∀{s:TA},PA X es s->PE X e (wT (HX X.w) (Ah (wT (Dy X.w) s) wQ)))(y:QA X E es fr):QN X E e (jv YX fr):=PE.weak (h y) λZ H Q A=>by
 obtain⟨B,F,sd,r,n⟩:=A;refine⟨B,F,sd,r,(ja n).mono (λds C O c g b I=>?_) λ_ _ q=>q⟩;obtain⟨z,hz,q⟩:=jg C;unfold YX at hz
 split at hz
 .obtain⟨rs,J,hz⟩:=Jg.mp hz
  split at hz
  .rename_i j;obtain rfl:=Zqi hz;obtain⟨v,rfl,h⟩:=Qu I;rw[AM J,jj] at h;obtain⟨a,ys,rfl,K,m⟩:=h;refine⟨a,ys,rs,rfl,K.same b.fh,zY.mp (jd.same b.fh _ _ m),j.2.2,λS t=>?_⟩;have u:∀G,qk G (rs.map rD) ys->qk G ((dedR rs).map rD) ((jP rs rs.length).map λi=>ys.getD i .non):=λG o=>Bh o _ λi L=>Xv rs _ i L;refine⟨S,_,dedR rs,rfl,JL,u _ (qk.same (KB t (yZ X.w S ((jP rs rs.length).map λi=>ys.getD i .non))) _ _ (zY.mp (jd.same b.fh _ _ m))),λr M=>j.1 r (bb.mp M),j.2.1,λl N w o=>?_⟩;have p:l≠S:=λz=>by simp_all [JL]
   have f:g l=none:=by rwa [JI p] at w
   have x:Ext c g c (upd g S (yZ X.w S ((jP rs rs.length).map λi=>ys.getD i .non))):=.keep b.fh t _;exact(q.ext b) l c _ (x.trans (.keep x.fh w _)) f (Qd b.fh f) ⟨N,JL,zY.mpr (o c (u c (zY.mp m)))⟩
  .exact J5 hz
 simp_all
def Ti (h:∀{f:TA},PA X es f->PE X e (wT (HY X.w) (Ah (wT (Dy X.w) f) wQ)))(j:QA X E es fr):QE X E e (jv YY fr):=PE.weak (h j) λZ H Q l=>by
 obtain⟨B,F,sd,r,n⟩:=l;refine⟨B,F,sd,r,(ja n).mono (λds m y c g b o=>?_) λ_ _ q=>q⟩;obtain⟨z,hz,q⟩:=jg m;unfold YY at hz
 split at hz
 .obtain⟨rs,p,hz⟩:=Jg.mp hz
  split at hz
  .rename_i s;obtain rfl:=Zqi hz;obtain⟨v,rfl,h⟩:=Qu o;rw[AM p,jj] at h;obtain⟨a,ys,rfl,t,u⟩:=h;refine⟨a,ys,rs,rfl,t.same b.fh,zY.mp (jd.same b.fh _ _ u),s,λS w=>⟨S,_,rfl,JL,?_⟩⟩;have x:Ext c g c (upd g S (yZ X.w S ((jP rs rs.length).map λi=>ys.getD i .non))):=.keep b.fh w _;refine q _ c _ (b.trans x) (je.mpr ?_);unfold dedR;rw[Zql,Zql]
  .exact J5 hz
 simp_all
end
def bt_set:bootBuiltins "set" = some (.type "set"):=by kernel_rfl
def Tj (h:∀r∈rs,r ≠ [])(a:(dedR rs).length<1000)(b:rs.length<=999):YX [.lst (rs.map js)]=some (.lst ((JS j6 (dedR rs)).map js)):=by
 show(Qt Kg (rs.map js)).bind _=_
 simp_all [YL]
def Tk (a:rs.length<=999):YY [.lst (rs.map js)]=some (.int (dedR rs).length):=by
 show(Qt Kg (rs.map js)).bind _=_
 simp_all [YL]
end L2.DL
namespace L2.ST
def zB (a b:Jz):Bool:=decide (a.length<b.length)||(decide (a.length=b.length)&&j6 a b)
theorem Xw:zB a b=true↔a.length<b.length\/(a.length=b.length/\j6 a b=true):=by
 simp_all [zB]
def Dz:zB a b=false↔b.length<a.length\/(a.length=b.length/\j6 a b=false):=by
 grind[Xw]
def vS:Tot zB where
 asy:=λa b h=>by
  rw[Xw] at h;rw[Dz];rcases h with h|⟨f,e⟩
  .exact .inl h
  .exact .inr ⟨f.symm,xt.asy _ _ e⟩
 neg:=λa b c h=>by
  rw[Xw] at h;rw[Xw,Xw];rcases h with h|⟨f,e⟩
  .omega
  .rcases Ve a.length b.length with z|z|z
   .exact .inl (.inl z)
   .rcases xt.neg a b c e with y|y
    .exact by grind
    simp_all
   lia
 tot:=λa b f e=>by
  rw[Dz] at f e;rcases f with f|⟨f,h3⟩<;>rcases e with e|⟨e,h4⟩
  .omega
  .omega
  .omega
  .exact xt.tot _ _ h3 h4
def Tl (hs:l.Pairwise λa b=>j6 a b=true)(p:Pl l.length jx l.length)(u:Up (λi j=>decide (((l.getD i []).length:Int)<((l.getD j []).length:Int))) jx l.length):jx.toList.map (λi=>l.getD i [])=JS zB l:=by
 refine Y0 vS ?_ ?_ (V7 vS l)
 .refine Vq ?_ (Qk l).symm;have q:jx.toList.Perm (List.range l.length):=by
   have:=Jo.mp p.perm;simpa using this
  refine(q.map _).trans (List.Perm.of_eq ?_);apply List.ext_getElem
  .simp
  .intro i r g;simp[g]
 .refine Jj.mpr λa b h m ab=>?_;rw[VG,VG];have sz:jx.toList.length=l.length:=by rw[Uo,p.size]
  rw[Zql] at h m;have n:jx.toList[a]=gx jx a:=by
   simp_all [gx]
  have o:jx.toList[b]=gx jx b:=by
   simp_all [gx]
  rw[n,o];have e:=p.lt (Zf _) (show a<l.length from ());have f:=p.lt (Zf _) (show b<l.length from ());have c:=u a b ab ();generalize gx jx a=i at c e;generalize gx jx b=j at c f;rw[Dz];rcases c with c|⟨c,ij⟩
  .simp_all
  .have:=of_decide_eq_false c;rcases U4 (l.getD i []).length (l.getD j []).length with z|z
   .exact .inl z
   .refine .inr ⟨(),xt.asy _ _ ?_⟩;have:=Jj.mp hs i j e f ij
    simp_all
section
variable {prog:Program}{w:World}{A:Around}{E:Ya}{s:Shared}
def Tn (f:IntsAre a kz)(g:kz.length=vs.length):yq prog w A s oneType' (λi=>(j9 a i,j9 vs i)) (λi j=>decide (kz.getD i 0<kz.getD j 0)) vs.length:=by
 have b:∀{a:Yf} {kz:Yh},IntsAre a kz->∀i,i<kz.length->∃t,j9 a i=.int (kz.getD i 0) t:=by
  intro a kz h
  induction h with
  |nil=>simp
  |cons n t _ c =>
   intro i e;cases i with
   |zero=>exact⟨t,rfl⟩
   |succ i=>exact c i ()
 intro i j e l E Q m
 grind[W.kat_lt_int]
def Tp (kz:Yh):Wk λi j=>decide (kz.getD i 0<kz.getD j 0):=
 ⟨λi j h=>(),()⟩
def Tq (p:IntsAre keys.toList kz)(C:kz.length=vs.length)(q:vs.length<1000)(r:kS≠a)
 (x:s.heap.get? kS=some (seqObj "list" keys e)) (F:s.heap.get? a=some (seqObj "list" #[] e1))
 (h:∀f t,Pl vs.length f vs.length->Up (λi j=>decide (kz.getD i 0<kz.getD j 0)) f vs.length->(∀b o,b≠kS->b≠a->s.heap.get? b=some o->t.get? b=some o)->(∃c,t.get? a=some (seqObj "list" (f.map (j9 vs)) c))->P (.done (.ret .none)) { s with heap:=t }):
 YJ prog w A (ksk_end a false vs.toArray e1 (.ref kS) keys) P E s:=by
 have hsz:keys.size=vs.length:=by
  have M:=p.length
  simp_all
 have N:keys=keys.toList.toArray:=Array.toArray_toList.symm;have y:keys.zip vs.toArray=(Array.range vs.length).map λi=>(j9 keys.toList i,j9 vs i):=by
  apply Array.ext_getElem?;intro k;rw[UN];by_cases u:k<vs.length
  .rw[Array.getElem?_range,Zd u]
   grind[j9,List.getD_eq_getElem?_getD,Array.length_toList,Array.getElem?_zip_eq_some,Zqg]
  grind
 have m:∀st (f:Yi),arrOf st=f.map (λi=>(j9 keys.toList i,j9 vs i))->failedOf st=none->Pl vs.length f vs.length->Up (λi j=>decide (kz.getD i 0<kz.getD j 0)) f vs.length->YJ prog w A (ksk_tail a false e1 (.ref kS) st) P E s:=by
  intro st f G H z I;have J:(arrOf st).map (·.2)=f.map (j9 vs):=by rw[G,Array.map_map];rfl
  unfold ksk_tail;dsimp only;rw[J,H];obtain⟨B,g1⟩:∃B,(s.heap.update kS (Obj.mapSeq λ_ => #[])).get? kS=some (seqObj "list" #[] B):=⟨_,get?_update_seq x (λ_ => #[])⟩;have g:(s.heap.update kS (Obj.mapSeq λ_ => #[])).get? a=some (seqObj "list" #[] e1):=by rw[Heap.get?_update_ne _ _ _ _ (Ne.symm r)];exact F
  refine Za (listUpdate_at x rfl ?_ (by rw[hsz,sizeLine_eq];lia) (Ua _));refine Za (wpAny_letGo ?_);refine Za (seqEpoch_at (s:={ s with heap:=s.heap.update kS (Obj.mapSeq λ_ => #[]) }) g rfl (Za (listUpdate_at (s:={ s with heap:=s.heap.update kS (Obj.mapSeq λ_ => #[]) }) g rfl ?_ (Ua _) (by rw[Ze Zj,Ul,z.size,sizeLine_eq];lia))));simp only[bne_self_eq_false,UD,if_false];refine Zb (h f _ z I (λb o K v L=>?_) ?_)
  .show((s.heap.update kS (Obj.mapSeq λ_ => #[])).update a (Obj.mapSeq λ_=>f.map (j9 vs))).get? b=some o;rw[Heap.get?_update_ne _ _ _ _ v,Heap.get?_update_ne _ _ _ _ K];exact L
  .exact⟨_,get?_update_seq g (λ_=>f.map (j9 vs))⟩
 unfold ksk_end;dsimp only;simp only[UD,if_false];by_cases l:vs.toArray.size<2
 .rw[Zd l,Zd l];refine Za (Zb (m _ (Array.range vs.length) y rfl (A4 _ _ (Zf _)) λi j O R=>?_));rw[Zm] at l;lia
 .rw[Ze l,Ze l];rw[Zm] at l;rw[ksk_kind p (by rw[hsz];lia)];refine Za (Zb ?_);refine Za (Zc (FL (Tp kz) (Tn p C) (Q:=λ_ n=>∃f,arrOf n=f.map (λi=>(j9 keys.toList i,j9 vs i))/\failedOf n=none/\Pl vs.length f vs.length/\Up (λi j=>decide (kz.getD i 0<kz.getD j 0)) f vs.length)
   ⟨y,rfl,rfl,rfl⟩ (A4 _ _ ()) () q ()) ?_ λ_ _ e=>e)
  exact()
def Tr {a q:Addr}{f:Value}{m:Yf}{kz:Yh}{L:Nat}{P:PySem.Fin->YC}(O:kz.length=m.length)(F:m.length<1000)(G:q≠a)
 (Q:s.heap.get? q=some (seqObj "list" #[] 0)) (hA:s.heap.get? a=some (seqObj "list" #[] L))
 (z:∀(i:Nat) v k,m[i]? = some v->kz[i]? = some k->∀h tk,(∀b o,b≠q->b≠a->s.heap.get? b=some o->h.get? b=some o) ->
  YJ prog w A (call f [v]) (λr s'=>∃t H,r=.int k t/\s'={ s with heap:=h,toks:=H }) (λ_ _=>False) { s with heap:=h,toks:=tk })
 (h:∀C l tk,Pl m.length C m.length->Up (λi j=>decide (kz.getD i 0<kz.getD j 0)) C m.length->(∀b o,b≠q->b≠a->s.heap.get? b=some o->l.get? b=some o)->(∃c,l.get? a=some (seqObj "list" (C.map (j9 m)) c))->P (.done (.ret .none)) { s with heap:=l,toks:=tk }):
 YJ prog w A (ksk_rest a f false m.toArray L (.ref q)) P E s:=by
 unfold ksk_rest;refine Za (wpAny_rule ?_)
 first
  |rw[List.forIn_toArray]
  | (rw[<- Vm];simp only[List.toList_toArray])
  |rw[<- Vm]
 refine Za (ksk_fold (λi s'=>∃l tk y e,s'={ s with heap:=l,toks:=tk }/\(∀b o,b≠q->s.heap.get? b=some o->l.get? b=some o)/\l.get? q=some (seqObj "list" y e)/\IntsAre y.toList (kz.take i)) m 0 s
  ⟨s.heap,s.toks,#[],0,rfl,λ_ _ _ e=>e,Q,by simpa using IntsAre.nil⟩ ?step ?done)
 case step =>
  rintro j x s' R ⟨l,tk,y,e,rfl,M,n,I⟩;simp only[Nat.zero_add] at I ⊢;have hj:j<m.length:=();obtain⟨k,hkj⟩:∃k,kz[j]? = some k:=⟨_,Zqg ()⟩;have hz:y.size<=m.length:=by
   have S:=I.length;rw[Uo,Uv] at S;lia
  refine Za (wpAny_attempt (Zc (z j x k R hkj l tk λb o T _ U=>M b o T U) (λv X Y=>?_) λ_ _ Z=>Z.elim));obtain⟨B,J,rfl,rfl⟩:=Y
  try dsimp only
  obtain⟨N,hc2⟩:∃N,(l.update q (Obj.mapSeq (·.push (.int k B)))).get? q=some (seqObj "list" (y.push (.int k B)) N):=⟨_,get?_update_seq n (·.push (.int k B))⟩;have ek:kz.take (j+1)=kz.take j++[k]:=by rw[List.take_add_one,hkj];simp
  have ea:(y.push (Value.int k B)).toList=y.toList++[Value.int k B]:=by simp
  refine Za (listUpdate_at (s:={ s with heap:=l,toks:=J }) n rfl ?_ (by rw[sizeLine_eq];lia) (Zh (Yx (Array.size_push ..)) (by rw[sizeLine_eq];lia)))
  grind[wpAny_pure,ksk_snoc,Heap.get?_update_ne]
 case done =>
  rintro s' ⟨l,tk,y,e,rfl,M,n,I⟩;have K:IntsAre y.toList kz:=by
   grind[List.take_of_length_le]
  try dsimp only
  refine Za (listItems_at n rfl ?_);exact Tq K O F G n () λC h2 p u k2 g=>by grind
def Ts {a:Addr}{f:Value}{l:Yf}{kz:Yh}{n:Nat}{P:PySem.Fin->YC}(m:s.heap.get? a=some (seqObj "list" l.toArray n))(G:kz.length=l.length)(y:l.length<1000)
 (C:∀(i:Nat) v k,l[i]? = some v->kz[i]? = some k->∀h tk,(∀b o,b≠a->s.heap.get? b=some o->h.get? b=some o) ->
  YJ prog w A (call f [v]) (λr s'=>∃t z,r=.int k t/\s'={ s with heap:=h,toks:=z }) (λ_ _=>False) { s with heap:=h,toks:=tk })
 (h:∀q x tk,Pl l.length q l.length->Up (λi j=>decide (kz.getD i 0<kz.getD j 0)) q l.length->(∀b o,b≠a->s.heap.get? b=some o->x.get? b=some o)->(∃c,x.get? a=some (seqObj "list" (q.map (j9 l)) c))->P (.done (.ret .none)) { s with heap:=x,toks:=tk }):
 YJ prog w A (ksk_tree a f false) P E s:=by
 have H:a<s.heap.objs.size:=Zk m;obtain⟨F,ho1⟩:∃F,(s.heap.update a (Obj.mapSeq λ_=>(#[]:Yn))).get? a=some (seqObj "list" #[] F):=⟨_,get?_update_seq m λ_ => #[]⟩;have B:((s.heap.update a (Obj.mapSeq λ_=>(#[]:Yn))).push (seqObj "tuple" l.toArray 0)).objs.size=s.heap.objs.size+1:=by simp
 unfold ksk_tree;refine Za (listItems_at m rfl ?_);refine Za (listUpdate_at m rfl ?_ (by rw[Zm,sizeLine_eq];lia) (Ua _));refine Za (seqEpoch_at ho1 rfl (Za (wpAny_newTuple ?_ (by show l.length<=_;rw[sizeLine_eq];lia))));refine Za (wpAny_newList (wpAny_holding ?_) (Ua _));have I:∀{b o},s.heap.get? b=some o->b≠s.heap.objs.size/\b≠s.heap.objs.size+1:=λe=>⟨Zi (Zk e),Zi (UC (Zk e))⟩;have keep:∀b o,b≠a->s.heap.get? b=some o->(((s.heap.update a (Obj.mapSeq λ_=>(#[]:Yn))).push (seqObj "tuple" l.toArray 0)).push (seqObj "list" #[] 0)).get? b=some o:=λb o J e=>by
  grind[Heap.get?_push_of_some,Heap.get?_update_ne]
 refine Tr
  G y (by rw[B];exact U6 (UC H)) (Zr _ rfl) (Zq _ (Zq _ ho1))
  ()
  (λq x tk p u K g=>())
end
section
variable {X:Cx}
def Ia:YE->Hp->VK->Prop:=λe H Q=>∃a ys rs,e=[.ref a]/\Rd H a (.lst ys)/\qk H (rs.map rD) ys/\rs.Pairwise (λa b=>j6 a b=true)/\rs.length<1000/\(∀r∈rs,r.length<=1000) /\
 ∀l c,H l=none->(∀G,qk G (rs.map rD) ys->qk G ((JS zB rs).map rD) c)->Q (.ref l) (upd H l (.lst c))
def Tt {Y:Yb}{Z: St}{H:Hp}{s:Shared}{a:Addr}{ys:YE}{rs:J0}{Q:VK}(I:Inv X Y Z H s)(ha:Rd H a (.lst ys))(S:qk H (rs.map rD) ys)(hs:rs.Pairwise (λa b=>j6 a b=true))(h64:rs.length<1000)(E:∀r∈rs,r.length<=1000)
 (q:∀l T,H l=none->(∀G,qk G (rs.map rD) ys->qk G ((JS zB rs).map rD) T)->Q (.ref l) (upd H l (.lst T))):
 YI X (call (.builtin "sorted") [.ref a] [(Str.ofString "key",.builtin "len")]) (EP X Y Z Q) X.xe s:=by
 obtain⟨its,F,pl,hz⟩:=I.list (.inl ha);have l1:=S.length;have l2:=F.length;rw[Zql] at l1;have J:its.length=rs.length:=()
 have hl:=pl.isList;have keep:∀b o,s.heap.get? b=some o->(((s.heap.push (seqObj "list" #[] 0)).update s.heap.objs.size (Obj.mapSeq (· ++ its.toArray))).push (seqObj "list" its.toArray 0)).get? b=some o:=λb o q=>by
  have w:b<s.heap.objs.size:=Zk q;refine Zq _ ?_;rw[Heap.get?_update_ne _ _ _ _ (Zi w),Heap.get?_push_ne _ _ _ (Zi w)];exact q
 have hsz:((s.heap.push (seqObj "list" #[] 0)).update s.heap.objs.size (Obj.mapSeq (· ++ its.toArray))).objs.size=s.heap.objs.size+1:=by
  simp
 have h:(((s.heap.push (seqObj "list" #[] 0)).update s.heap.objs.size (Obj.mapSeq (· ++ its.toArray))).push (seqObj "list" its.toArray 0)).get? (s.heap.objs.size+1)=some (seqObj "list" its.toArray 0):=by
  rw[<- hsz];exact Zr _ rfl
 refine call_function_entry_kw kind_sorted plain_sorted entry_sorted (ksk_s1 _ _) ?_;unfold Builtin.«sorted»;refine Za (m:=checkCount "sorted" 1 1 _) (Zb ?_);refine Za (collect_list hl ?_ (by rw[J,sizeLine_eq];lia));refine Za (wpAny_newList ?_ (by rw[J,sizeLine_eq];lia));show wpAny _ _ _ _ _ { s with heap:=((s.heap.push (seqObj "list" #[] 0)).update s.heap.objs.size (Obj.mapSeq (· ++ its.toArray))).push (seqObj "list" its.toArray 0) };rw[hsz];generalize hH:((s.heap.push (seqObj "list" #[] 0)).update s.heap.objs.size (Obj.mapSeq (· ++ its.toArray))).push (seqObj "list" its.toArray 0)=hp at keep h;refine Za (wpAny_holding (wpAny_call_entry_kw slot_list_sort ⟨_,h,rfl⟩ entry_list_sort ?body (ksk_l1 _ _)))
 case body =>
  show wpAny (model X.prog X.w) X.A.in1.in1 (Builtin.«list.sort» ⟨[.ref (s.heap.objs.size+1)],[(Str.ofString "key",.builtin "len")]⟩) _ _ _;rw[ksk_t4];refine Ts (s:={ s with heap:=hp }) (kz:=rs.map λr=>(r.length:Int)) h () () (λi v k y hk C tk K=>?_) λn C tk p u K g=>⟨_,rfl,Zb ⟨_,rfl,?_⟩⟩
  .have f:i<rs.length:=by
    have:=(Jc.mp hk).1
    rwa [Zql] at this
   obtain⟨x,t,hI⟩:=S.get (i:=i) (d:=rD (rs.getD i [])) (by rw[Zv,Zqg f,Qf (Zqg f)];rfl);obtain⟨v',z,A⟩:=F.get t;rw[y] at z;obtain rfl:=Zqi z;obtain⟨b,o,L,m,R⟩:=C9 I.hok hI A;obtain rfl:v=Value.ref b:=R.isv;have hb:b≠s.heap.objs.size+1:=Zi (UC (Zk R.get));have ht:IsTup C b L.toArray:=⟨o,K b o hb (keep b o R.get),R.cls,m,R.dat⟩;have M:L.length=(rs.getD i []).length:=R.prs.1;have ek:k=((rs.getD i []).length:Int):=by
    simp_all
   have U:(rs.getD i []).length<=1000:=by
    rw[Qf (Zqg f)];exact E _ (UE f)
   have ev:Value.int ((L.toArray.size:Nat):Int) (tk+1)=Value.int k (tk+1):=by simp_all
   exact len_tuple (s:={ s with heap:=C,toks:=tk }) ht (by rw[Zm,M];lia) ⟨tk+1,tk+1+1,ev,rfl⟩
  .obtain⟨c,g⟩:=g;have N:∀b o,s.heap.get? b=some o->C.get? b=some o:=λb o e=>K b o (Zi (UC (Zk e))) (keep b o e);rw[J] at p u;have ud:(λi j=>decide ((rs.map λr=>(r.length:Int)).getD i 0<(rs.map λr=>(r.length:Int)).getD j 0))=λi j=>decide (((rs.getD i []).length:Int)<((rs.getD j []).length:Int)):=by
    have e:∀i,(rs.map λr=>(r.length:Int)).getD i 0=((rs.getD i []).length:Int):=λi=>by
     rw[Us,Zv,Us];cases rs[i]?<;>rfl
    funext i j
    rw[e,e]
   rw[ud] at u;have sp:=Tl hs p u;have B:s.heap.objs.size<=s.heap.objs.size+1:=Nat.le_succ _;have O:∀i∈n.toList,∃x v,ys[i]? = some x/\its[i]? = some v/\jp x v:=λi f=>by
    have hn:=p.mem f;obtain⟨x,t⟩:∃x,ys[i]? = some x:=⟨ys[i]'(),()⟩;obtain⟨v,y,A⟩:=F.get t;exact⟨x,v,t,y,A⟩
   have P:=q (s.heap.objs.size+1) (n.toList.map λi=>ys.getD i .non) (I.hok.fresh B) λG hG=>by
    have:=Bh hG n.toList λi f=>p.mem f;rw[sp] at this;exact this
   refine⟨.ref (s.heap.objs.size+1),upd H (s.heap.objs.size+1) (.lst (n.toList.map λi=>ys.getD i .non)),I.laid (a:=s.heap.objs.size+1) (o:=.lst (n.toList.map λi=>ys.getD i .non)) (t':=tk) N B ⟨?_,n.toList.map (j9 its),c,?_,?_⟩,rfl,P⟩
   .rw[Zql,p.len];exact QR ()
   .refine Xj λi f=>?_;obtain⟨x,v,t,y,A⟩:=O i f;unfold j9;rw[Qf t,Qf y];exact A
   .rw[g]
    congr 3
    apply Vj;simp
def pe_sortLen (i:Gl X "sorted")(j:X.mg "sorted" = none)(b:Gl X "len")(c:X.mg "len" = none)(l:PA X [e] t)
 (m:backTo pos (starEach [e] X.env)=(false,eval e X.env)::backTo pos (starEach [] X.env):=by rfl) (f:(backTo pos (starEach [e] X.env)).any (·.1)=false:=by rfl):PE X (.Call (.Name "sorted" p) [e] [⟨some "key",.Name "len" lp,kp⟩] pos) (wT Ia t):=by
 intro Y s Z H Q I h;refine wpAny_Call_Name_kw (WY I i j (show bootBuiltins "sorted" = some (.builtin "sorted") by kernel_rfl) ?_ (by decide) (by decide));refine callWith_kw (jH (l pos Y s Z H _ I h) λA B ⟨C,E,g,n,o⟩=>(kws_cons (WY g b c boot_len (kws_nil ?_) (by decide) (by decide)))) m f;obtain⟨a,ys,rs,rfl,r,v,w,x,y,q⟩:=o;obtain⟨u,rfl,z⟩:=QD n;obtain rfl:=z;exact Tt g r v w x y q
end
end L2.ST
namespace L2.DL
open PySem PySem.Spec PyProof.Rows L2.ST
def YZ:YG->YH
 | [.lst ds]=>(Qt Kg ds).bind λrs=>if rs.Pairwise (λa b=>j6 a b=true)/\rs.length<1000/\∀r∈rs,r.length<=1000 then some (.lst ((JS zB rs).map js)) else none
 |_=>none
section
variable {X:Cx}{E:XK}{fr:FA}{es:Ym}{e:Expr}
def Tu (h:∀{g:TA},PA X es g->PE X e (wT Ia g))(m:QA X E es fr):QN X E e (jv YZ fr):=PE.weak (h m) λZ H Q o=>by
 obtain⟨B,F,sd,r,n⟩:=o;refine⟨B,F,sd,r,(ja n).mono (λds p y i A b s=>?_) λ_ _ q=>q⟩;obtain⟨z,hz,q⟩:=jg p;unfold YZ at hz
 split at hz
 .obtain⟨rs,t,hz⟩:=Jg.mp hz
  split at hz
  .rename_i c;obtain rfl:=Zqi hz;obtain⟨v,rfl,h⟩:=Qu s;rw[AM t,jj] at h;obtain⟨a,ys,rfl,u,j⟩:=h;exact⟨a,ys,rs,rfl,u.same b.fh,zY.mp (jd.same b.fh _ _ j),c.1,c.2.1,c.2.2,λl w f x=>((q.ext b) l i _ (.keep b.fh f _) f (Qd b.fh f) ⟨w,JL,zY.mpr (x i (zY.mp j))⟩)⟩
  .exact J5 hz
 simp_all
end
def Tv (h:rs.Pairwise (λa b=>j6 a b=true))(c:rs.length<1000)(e:∀r∈rs,r.length<=1000):YZ [.lst (rs.map js)]=some (.lst ((JS zB rs).map js)):=by
 show(Qt Kg (rs.map js)).bind _=_
 simp_all [YL]
end L2.DL
namespace L2
def yd.has {P:Program}{w:World}{H:Hp}{h:Heap}{a:Addr}{o:HO}(x:yd P w H h a o):∃u,h.get? a=some u:=by
 cases o with
 |lst c=>obtain⟨_,_,_,_,e⟩:=x;exact⟨_,e⟩
 |tup c=>obtain⟨_,_,_,o,e,_⟩:=x;exact⟨_,e⟩
 |dK b=>obtain⟨_,_,_,_,o,_,_,e,_⟩:=x;exact⟨_,e⟩
 |dT b=>obtain⟨_,_,_,_,o,_,_,e,_⟩:=x;exact⟨_,e⟩
 |set S n=>obtain⟨o,_,_,_,e,_⟩:=x;exact⟨_,e⟩
 |ins C g fs=>exact⟨_,x.2.2.2.1⟩
 |own y=>exact x
 |xd fs=>obtain⟨_,⟨_,_,_,e,_⟩,_⟩:=x;exact⟨_,e⟩
 |rng lo i=>obtain⟨_,_,_,e⟩:=x;exact⟨_,e⟩
 |frz j u=>exact⟨_,x.1⟩
 |tbl ps=>exact⟨_,x⟩
 |met f y=>exact⟨_,x⟩
 |ext φ => exact x.2.1
structure FlyAt (l:List Env)(h₀:Heap)(H:Hp)(x C:Addr)(B h:Heap):Prop where
 fly:∃t,Heap.FlyingW B l x (.ref C) (.ref t) h
 trk:∀b o,h.get? b=some o->(H b≠none\/((∃u,h₀.get? b=some u)/\b∉xh l))->B.get? b=some o
def xF (P:Program)(w:World):zT:=λa H s E e s'=>∃b x C B,e=.ref x/\s'.os=s.os/\AllBare s'.gens/\Un (xh a) [] H b s.heap s'.heap/\qQ P w b s'.heap/\FlyAt a s.heap b x C B s'.heap/\E (.ref C) none b
structure Thrown (X:Cx)(E:XK):Prop where
 on:∀(Y:Yb) (Z: St) (H:Hp) (s:Shared) (h₀:Heap) (x C:Addr) (B:Heap),Inv X Y Z H s->(∀b u,X.s₀.heap.get? b=some u->b∉X.ex->∃u',h₀.get? b=some u')->FlyAt X.stack h₀ H x C B s.heap->E (.ref C) none H->X.xe (.ref x) s
structure Raises (X:Cx)(E:XK):Prop where
 new:∀(Y:Yb) (Z: St) (H:Hp) (s:Shared) (h':Heap) (x C:Addr) (args:Yf),Inv X Y Z H s->Heap.MadeExcOf s.heap h' x (.ref C) args->E (.ref C) none H->X.xe (.ref x) { s with heap:=h' }
def Thrown.passes {X:Cx}{E:XK}(T:Thrown X E):Xa (xF X.prog X.w) X E:=by
 intro Y Z H s e s' I ⟨c,x,C,B,f,os,bare,un,a,g,h⟩;subst f;exact T.on Y Z c s' s.heap x C B (I.call' os un a bare ()) (λb u e i=>I.base.there b u e i) g h
section
variable {P:Program}{w:World}{K:W.Frag}{mg:Ye}{base:Heap}{N:Yk}{qual:Str}{scope:Scope}{f:Addr}{cd:Value}{A:Around}{outer:List Env}{s:Shared}{H:Hp}{E:XK}
def D0 {Y:Yb}{Z: St}{m:Hp}{s':Shared}{h₀ g B:Heap}{x C t:Addr}(I:Inv (jW (xF P w) P w K mg base N qual scope f cd A outer s H E) Y Z m s')
 (U:∀b u,s.heap.get? b=some u->∃J,h₀.get? b=some J) (p:Heap.FlyingW B outer x (.ref C) (.ref t) g) (L:s'.heap.UpToSlots g)
 (trk:∀b o,s'.heap.get? b=some o->(m b≠none\/((∃u,h₀.get? b=some u)/\b∉xh (envOfC qual scope s.heap.objs.size f cd::outer)))->B.get? b=some o) (M:E (.ref C) none m):
 xF P w outer H s E (.ref x) { s' with heap:=g }:=by
 have O:∀b u,s.heap.get? b=some u->b∉xh outer->b∉xh (envOfC qual scope s.heap.objs.size f cd::outer):=λb u e l z=>by
  have z:=z;rcases UV.mp z with q|q
  .exact Zn (Zk e) (by rw[q];exact Zy _)
  .exact l q
 have a:∀b:Addr,b∉(jW (xF P w) P w K mg base N qual scope f cd A outer s H E).ex:=λb z=>Zn (show b∈([]:Yl) from z) ();have keep:∀b o,s'.heap.get? b=some o->(m b≠none\/((∃u,s.heap.get? b=some u)/\b∉xh outer))->B.get? b=some o:=by grind
 have y:∀b o,s.heap.get? b=some o->b∈xh outer->∃F,g.get? b=some { o with slots:=F }:=λb o e l=>by
  obtain⟨F,Q⟩:=I.base.slot b o e (I.ok.frf b l) l (a b);obtain⟨_,i,j,R⟩:=I.ok.funs.mem l;have j:s.heap.get? b=some i:=j;rw[e] at j;obtain rfl:=Zqi j;obtain⟨r,S⟩:=L b _ Q R;exact⟨r,S⟩
 refine⟨m,x,C,B,rfl,I.os,I.bare,⟨λb o e n l _=>?_,(),λb o e n _=>I.base.free b o e n (a b),λb o e _=>?_,I.base.tups,I.base.frzs,I.base.tbls⟩,λb u e=>?_,⟨⟨t,p⟩,λb o e c=>?_⟩,M⟩
 .exact p.1 b o (keep b o (I.base.keep b o e n l (a b)) ())
 .by_cases l:b∈xh outer
  .grind
  .have ⟨i,G⟩:=I.base.there b o e (a b);exact⟨i,p.1 b i ()⟩
 .refine(I.hok b u e).stay (λc v X q=>p.1 c v (keep c v q (.inl ?_))) (λ_ q=>q) λ_ _ q=>q
  grind
 .have T:∃i,s'.heap.get? b=some i:=by
   rcases c with c|⟨⟨u,hu⟩,_⟩
   .cases q:m b with
    |none=>exact Zn q c
    |some u=>exact(I.hok b u q).has
   .exact I.base.there b u hu (a b)
  have ⟨i,G⟩:=T;have:=p.1 b i (keep b i G c)
  grind[Zqi]
def K3:Thrown (jW (xF P w) P w K mg base N qual scope f cd A outer s H E) E:=by
 refine⟨λY Z m s' h₀ x C B I i a j=>?_⟩;obtain⟨⟨t,c⟩,trk⟩:=a;have g:∀b:Addr,b∉(jW (xF P w) P w K mg base N qual scope f cd A outer s H E).ex:=λb z=>Zn (show b∈([]:Yl) from z) ();exact wpAny_leaves_onW I.ok.frames rfl c λn a l=>D0 I (λb u e=>i b u e (g b)) a l trk j
def Tw:Raises (jW (xF P w) P w K mg base N qual scope f cd A outer s H E) E:=by
 refine⟨λY Z r s' v x C args I h i=>?_⟩;have g:∀env∈(envOfC qual scope s.heap.objs.size f cd::outer),∀a,env.frame=some a->a∈xh (envOfC qual scope s.heap.objs.size f cd::outer):=λenv j a l=>Js.mpr ⟨env,j,l⟩;refine wpAny_leaves_madeW I.ok.frames rfl (λb o e=>W.of_hideAll _ e) (W.funFrames_hide I.stack g) h λm t n p y q=>(D0 (s':=s') I (λb u e=>I.base.there b u e (by show b∉([]:Yl);simp)) n ((Heap.UpToSlots.of_keeps h.keeps).trans q) (λb o e c=>(W.hideAll_get _ e λz=>?_)) i);rcases c with c|c
 .exact c (I.stkFree b z)
 simp_all
end
def yI (P:Program)(w:World)(K:W.Frag)(mg:Ye)(a:Heap)(name:Str)(k:Nat)(ps:Yk)(sp:Sp):Prop:=
 ∃f b,FnOk P w K mg a (xF P w) k f b ps sp/\zX K b ps []/\W.keepIn K (.ref f)=true/\mg name=some (.ref f)
theorem yI.mono {P:Program}{w:World}{K:W.Frag}{mg:Ye}{a:Heap}{name:Str}{j k:Nat}{ps:Yk}{sp:Sp}(c:yI P w K mg a name j ps sp)(h:j<=k):yI P w K mg a name k ps sp:=by
 obtain⟨f,b,F,r⟩:=c;exact⟨f,b,F.mono h,r⟩
section
variable {X:Cx}{E:XK}{name:Str}{k:Nat}{ps:Yk}{sp:Sp}{p pos:Pos}{e:Expr}{es:Ym}{t:TA}
def Z1 (c:yI X.prog X.w X.K X.mg X.base name k ps sp)(T:Thrown X E)(h:Room k X.A)(i:Gl X name)(j:PA X (e::es) t)
 (a:(name == ("__debug__" : Str))=false:=by decide) (l:starEach (e::es) X.env=(false,eval e X.env)::starEach es X.env:=by rfl) (g:(backTo pos (starEach es X.env)).any (·.1)=false:=by rfl):
 PE X (.Call (.Name name p) (e::es) [] pos) (BZ sp [] E t):=by
 obtain⟨f,o,F,b,m,n⟩:=c;exact EH F h i n m b .nil T.passes j a l g
end
def Fun.okX {P:Program}{w:World}{K:W.Frag}{mg:Ye}{e:Heap}{x b:Str}{st:Stmt}{f:Addr}{l:FuncData}{N ps:Yk}{k:Nat}{sp:Sp}(F:Fun K x b st f l)(S:FnScope N ps (JR st))(len:∀g H Q E,sp g H Q E->g.length=ps.length)
 (h:∀c A a s H g Q E,Room k (A.deeper (envOfC b (JR st) s.heap.objs.size f c))->sp g H Q E ->
  ∃t,qO (jW (xF P w) P w K mg e N b (JR st) f c A a s H E) (QL st) t/\t { nx:=λ_ m=>Q .non m,rt:=Q } (start N g) H):FnOk P w K mg e (xF P w) (k+1) f l ps sp:=by
 obtain⟨r,u,kV,n,v,y,c,ct,o,rfl,p,i⟩:=F.ex;exact EN p i S len λA a s H g Q E q j=>h c A a s H g Q E q j
end L2
namespace L2.DL
def xP (K:W.Frag)(a:YG->Res D):Sp:=λb H Q E=>∃F ds,jk F H/\jd K F ds b/\(a ds).need (yL K F H Q) (XW K E F H)
def yo (K:W.Frag)(a:YG->Res D):Sp:=λb H Q E=>∃F ds,jk F H/\jd K F ds b/\(a ds).need (yc K F H Q) (XW K E F H)
def Res.strict {α: Type}:Res α -> Res α
 | .ok a=>.ok a
 |_=>.no
@[simp]def wJ {α: Type}(a:α):(Res.ok a).strict=.ok a:=rfl
def jE {α: Type}{r:Res α}{p:α -> Prop}{q b:Str->YG->Prop}(h:r.strict.need p q):r.need p b:=by
 cases r with
 |ok a=>exact h
 |ex c fs=>exact h.elim
 |no=>exact h
def Kk (a:YG->Res D)(b:FA):FE:=λsd=>(b sd).bind λds=>(a ds).strict
@[simp]def f8 (Fn)(fr)(sd):Kk Fn fr sd=(fr sd).bind λds=>(Fn ds).strict:=rfl
section
variable {X:Cx}{E:XK}{name:Str}{k:Nat}{ps:Yk}{Fn:YG->Res D}{p pos:Pos}{e:Expr}{es:Ym}{fr:FA}
def D1 (c:yI X.prog X.w X.K X.mg X.base name k ps (xP X.K Fn))(T:Thrown X E)(g:Room k X.A)(h:Gl X name)(i:QA X E (e::es) fr)
 (a:(name == ("__debug__" : Str))=false:=by decide) (j:starEach (e::es) X.env=(false,eval e X.env)::starEach es X.env:=by rfl) (b:(backTo pos (starEach es X.env)).any (·.1)=false:=by rfl):
 QE X E (.Call (.Name name p) (e::es) [] pos) (J9 Fn fr):=PE.weak (Z1 c T g h i a j b) λZ H Q l=>by
 obtain⟨B,F,sd,r,n⟩:=l;refine⟨B,F,sd,r,(ja n).mono (λm o s t u f v=>?_) λ_ _ q=>q⟩;show xP X.K Fn (s++[]) u Q E;rw[ZA];exact⟨t,m,f.fh,v,A9 o f⟩
def Xx (c:yI X.prog X.w X.K X.mg X.base name k ps (yo X.K Fn))(T:Thrown X E)(g:Room k X.A)(h:Gl X name)(i:QA X E (e::es) fr)
 (a:(name == ("__debug__" : Str))=false:=by decide) (j:starEach (e::es) X.env=(false,eval e X.env)::starEach es X.env:=by rfl) (b:(backTo pos (starEach es X.env)).any (·.1)=false:=by rfl):
 QN X E (.Call (.Name name p) (e::es) [] pos) (J9 Fn fr):=PE.weak (Z1 c T g h i a j b) λZ H Q l=>by
 obtain⟨B,F,sd,r,n⟩:=l;refine⟨B,F,sd,r,(ja n).mono (λm o s t u f v=>?_) λ_ _ q=>q⟩;show yo X.K Fn (s++[]) u Q E;rw[ZA];exact⟨t,m,f.fh,v,CB o f⟩
def kc (c:zU X.prog X.w X.K X.mg X.base name k ps (xl X.K Fn))(g:Room k X.A)(h:Gl X name)(i:QA X E (e::es) fr)
 (a:(name == ("__debug__" : Str))=false:=by decide) (j:starEach (e::es) X.env=(false,eval e X.env)::starEach es X.env:=by rfl) (b:(backTo pos (starEach es X.env)).any (·.1)=false:=by rfl):
 QE X E (.Call (.Name name p) (e::es) [] pos) (Kk Fn fr):=PE.weak (Xe c g h i a j b) λZ H Q l=>by
 obtain⟨B,F,sd,r,n⟩:=l;refine⟨B,F,sd,r,(ja n).mono (λm o s t u f v=>?_) λ_ _ q=>q⟩;show xl X.K Fn (s++[]) u Q E0;rw[ZA];exact⟨t,m,f.fh,v,jE (A9 o f)⟩
def Z3 (c:zU X.prog X.w X.K X.mg X.base name k ps (zL X.K Fn))(g:Room k X.A)(h:Gl X name)(i:QA X E (e::es) fr)
 (a:(name == ("__debug__" : Str))=false:=by decide) (j:starEach (e::es) X.env=(false,eval e X.env)::starEach es X.env:=by rfl) (b:(backTo pos (starEach es X.env)).any (·.1)=false:=by rfl):
 QN X E (.Call (.Name name p) (e::es) [] pos) (Kk Fn fr):=PE.weak (Xe c g h i a j b) λZ H Q l=>by
 obtain⟨B,F,sd,r,n⟩:=l;refine⟨B,F,sd,r,(ja n).mono (λm o s t u f v=>?_) λ_ _ q=>q⟩;show zL X.K Fn (s++[]) u Q E0;rw[ZA];exact⟨t,m,f.fh,v,jE (CB o f)⟩
end
section
variable {P:Program}{w:World}{K:W.Frag}{mg:Ye}{base:Heap}{x qual:Str}{f:Addr}{fd:FuncData}{N ps:Yk}{k:Nat}{st:Stmt}
def D2 {g:FS}(F:Fun K x qual st f fd)(S:FnScope N ps (JR st))
 (e:∀b A a s H E,Room k (A.deeper (envOfC qual (JR st) s.heap.objs.size f b))->zN (jW (xF P w) P w K mg base N qual (JR st) f b A a s H E) E false (QL st) g):
 FnOk P w K mg base (xF P w) (k+1) f fd ps (xP K (jK N.length ps.length g)):=by
 refine F.okX S (λi H Q E ⟨F,ds,_,h,n⟩=>?_) λb A a s H i Q E j ⟨F,ds,hs,h,n⟩=>⟨_,e b A a s H E j,?_⟩
 .unfold jK at n
  split at n
  .rw[h.length];lia
  .exact n.elim
 .unfold jK at n
  split at n
  .refine⟨⟨F,H,λ_=>none⟩,F,_,RS.start hs h,(ja n).mono (λo c=>?_) λ_ _ q=>q⟩;cases o with
   |next sd=>exact λZ l m _ r=>c .non l m r.ext (jC.mpr rfl)
   |ret d=>exact c
   |brk sd=>exact c.elim
   |cont sd=>exact c.elim
  .exact n.elim
def D3 {g:FS}(F:Fun K x qual st f fd)(S:FnScope N ps (JR st))
 (e:∀b A a s H E,Room k (A.deeper (envOfC qual (JR st) s.heap.objs.size f b))->zN (jW (xF P w) P w K mg base N qual (JR st) f b A a s H E) E true (QL st) g):
 FnOk P w K mg base (xF P w) (k+1) f fd ps (yo K (qx N.length ps.length g)):=by
 refine F.okX S (λi H Q E ⟨F,ds,_,h,n⟩=>?_) λb A a s H i Q E j ⟨F,ds,hs,h,n⟩=>⟨_,e b A a s H E j,?_⟩
 .unfold qx at n
  split at n
  .rw[h.length];lia
  .exact n.elim
 .unfold qx at n
  split at n
  .refine⟨⟨F,H,λ_=>none⟩,F,_,RS.start hs h,(ja n).mono (λo c=>?_) λ_ _ q=>q⟩;cases o with
   |next sd=>exact c.elim
   |ret d=>exact c
   |brk sd=>exact c.elim
   |cont sd=>exact c.elim
  .exact n.elim
end
end L2.DL
namespace L2
def Tx (h:n<1000000):n.log2<20:=by
 by_cases z:n=0
 .simp_all
 .exact(Nat.log2_lt z).mpr (Zg h (by decide))
section
variable {X:Cx}{x:Str}{v e:Expr}{tv:TE}{t:TA}{p1 p2 np cpos pos:Pos}{k}
def my (x:Str)(tv:TE):TE:=λZ H Q=>tv Z H λy b=>∃a:Int,y=.int a/\a.natAbs<1000000/\Q (.str (Str.empty++x++Str.ofString (toString a))) b
def Tz (A:x.length<=1000)(g:PE X v tv):PE X (.JoinedStr [.Constant (.str x) k p1,.FormattedValue v (-1) none p2] pos) (my x tv):=by
 intro Y s Z H Q I h;refine wpAny_JoinedStr ?_;have B:(Str.empty:Str).length=0:=rfl;refine jH (E1 Y s Z H (λy b=>y=.str x/\b=H) I ⟨rfl,rfl⟩) λu i ⟨y,b,j,l,c,m⟩=>?_;subst c m;obtain⟨n,rfl⟩:=l;refine⟨x,n,rfl,by grind[strLen_append,sizeLine_eq],wpAny_FormattedValue_plain (jH (g Y i Z b _ j h) λu C ⟨y,o,p,r,a,c,w,q⟩=>?_)⟩;subst c;obtain⟨E,rfl⟩:=r;have z:=Tx w;have F:=int_text_length_le (by decide) z;have f:(Str.empty++x++Str.ofString (toString a)).length<=sizeLine:=by grind[strLen_append,PySem.ofString_length,sizeLine_eq]
 exact wpAny_formatField_int () ⟨_,_,rfl,f,f,⟨.str (Str.empty++x++Str.ofString (toString a)),o,p.tok _,⟨_,rfl⟩,q⟩⟩
structure Exc (K:W.Frag)(mg:Ye)(c:Str)(C:Addr):Prop where
 ns:W.nsIn K mainGlobals c=some (some (.ref C))
 mgc:mg c=some (.ref C)
 exc:W.excIn K C [.type "ValueError",.type "Exception",.type "BaseException",.type "object"] "ValueError.__new__" = true
def r8 (m:Yf)(l:List Yg)(g:Addr->List Value->Option Value->Option Value->Option Value->Option Value->String->Option Value->Bool):Prop:=
 ∃C a k0 k1 k2 k3 n k5,m=.ref C::a/\l=[k0,k1,k2,k3,some (.builtin n),k5]/\g C a k0 k1 k2 k3 n k5=true
def T1
 (q:W.excIn.match_1 (λ_ _=>Bool) m l g (λ_ _=>false)=true):r8 m l g:=by
 cases m with
 |nil=>exact JC q
 |cons v b =>
  cases v with
  |ref C =>
   cases l with
   |nil=>exact JC q
   |cons k0 l =>
    cases l with
    |nil=>exact JC q
    |cons k1 l =>
     cases l with
     |nil=>exact JC q
     |cons k2 l =>
      cases l with
      |nil=>exact JC q
      |cons k3 l =>
       cases l with
       |nil=>exact JC q
       |cons a l =>
        cases a with
        |none=>exact JC q
        |some u =>
         cases u with
         |builtin n =>
          cases l with
          |nil=>exact JC q
          |cons k5 l =>
           cases l with
           |nil=>exact⟨_,_,_,_,_,_,_,_,rfl,rfl,q⟩
           |cons _ _=>exact JC q
         |_=>exact JC q
  |_=>exact JC q
def Ib {K:W.Frag}{h:Heap}{C:Addr}{f:Yf}{a:String}{P:Prop}(i:K.In h)(q:W.excIn K C f a=true)
 (k:∀j N nm m bs hdct sn sub ab col dd k0 k1 k2 k3 k5 p,h.get? C=some (excClassObj nm m C N bs j hdct sn sub ab col dd k0 k1 k2 k3 k5 a)->h.Ns N p->p "__init__" = none->OwnTail h f j->P):P:=by
 unfold W.excIn at q
 split at q
 .rename_i dd w r y;obtain⟨H,j,k0,k1,k2,k3,n,k5,s,hs,q⟩:=T1 q;simp only[Ue,Ys,Bool.not_eq_true'] at q;obtain⟨⟨⟨⟨⟨z,A⟩,b⟩,B⟩,c⟩,g⟩:=q;subst z A;have u:=i _ _ y;obtain⟨nm,bs,E,ns,m,F,sn,sub,ab,col,G⟩:=w;dsimp only at s b c g u;subst s b;have o:r = #[k0,k1,k2,k3,some (.builtin n),k5]:=by
   obtain⟨l⟩:=r;exact Zt Array.mk hs
  subst o;exact k j ns nm m bs F sn sub ab col dd k0 k1 k2 k3 k5 _ u (.of_isNs (W.isNs_of_in i c)) (W.nsMap_none_of_in i c g) (W.tail_of_in i B)
 .exact JC q
def T2 (C:Addr)(E:XK)(t:TA):TS:=λ_ Z H=>t Z H λa b=>a.length<=1000/\E (.ref C) none b
def T3 {E:XK}{c:Str}{C:Addr}(R:Raises X E)(f:Exc X.K X.mg c C)(j:X.calm=true)(l:Gl X c)(m:PA X [e] t)(n:(c == ("__debug__" : Str))=false:=by decide)
 (g:starEach [e] X.env=(false,eval e X.env)::starEach [] X.env:=by rfl):PS X (.Raise (some (.Call (.Name c np) [e] [] cpos)) none pos) (T2 C E t):=by
 intro Y s Z H D I h;refine Ib I.mod.kin f.exc λF N nm q bs hdct sn sub ab col dd k0 k1 k2 k3 k5 G o p b T=>(wpAny_Raise_call_subU (nm:=nm) (q:=q) (N:=N) (bs:=bs) (hdct:=hdct) (sn:=sn) (sub:=sub) (ab:=ab) (col:=col) (dd:=dd) (k0:=k0) (k1:=k1) (k2:=k2) (k3:=k3) (k5:=k5)
  PySem.F.excBase_ValueError (by rfl) PySem.F.excBase_ValueError (T.hasType PySem.F.excBase_ValueError.hasBase) (I.ok.hd j) (by rw[g];rfl) b (XE I l f.mgc ⟨rfl,?_⟩ n))
 have i:=m cpos Y s Z H _ I h;rw[g] at i ⊢;refine Calls.evalArgs_plain (Zc i (λJ r ⟨K,u,a,w,L,z⟩=>?_) λ_ _ y=>y);have M:=w.length;refine⟨rfl,QR (),a.bk _ _ o,p.keeps a.bk,T.keeps a.bk,λA x B=>R.new Y Z u r A x C _ a B z⟩
end
end L2
namespace L2.DL
def yi (x:Str):D->YH
 | .int a=>if Nat.ble a.natAbs 999999=true then some (.str (Str.empty++x++Str.ofString (toString a))) else none
 |_=>none
def T4 (b: -999999<=a)(c:a<=999999):∃z,yi x (.int a)=some (.str z):=⟨_,Zd (Jq.mpr ())⟩
def Bi (c:Str)(f:FE):FS:=λsd=>(f sd).bind λ_=>.ex c []
@[simp]def f5 (c)(f)(sd):Bi c f sd=(f sd).bind λ_=>.ex c []:=rfl
section
variable {X:Cx}{E:XK}{m:Option Bool}{x:Str}{v e:Expr}{fv fe:FE}{p1 p2 np cpos pos:Pos}{k}
def D4 (b:x.length<=1000)(c:QE X E v fv):QE X E (.JoinedStr [.Constant (.str x) k p1,.FormattedValue v (-1) none p2] pos) (jN (yi x) fv):=
 PE.weak (Tz b c) λZ H Q f=>by
  obtain⟨B,F,sd,r,n⟩:=f;refine⟨B,F,sd,r,(ja n).mono (λd g y h i j l=>?_) λ_ _ q=>q⟩;obtain⟨z,hz,q⟩:=jg g;unfold yi at hz
  split at hz
  .rename_i a
   split at hz
   .rename_i o;obtain rfl:=Zqi hz;exact⟨a,je.mp l,by have:=Jq.mp o;lia,q _ h i j (jq.mpr rfl)⟩
   .exact J5 hz
  simp_all
def T5 (R:Raises X E)(ex:Exc X.K X.mg c C)(f:X.calm=true)(g:Gl X c)(h:QE X E e fe)(i:(c == ("__debug__" : Str))=false:=by decide)
 (a:starEach [e] X.env=(false,eval e X.env)::starEach [] X.env:=by rfl):QS X E m (.Raise (some (.Call (.Name c np) [e] [] cpos)) none pos) (Bi c fe):=
 PS.weak (T3 R ex f g (J2 h J3 a) i a) λT Z H j=>by
  obtain⟨B,F,sd,r,n⟩:=j;have l:(J1 fe jc sd).need (λds=>ds.length=1/\XW X.K E B.F0 B.H0 c []) (XW X.K E F H):=by
   unfold Bi at n;unfold J1 jc;cases b:fe sd with
   |ok d=>rw[b] at n;exact⟨rfl,n⟩
   |ex o fs=>rw[b] at n;exact XW.ext (n:XW X.K E B.F0 B.H0 o fs) r.ext
   |no=>rwa [b] at n
  refine⟨B,F,sd,r,l.mono (λds p y s t u w=>?_) λ_ _ q=>q⟩;have:=w.length;exact⟨(),p.2 (.ref C) none s t (r.ext.trans u) ⟨C,rfl,ex.ns,.inl rfl⟩⟩
end
end L2.DL
namespace L2
def D5 (X:Cx)(Y:Yb)(Z: St)(E:XK)(e:Value)(s':Shared):Prop:=
 ∃a h₀ x C B,e=.ref x/\Inv X Y Z a s'/\(∀b u,X.s₀.heap.get? b=some u->b∉X.ex->∃c,h₀.get? b=some c)/\(∀p∈X.pn++Y,∃u,h₀.get? p.1=some u)/\FlyAt X.stack h₀ a x C B s'.heap/\E (.ref C) none a
section
variable {X:Cx}{Y:Yb}{Z: St}{H:Hp}{s:Shared}{E:XK}
def T6 (F:FnOk X.prog X.w X.K X.mg X.base (xF X.prog X.w) k f fd ps sp)(j:Room k X.A)(l:zX X.K fd ps [])
 (I:Inv X Y Z H s) (r:jo vs us) (h:sp vs H Q E):YI X (call (.ref f) us) (EP X Y Z Q) (D5 X Y Z E) s:=by
 have m:(us++[]).length=ps.length:=by rw[ZA,<- r.length];exact F.len _ _ _ _ h
 have a:=l s us I.kIn m;rw[ZA] at a;refine wpAny_call (codeAny_mono (F.run X.A X.stack s H ⟨us,[]⟩ us vs Q E j I.env0 a r h) λr s' c=>?_);cases r with
 |error e =>
  obtain⟨n,x,C,B,o,os,bare,un,g,i,q⟩:=c;subst o;exact⟨n,s.heap,x,C,B,rfl,I.call' os un g bare (λb z=>Zn z ()),λb u e t=>I.base.there b u e t,λp hp=>⟨_,(I.pin p hp).1⟩,i,q⟩
 |ok i =>
  cases i with
  |ret u=>exact I.after c
  |next=>exact False.elim c
  |brk=>exact False.elim c
  |cont=>exact False.elim c
def T7 (c:yI X.prog X.w X.K X.mg X.base name k ps sp)(m:Room k X.A)(n:Gl X name)(o:PA X.nox (e::es) t)
 (a:(name == ("__debug__" : Str))=false) (u:starEach (e::es) X.env=(false,eval e X.env)::starEach es X.env) (g:(backTo pos (starEach es X.env)).any (·.1)=false)
 (I:Inv X Y Z H s) (h:t Z H λi j=>sp i j Q E):YI X (eval (.Call (.Name name p) (e::es) [] pos) X.env) (EP X Y Z Q) (D5 X Y Z E) s:=by
 obtain⟨f,x,F,b,v,w⟩:=c;exact wpAny_Call_Name_kw (XE I n w (W.callWith_K I.ok.mod.kin v (Zc (o pos Y s Z H _ (I.wish _) h) (λy A ⟨i,j,l,r,q⟩=>⟨l.kIn,T6 F m b l.unwish r q⟩) λ_ _ z=>z.elim) u g) a)
def Inv.flown {h₀ w B:Heap}{x C t:Addr}(I:Inv X Y Z H s)(P:∀b u,X.s₀.heap.get? b=some u->b∉X.ex->∃S,h₀.get? b=some S)(hp:∀p∈X.pn++Y,∃u,h₀.get? p.1=some u)
 (trk:∀b o,s.heap.get? b=some o->(H b≠none\/((∃u,h₀.get? b=some u)/\b∉xh X.stack))->B.get? b=some o) (J:Heap.FlyingW B X.stack x (.ref C) (.ref t) w) (M:s.heap.UpToSlots w):Inv X Y Z H { s with heap:=w }:=by
 have A:∀b u,X.s₀.heap.get? b=some u->b∉X.fs->b∉xh X.stack:=λb u e a z=>by
  rcases UV.mp (I.stkSub b z) with q|q
  .exact Zn (Zk e) (by rw[q];exact Nat.not_lt.mpr I.ok.above)
  .exact a q
 have g:∀b o,X.s₀.heap.get? b=some o->b∈X.fs->b∉X.ex->∃K,w.get? b=some { o with slots:=K }:=λb o e a f=>by
  obtain⟨K,T⟩:=I.base.slot b o e (I.ok.frf b a) a f;obtain⟨_,L,F,N⟩:=I.ok.funs.mem a;rw[e] at F;obtain rfl:=Zqi F;obtain⟨O,U⟩:=M b _ T N;exact⟨O,U⟩
 have j:∀c v,s.heap.IsCell c v->w.IsCell c v:=λc v zh=>by
  obtain⟨o,ho,N⟩:=zh;obtain⟨K,e⟩:=M c o ho λvs q=>by simp_all
  exact⟨_,e,N⟩
 obtain⟨m,hn,hl⟩:=id I.loc;refine⟨I.ok,I.os,I.bare,⟨λb o e n a f=>?_,λb o e n a f=>g b o e a f,λb o e n f=>I.base.free b o e n f,λb o e f=>?_,I.base.tups,I.base.frzs,I.base.tbls⟩,⟨m,M.ns hn,λi y v h1 h2 h3=>?_⟩,λy c e=>?_,I.free,I.freeC,λp G=>?_,λb u e=>?_,I.len⟩
 .exact J.1 b o (trk b o (I.base.keep b o e n a f) (.inr ⟨P b o e f,A b o e a⟩))
 .by_cases a:b∈X.fs
  .obtain⟨K,q⟩:=g b o e a f;exact⟨_,q⟩
  .obtain⟨L,e'⟩:=I.base.there b o e f;exact⟨L,J.1 b L (trk b L e' (.inr ⟨P b o e f,A b o e a⟩))⟩
 .obtain⟨u,r,l⟩:=hl i y v h1 h2 h3;refine⟨u,r,?_⟩;rcases l with l|⟨k,c,e,z⟩
  .exact .inl l
  .exact .inr ⟨k,c,e,j c _ z⟩
 .obtain⟨v,q⟩:=I.cell y c e;exact⟨v,j c v q⟩
 .obtain⟨q1,q2,Q,R,q5⟩:=I.pin p G;refine⟨J.1 _ _ (trk _ _ q1 (.inr ⟨hp p G,λz=>?_⟩)),q2,Q,R,q5⟩;rcases UV.mp (I.stkSub _ z) with q|q
  .exact Q q
  .exact R q
 .refine(I.hok b u e).stay (λc v hc q=>J.1 c v (trk c v q (.inl ?_))) (λ_ q=>q) λ_ _ q=>q
  grind
abbrev Cx.inSuite (X:Cx)(x:Addr):Cx:={ X with A:=X.A.mark (some (.ref x)),calm:=false,xe:=λ_ _=>False }
def Inv.suite (I:Inv X Y Z H s)(x:Addr):Inv (X.inSuite x) Y Z H s:=
 ⟨⟨I.ok.mod,I.ok.kind,I.ok.glob,I.ok.blt,I.ok.above,I.ok.inj,I.ok.has,I.ok.cab,(),I.ok.frames,I.ok.stk,I.ok.exf,I.ok.bs,I.ok.bsz,I.ok.noex,I.ok.exfs,I.ok.funs,I.ok.frf⟩,I.os,I.bare,I.base,I.loc,I.cell,I.free,I.freeC,I.pin,I.hok,I.len⟩
def Inv.unsuite (I:Inv (X.inSuite x) Y Z H s)(ok:X.Ok):Inv X Y Z H s:=⟨ok,I.os,I.bare,I.base,I.loc,I.cell,I.free,I.freeC,I.pin,I.hok,I.len⟩
theorem SP.unsuite (h:SP (X.inSuite x) Y D f s')(ok:X.Ok):SP X Y D f s':=by
 cases f with
 |next=>obtain⟨a,b,I,q⟩:=h;exact⟨a,b,I.unsuite ok,q⟩
 |brk=>obtain⟨a,b,I,q⟩:=h;exact⟨a,b,I.unsuite ok,q⟩
 |cont=>obtain⟨a,b,I,q⟩:=h;exact⟨a,b,I.unsuite ok,q⟩
 |ret u=>obtain⟨v,a,b,I,r,q⟩:=h;exact⟨v,a,b,I.unsuite ok,r,q⟩
def T8 {r:Ya}{c:Str}{C:Addr}{b₀:Stmt}{suite:List Stmt}{L j:Pos}{F:TS}{D:Ends}{e:Value}(a:X.stack=X.env::X.outer)(u:X.env.frame=some X.env.locals)(G:Exc X.K X.mg c C)(M:Gl X c)
 (hs:∀x,qO (X.inSuite x) (b₀::suite) F) (g:D5 X Y Z (λO _ P=>O=.ref C/\F D Z P) e s) (Q:(c == ("__debug__" : Str))=false):
 YI X (noteFrame e X.env) (λ_ s₂=>YI X (setFlight e none) (λ_ s₃=>YI X (handleBy e X.env [.ExceptHandler (some (.Name c L)) none (b₀::suite) j]) (SP X Y D) r s₃) r s₂) r s:=by
 obtain⟨R,h₀,x,C',B,rfl,I,J,hp,⟨⟨t,v⟩,trk⟩,w,y⟩:=g;cases w;have i:=v;rw[a] at i;refine wpAny_looks_onW (I.ok.frames.trans (by rw[a])) u i λh₄ held₄ up₄=>(wpAny_landsW held₄ λh₅ fl₅ up₅=>?_);have n:=fl₅;rw[<- a] at n;have o:=up₄.trans up₅;have K:=I.flown J hp trk n o;refine wpAny_handleBy_cons (codeAny_handlers_test (XE (K.suite x) M G.mgc (Ib K.kIn G.exc λtl N nm q bs hdct sn sub ab col dd k0 k1 k2 k3 k5 mN S hN U T=>?_) Q)) (by intro q;cases q);obtain⟨ob,A,p⟩:=fl₅.there;refine wpAny_excMatches_sub_self S A p (T.hasType PySem.F.excBase_ValueError.hasBase) (codeAny_handlers_suite (lands_againW fl₅ λh₆ fl₆ up₆=>?_));rw[<- a] at fl₆;exact Zc (hs x Y _ Z R D ((I.flown J hp trk fl₆ (o.trans up₆)).suite x) y) (λf s2 q=>q.unsuite I.ok) λ_ _ z=>z.elim
def uz (i:Nat)(C:Addr)(sp:Sp)(t:TA)(b:TS):TS:=λD Z H=>t Z H λc e=>sp c e (λv a=>D.nx (Z.set i (some v)) a) (λf _ a=>f=.ref C/\b D Z a)
def T9 (a:X.stack=X.env::X.outer)(f:X.env.frame=some X.env.locals)
 (n:X.N.Nodup) (o:X.N[i]? = some y) (r:yG X.env.scope y) (u:yI X.prog X.w X.K X.mg X.base name k ps sp) (w:Room k X.A) (A:Gl X name) (B:PA X.nox (e::es) t) (F:Exc X.K X.mg c C) (g:Gl X c) (hs:∀x,qO (X.inSuite x) (b₀::suite) ts)
 (j:(name == ("__debug__" : Str))=false:=by decide) (G:starEach (e::es) X.env=(false,eval e X.env)::starEach es X.env:=by rfl) (l:(backTo cpos (starEach es X.env)).any (·.1)=false:=by rfl) (J:(c == ("__debug__" : Str))=false:=by decide)
 (m:swapsWith (.Call (.Name name p) (e::es) [] cpos) (some (.Name y py)) apos.line X.env=pure false:=by rfl) (K:X.fn y=true\/X.env.scope.names.lookup y=some .local:=by trivial):
 PS X (.Try [.Assign [.Name y py] (.Call (.Name name p) (e::es) [] cpos) apos] [.ExceptHandler (some (.Name c np)) none (b₀::suite) hpos] [] [] pos) (uz i C sp t ts):=by
 intro Y s Z H D I h;refine Za (wpAny_standAt (wpAny_tryStmt_except (wpAny_execs_cons (wpAny_Assign_Name (Zc (T7 u w A B j G l I h) (λv L q=>?_) λe L M=>T8 a f F g hs M J) m))));obtain⟨z,N,O,P,Q⟩:=q;exact Aa O n o r P (λS R=>wpAny_execs_nil (wpAny_execs_nil ⟨_,N,R,Q⟩)) K
end
end L2
namespace L2.DL
def wb (i:Nat)(c:Str)(a:FS)(sd:SD):Res D->Res Out
 | .ok d=>.ok (.next (sd.set i (some (.val d))))
 | .ex c' [] => @ite _ (c'=c) (Classical.propDecidable _) (a sd).strict .no
 |_=>.no
@[simp]def bf (i)(c)(gs)(sd)(d):wb i c gs sd (.ok d)=.ok (.next (sd.set i (some (.val d)))):=rfl
@[simp]def TB (i)(c)(gs)(sd):wb i c gs sd (.ex c [])=(gs sd).strict:=@if_pos _ (Classical.propDecidable _) rfl _ _ _
def wc (i:Nat)(c:Str)(a:YG->Res D)(b:FA)(e:FS):FS:=λsd=>(b sd).strict.bind λds=>wb i c e sd (a ds)
@[simp]def nO (i)(c)(Fn)(fr)(gs)(sd):wc i c Fn fr gs sd=(fr sd).strict.bind λds=>wb i c gs sd (Fn ds):=rfl
section
variable {X:Cx}{E:XK}{m:Option Bool}
def TC (ex:Exc X.K X.mg c C)(h:vV X.K E m (wc i c Fn fr gs) T Z H):
 uz i C (xP X.K Fn) (rJ X.K E0 fr) (vV X.K E0 m gs) T Z H:=by
 obtain⟨B,F,sd,r,n⟩:=h;refine⟨B,F,sd,r,?_⟩;unfold wc at n;cases f:fr sd with
 |ex g fs=>rw[f] at n;exact n.elim
 |no=>rwa [f] at n
 |ok ds =>
  rw[f] at n;have n:(wb i c gs sd (Fn ds)).need (zq X.K m B F T) (XW X.K E B.F0 B.H0):=n;intro z u A b w;refine⟨u,ds,b.fh,w,?_⟩;cases j:Fn ds with
  |ok d =>
   rw[j] at n;exact λv l p e x=>n _ l p (b.ff.trans e.ff) (((r.step b).step e).setVal x)
  |no=>rwa [j] at n
  |ex g fs =>
   rw[j] at n;cases fs with
   |cons d r=>exact n.elim
   |nil =>
    by_cases s:g=c
    .subst s;rw[TB] at n;intro G a l p e ⟨I,y,t,_⟩;rw[ex.ns] at t;cases t;exact⟨y,B,l,sd,(r.step b).step e,(jE n).mono (λo (q:zq X.K m B F T o)=>q.mono (b.ff.trans e.ff)) λ_ _ q=>q⟩
    .have n:(@ite _ (g=c) (Classical.propDecidable _) (gs sd).strict Res.no).need (zq X.K m B F T) (XW X.K E B.F0 B.H0):=n;rw[@if_neg _ (Classical.propDecidable _) s] at n;exact n.elim
def yo.d {K:W.Frag}{a:YG->Res D}{b:YE}{H:Hp}{Q:VK}{E:XK}(h:xP K a b H Q E):yo K a b H Q E:=by
 obtain⟨F,ds,c,e,n⟩:=h;exact⟨F,ds,c,e,n.mono (λ_ q=>q.new) λ_ _ q=>q⟩
theorem yI.d {P:Program}{w:World}{K:W.Frag}{mg:Ye}{a:Heap}{name:Str}{k:Nat}{ps:Yk}{b:YG->Res D}(c:yI P w K mg a name k ps (yo K b)):yI P w K mg a name k ps (xP K b):=by
 obtain⟨f,e,F,r⟩:=c;exact⟨f,e,F.imp λ_ _ _ _ h=>yo.d h,r⟩
def TD (a:X.stack=X.env::X.outer)(f:X.env.frame=some X.env.locals)
 (q:X.N.Nodup) (r:X.N[i]? = some y) (s:yG X.env.scope y) (t:yI X.prog X.w X.K X.mg X.base name k ps (xP X.K Fn)) (u:Room k X.A) (v:Gl X name) (w:QA X.nox E0 (e::es) fr) (o:Exc X.K X.mg c C) (g:Gl X c) (hs:∀x,zN (X.inSuite x) E0 m (b₀::suite) gs)
 (j:(name == ("__debug__" : Str))=false:=by decide) (z:starEach (e::es) X.env=(false,eval e X.env)::starEach es X.env:=by rfl) (l:(backTo cpos (starEach es X.env)).any (·.1)=false:=by rfl) (A:(c == ("__debug__" : Str))=false:=by decide)
 (n:swapsWith (.Call (.Name name p) (e::es) [] cpos) (some (.Name y py)) apos.line X.env=pure false:=by rfl) (B:X.fn y=true\/X.env.scope.names.lookup y=some .local:=by trivial):
 QS X E m (.Try [.Assign [.Name y py] (.Call (.Name name p) (e::es) [] cpos) apos] [.ExceptHandler (some (.Name c np)) none (b₀::suite) hpos] [] [] pos) (wc i c Fn fr gs):=
 PS.weak (T9 a f q r s t u v w o g hs j z l A n B) λT Z H h=>TC o h
end
end L2.DL
namespace L2
def D6 {P:Program}{w:World}{K:W.Frag}{mg:Ye}{c:Heap}{N:Yk}{g:Str}{b:Scope}{f:Addr}{h:Value}{A:Around}{a:List Env}{s:Shared}{H:Hp}{E:XK} :
 PassesOwn (model (jW (xF P w) P w K mg c N g b f h A a s H E).prog (jW (xF P w) P w K mg c N g b f h A a s H E).w) (jW (xF P w) P w K mg c N g b f h A a s H E).A (jW (xF P w) P w K mg c N g b f h A a s H E).env (jW (xF P w) P w K mg c N g b f h A a s H E).xe:=
 PassesOwn.leaving (Q₁:=λe i=>xF P w a H s E e i)
end L2
namespace L2.DL
def xW (H:Hp)(l:Addr):Hp:=λa=>if a=l then none else H a
def TF:jk (xW H l) H:=λa o e=>by
 simp_all [xW]
def TH:xW H l l=none:=by simp_all [xW]
def TJ (h:a≠l):xW H l a=H a:=by simp_all [xW]
def Ic (R:Res Out->Prop)(P:Nat->SD->Prop)(m:P 0 sd)(n:∀sd,P ds.length sd->R (.ok (.next sd)))
 (hs:∀(i:Nat) (x:D) (sd:SD),ds[i]? = some x->P i sd->(∃sd',(JM tg x sd).bind b=.ok (.next sd')/\P (i+1) sd')\/∃c es,(JM tg x sd).bind b=.ex c es/\R (.ex c es)):R (qL tg b ds sd):=by
 have h:∀(k i:Nat) (sd:SD),ds.length-i=k->i<=ds.length->P i sd->R (qL tg b (ds.drop i) sd):=by
  intro k
  induction k with
  |zero =>
   intro i sd e j p;have:i=ds.length:=()
   simp_all
  |succ k l =>
   intro i sd e j p;have a:i<ds.length:=()
   rw[Uq a];unfold qL yD;rcases hs i ds[i] sd () p with ⟨sd',f,g⟩|⟨c,es,f,g⟩
   .rw[f];exact l (i+1) sd' () a g
   .rwa [f]
 grind
section
variable {X:Cx}{pos:Pos}
def D7:D->D->YH
 | .lst a,.lst b=>if a.length+b.length<=sizeLine then some (.lst (a++b)) else none
 |_,_=>none
def TK:hF X (binaryOp .Add) D7:=qZ.weak Gr λx y H Q h=>by
 obtain⟨F,d,e,z,c,id,i,hz,q⟩:=h;cases d with
 |lst a =>
  cases e with
  |lst b =>
   have hz:(if a.length+b.length<=sizeLine then some (D.lst (a++b)) else none)=some z:=hz
   split at hz
   .obtain rfl:=Zqi hz;obtain⟨l,j,rfl,m,f⟩:=id;obtain⟨n,ys,rfl,o,g⟩:=i;have r:=f.length;have s:=g.length;exact⟨l,n,j,ys,rfl,rfl,m.same c,o.same c,(),λp hp=>q p F _ (.keep c hp _) hp (Qd c hp) ⟨_,JL,f.append g⟩⟩
   simp_all
  |_=>exact J5 hz
 |_=>exact J5 hz
@[simp]def li (a b:YG):D7 (.lst a) (.lst b)=if a.length+b.length<=sizeLine then some (.lst (a++b)) else none:=rfl
end
end L2.DL
namespace L2
def vv (K:W.Frag)(x:Str)(st:Stmt):Prop:=∃f a,W.nsIn K mainGlobals x=some (some (.ref f))/\Fun K x x st f a
def vv.callee {P:Program}{w:World}{K:W.Frag}{h b:Heap}{mg:Ye}{x:Str}{st:Stmt}{k:Nat}{ps:Yk}{sp:Sp}(X:K.In h)(G:h.Ns mainGlobals mg)(d:vv K x st)
 (ok:∀{f:Addr} {c:FuncData},Fun K x x st f c->FnOk P w K mg b yw k f c ps sp)
 (j:∀(kV e l:Value) (m:Option Addr) (g ct:Value) (i:Yf),i.length=ps.length->bindArgs (W.fnOf x x (W5 st) (QL st) (JR st) .none kV e l m g ct) ⟨i,[]⟩=pure (ps.zip i)):zU P w K mg b x k ps sp:=by
 obtain⟨f,c,a,F⟩:=d;exact⟨f,c,ok F,F.binds j,F.kp,W.mg_of X G a⟩
def vv.calleeX {P:Program}{w:World}{K:W.Frag}{h b:Heap}{mg:Ye}{x:Str}{st:Stmt}{k:Nat}{ps:Yk}{sp:Sp}(X:K.In h)(G:h.Ns mainGlobals mg)(d:vv K x st)
 (ok:∀{f:Addr} {c:FuncData},Fun K x x st f c->FnOk P w K mg b (xF P w) k f c ps sp)
 (j:∀(kV e l:Value) (m:Option Addr) (g ct:Value) (i:Yf),i.length=ps.length->bindArgs (W.fnOf x x (W5 st) (QL st) (JR st) .none kV e l m g ct) ⟨i,[]⟩=pure (ps.zip i)):yI P w K mg b x k ps sp:=have ⟨f,c,a,F⟩:=d;⟨f,c,ok F,F.binds j,F.kp,W.mg_of X G a⟩
end L2
namespace L2.DL
def yU:YG->YH
 | [.int i]=>if Nat.ble i.natAbs.log2 1900 then some (.str (toString i)) else none
 |_=>none
section
variable {X:Cx}{E:XK}{tg e a b:Expr}{fe fa fb:FE}{lo hi:Option Expr}{p2 pos p:Pos}
def D8:jO X (.type "str") (we X.K yU):=jO.weak Np λl H Q c=>by
 obtain⟨F,ds,z,f,id,hz,q⟩:=c;unfold yU at hz
 split at hz
 .rename_i i
  split at hz
  .rename_i g;obtain rfl:=Zqi hz;obtain⟨m,n,h,j,id⟩:=jr.mp id;subst id h;exact⟨i,by rw[je.mp j],UH (Jq.mp g) (by decide),q _ F H (.refl f) (jq.mpr rfl)⟩
  .exact J5 hz
 simp_all
end
structure ClsD (K:W.Frag)(mg:Ye)(c:Str)(C:Addr)(fs:Yk):Prop where
 ns:W.nsIn K mainGlobals c=some (some (.ref C))
 mgc:mg c=some (.ref C)
 cls:Cls K C
 no:∀f∈fs,vx K C f
def wh (f:Str):Yk->YG->YH
 |g::gs,d::ds=>if g=f then some d else wh f gs ds
 |_,_=>none
theorem Ie {K:W.Frag}{H:Hp}{f:Str}:∀{fs:Yk} {ds:YG} {a:YE} {d:D},jd K H ds a->fs.length=a.length->wh f fs ds=some d->∃x,(fs.zip a).lookup f=some x/\jf K H d x
 | [],ds,a,d,_,_,h=>J5 h
 |g::gs,[],a,d,i,l,h=>by
  simp_all [jd.nil_iff]
 |g::gs,e::ds,a,d,i,l,h=>by
  obtain⟨x,r,rfl,c,b⟩:=jr.mp i;unfold wh at h;rw[Vo];by_cases q:g=f
  .simp_all
  .rw[Ze q] at h;obtain⟨y,j,m⟩:=Ie b (by simpa using l) h
   grind
def j7 (c f:Str):D->YH
 | .ins c' fs ds=>if c'=c then wh f fs ds else none
 |_=>none
section
variable {X:Cx}{E:XK}{e:Expr}{fe:FE}{pos:Pos}
def QC {c f:Str}{C:Addr}{fs:Yk}(k:ClsD X.K X.mg c C fs)(l:f∈fs)(m:QE X E e fe)(o:attributeBase e f X.env (eval e X.env)=eval e X.env:=by rfl):QE X E (.Attribute e f pos) (jN (j7 c f) fe):=PE.weak (Nz m o) λZ H Q p=>by
 obtain⟨B,F,sd,r,n⟩:=p;refine⟨B,F,sd,r,(ja n).mono (λd s v t u b w=>?_) λ_ _ q=>q⟩;obtain⟨z,hz,q⟩:=jg s;cases d with
 |ins g y ds =>
  have h:(if g=c then wh f y ds else none)=some z:=hz;by_cases i:g=c
  .rw[Zd i] at h;subst i;obtain⟨a,M,A,N,rfl,j,G,I,J⟩:=jY.mp w;rw[k.ns] at j;cases j;obtain⟨x,K,L⟩:=Ie J I h;exact⟨a,C,A,_,x,rfl,b.fh _ _ G,k.cls,k.no f l,K,q _ t u b L⟩
  simp_all
 |_=>exact J5 hz
end
theorem Ig (f)(v):∀fs:List (Str×V),f∉fs.map (·.1)->qS f v fs=fs++[(f,v)]
 | [],_=>rfl
 | (g,x)::r,h=>by
  rw[Zl,UV,not_or] at h;show(if g=f then(g,v)::r else(g,x)::qS f v r)=_;rw[Ze (λz=>h.1 z.symm),Ig f v r h.2];rfl
def tI (K:W.Frag)(c:Str)(names:Yk)(g:FA):TS:=λT Z H=>∃B F sd x C j fs e b,RS K B F H sd Z /\ (∀(i:Nat) (p:Bool) (d:D),sd[i]? ≠ some (some (SV.own p d))) /\ Z[0]? = some (some (.ref x))/\B.H0 x=none/\F x=none/\W.nsIn K mainGlobals c=some (some (.ref C))/\H x=some (.ins C j (fs.zip e))/\fs.length=e.length/\(fs++names).Nodup/\(fs++names).length<900/\jd K F b e /\
 (g sd).need (λds=>∀f h a,Ext B.F0 B.H0 f h->f x=none->h x=some (.ins C j ((fs++names).zip a))->(fs++names).length=a.length->jd K f (b++ds) a->T.nx Z h) (XW K E0 B.F0 B.H0)
section
variable {X:Cx}{o e:Expr}{fe:FE}{g:FA}{pos pos':Pos}{ss:List Stmt}{c f:Str}{C:Addr}{fs names:Yk}
def Ih:qO X [] (tI X.K c [] jc):=qO.weak Ab λT Z H j=>by
 obtain⟨B,F,sd,x,C,l,fs,m,b,r,no,u,v,p,w,q,s,y,z,t,n⟩:=j;have n:∀h i a,Ext B.F0 B.H0 h i->h x=none->i x=some (.ins C l ((fs++[]).zip a))->(fs++[]).length=a.length->jd X.K h (b++[]) a->T.nx Z i:=n;simp at n;exact n F H m r.ext p q s t
def Bj (k:ClsD X.K X.mg c C fs)(I:f∈fs)(J:PE X o (xy 0))(K:QE X E0 e fe)(L:qO X ss (tI X.K c names g))(hs:swapsWith e (some (.Attribute o f pos')) pos.line X.env=pure false:=by rfl):
 qO X (.Assign [.Attribute o f pos'] e pos::ss) (tI X.K c (f::names) (J1 fe g)):=qO.weak (XF (N0 J K hs) L) λT Z H M=>by
 obtain⟨B,F,sd,x,m,w,b,i,p,r,no,y,z,N,s,A,E,O,P,Q,n⟩:=M;refine⟨B,F,sd,r,(ja n).mono (λd R v G H1 l S=>?_) λ_ _ q=>q.ext r.ext⟩;have U:m=C:=by
  rw[k.ns] at s;cases s;rfl
 subst U;have t:=l.hh _ _ A;have j:G x=none:=l.new x N (by rw[A];simp);have Y:(b.zip i).map (·.1)=b:=by rw[List.map_fst_zip ()]
 have hfn:f∉b:=by grind
 have ll:(b.zip i).length<1000:=by
  grind
 refine⟨.ref x,y,x,m,w,_,rfl,t,k.cls,k.no f I,ll,?_⟩;rw[Ig f v _ (by rwa [Y])];have ez:b.zip i++[(f,v)]=(b++[f]).zip (i++[v]):=by rw[List.zip_append E];rfl
 rw[ez];have h:=r.step l;refine⟨B,G,sd,x,m,w,b++[f],i++[v],p++[d],⟨⟨h.ext.ff,λa o e=>?_,λa o e=>?_,h.ext.new⟩,h.len,h.val,(),()⟩,no,y,z,j,s,JL,by simp[E],by simpa using O,by simpa using P,(jd.snoc (jd.same l.ff _ _ Q) S),(ja R).mono (λds n2 F2 H2 u e2 f2 q1 q2 q3=>?_) λ_ _ q=>q⟩
 .rw[JI (Kb e j)];exact h.ext.fh _ _ e
 .rw[JI (Kb e z)];exact h.ext.hh _ _ e
 .exact n2 F2 H2 u e2 f2 (by simpa using q1) (by simpa using q2) (by simpa using q3)
end
def sA (K:W.Frag)(c:Str)(names:Yk)(h:YG->Res YG):Sp:=λi H Q _=>∃F ds x C f g,jk F H/\i=.ref x::g/\jd K F ds g/\F x=none/\W.nsIn K mainGlobals c=some (some (.ref C))/\H x=some (.ins C f []) /\
 (h ds).need (λes=>∀a b e,Ext F (xW H x) a b->a x=none->b x=some (.ins C f (names.zip e))->names.length=e.length->jd K a es e->Q .non b) (XW K E0 F (xW H x))
def yO (n ar:Nat)(g:FA)(ds:YG):Res YG:=if ds.length+1=ar then g (none::JW (n-1) ds) else .no
def zM {K:W.Frag}{F H:Hp}{N:Yk}{ds:YG}{b:YE}{x:Addr}(s:jk F H)(h:jd K F ds b):
 RS K ⟨F,xW H x,λ_=>none⟩ F H (none::JW N.length ds) (some (.ref x)::L2.start N b)/\∀(i:Nat) p d,(none::JW N.length ds:SD)[i]? ≠ some (some (SV.own p d)):=by
 have a:=RS.start (N:=N) s h;have no:∀(i:Nat) p d,(none::JW N.length ds:SD)[i]? ≠ some (some (SV.own p d)):=λi p d q=>by
  cases i with
  |zero=>cases q
  |succ i =>
   obtain⟨l,_,f,_,c,_⟩:=a.own q;obtain⟨o,g⟩:=c.has
   simp_all
 refine⟨⟨⟨.refl _,s,TF,λ_ e _=>e⟩,by simp[a.len],λ{i d} q=>?_,λq=>Zn q (no _ _ _),λ_ q _ _=>Zn q (no _ _ _)⟩,no⟩;cases i with
 |zero=>cases q
 |succ i=>exact a.val q
section
variable {P:Program}{w:World}{K:W.Frag}{mg:Ye}{base:Heap}{x qual:Str}{st:Stmt}{f:Addr}{fd:FuncData}{N ps:Yk}{k:Nat}
def gK {c y:Str}{names:Yk}{g:FA}(F:Fun K x qual st f fd)(S:FnScope (y::N) ps (JR st))(m:names.Nodup)(o:names.length<900)
 (p:∀b A a s H E,Room k (A.deeper (envOfC qual (JR st) s.heap.objs.size f b))->qO (jW yw P w K mg base (y::N) qual (JR st) f b A a s H E).nox (QL st) (tI K c names g)):
 FnOk P w K mg base yw (k+1) f fd ps (sA K c names (yO (y::N).length ps.length g)):=by
 refine F.ok S (λq H Q E ⟨F,ds,x,C,l,j,_,e,i,_,_,_,n⟩=>?_) λb A a s H q Q E t ⟨F,ds,x,C,l,j,hs,e,i,u,v,z,n⟩=>⟨_,p b A a s H E t,?_⟩
 .unfold yO at n
  split at n
  .rename_i h;rw[e,<- h,Zu,i.length]
  .exact n.elim
 .subst e;unfold yO at n
  split at n
  .have es:L2.start (y::N) (.ref x::j)=some (.ref x)::L2.start N j:=by
    unfold L2.start;simp
   rw[es];obtain⟨r,no⟩:=zM hs i;exact⟨_,F,_,x,C,l,[],[],[],r,no,rfl,TH,u,v,z,rfl,m,o,.nil,n⟩
  .exact n.elim
end
def rx (P:Program)(w:World)(K:W.Frag)(mg:Ye)(a:Heap)(c:Str)(names:Yk)(k:Nat)(ps:Yk)(e:YG->Res YG):Prop:=
 ∃C f b,ClsD K mg c C names/\Mk K C f/\FnOk P w K mg a yw k f b ps (sA K c names e)/\zX K b ps []
def WP (c:Str)(names:Yk)(a:YG->Res YG)(b:FA):FE:=λsd=>(b sd).bind λds=>(a ds).bind λes=>.ok (.ins c names es)
section
variable {X:Cx}{pos:Pos}
def Bk (M:rx X.prog X.w X.K X.mg X.base c names k ps Fn)(A:Room (k+1) X.A)(E:Gl X c)(I:QA X E0 (e::es) fa)
 (m:(c == ("__debug__" : Str))=false:=by decide) (J:starEach (e::es) X.env=(false,eval e X.env)::starEach es X.env:=by rfl) (t:(backTo pos (starEach es X.env)).any (·.1)=false:=by rfl):
 QN X E0 (.Call (.Name c p) (e::es) [] pos) (WP c names Fn fa):=by
 obtain⟨C,f,fd,u,mk,F,b⟩:=M;refine PE.weak (N6 mk F A E u.mgc b .nil Fa I m J t) λZ H Q ⟨B,F,sd,r,n⟩=>⟨B,F,sd,r,(ja n).mono (λds K L j l h N x g nx j3 ne=>?_) λ_ _ q=>q⟩;have v:j x=none:=by
  cases q:j x with
  |none=>rfl
  |some o=>rw[h.fh _ _ q] at nx;cases nx
 have w:H x=none:=by
  cases q:H x with
  |none=>rfl
  |some o=>rw[h.hh _ _ q] at nx;cases nx
 have y:∀{G:Hp},jk G l->jk G (xW (upd (upd l g (.own x)) x (.ins C g [])) x):=λ{G} s a o q=>by
  have i:=s _ _ q
  rwa [TJ (Kb i nx),JI (Kb i nx),JI (Kb i j3)]
 have O:jk j (upd (upd l g (.own x)) x (.ins C g [])):=λa o q=>by
  have i:=h.fh _ _ q
  rwa [JI (Kb i nx),JI (Kb i j3)]
 have z:Ext F H j (xW (upd (upd l g (.own x)) x (.ins C g [])) x):=⟨h.ff,y h.fh,y h.hh,h.new⟩;rw[ZA];exact⟨j,ds,x,C,g,L,O,rfl,N,v,u.ns,JL,(ja K).mono (λes P R S T U Y h2 l2 i2=>⟨rfl,P x R S (z.trans U) w Y ⟨C,g,T,u.ns,h2,l2,i2⟩⟩) λ_ _ q=>q.ext z⟩
end
def Ii (K:W.Frag)(c a:Str)(fs:Yk)(st:Stmt):Prop:=∃C e b,W.nsIn K mainGlobals c=some (some (.ref C))/\Cls K C/\(∀f∈fs,vx K C f)/\Mk K C e/\Fun K "__init__" a st e b
section
variable {K:W.Frag}{B:Bs}{F H F' H':Hp}{sd:SD}{Z: St}
def gN:D->Bool
 | .tup ds=>ds.all KD
 |d=>KD d
def Ij:D->Bool
 | .lst ds=>ds.all gN
 |_=>false
def fH (is:Yj)(f:FE):FE:=λsd=>(f (qE is sd)).bare.bind λd=>if Ij d then .ok d else .no
end
end L2.DL
namespace L2
open PySem
def JN (a:h.kind=.function:=by rfl)(b:h.isCoroutine=false:=by rfl)(c:h.isGenerator=false:=by rfl)(d:N.Nodup:=by decide +kernel)(e:N.take P.length=P:=by rfl)
 (f:∀x∈P,h.names.lookup x=some .local\/h.names.lookup x=some .cell:=by decide +kernel) (g:∀y∈h.names,y.2 ≠ .free:=by decide +kernel):FnScope N P h:=⟨a,b,c,d,e,f,g⟩
def x5 (i:Nat)(a:X.N.Nodup)(b:X.N[i]? = some x:=by rfl)(c:yG X.env.scope x:=by trivial)(e:X.fn x=true\/X.env.scope.names.lookup x=some .local:=by trivial):PG X (.Name x pos) (KM i):=JU a b c e
section
variable {p:Yf->Prop}
def rE (h:∀a,p [a]):∀b:Yf,b.length=1->p b:=λb e=>by
 obtain⟨a,rfl⟩:=List.length_eq_one_iff.mp e;exact h a
def ml (h:∀a b,p [a,b]):∀c:Yf,c.length=2->p c:=λc e=>by
 cases c with
 |nil=>simp_all
 |cons a c=>exact rE (p:=λc=>p (a::c)) (λb=>h a b) c (UK e)
def rC (h:∀a b c,p [a,b,c]):∀f:Yf,f.length=3->p f:=λf e=>by
 cases f with
 |nil=>simp_all
 |cons a f=>exact ml (p:=λf=>p (a::f)) (λb c=>h a b c) f (UK e)
def mj (h:∀a b c d,p [a,b,c,d]):∀f:Yf,f.length=4->p f:=λf e=>by
 cases f with
 |nil=>simp_all
 |cons a f=>exact rC (p:=λf=>p (a::f)) () f (UK e)
def cY (h:∀a b c d e,p [a,b,c,d,e]):∀f:Yf,f.length=5->p f:=λf e=>by
 cases f with
 |nil=>simp_all
 |cons a f=>exact mj (p:=λf=>p (a::f)) () f (UK e)
end
section
variable {M:Model}{A:Around}{E:Ya}{s:Shared}{base:Heap}{e:Addr}{cls a0 fl:Value}
def TL (x:base.StaysIn s.heap)(y:s.heap.FunFrames base l)(B:s.heap.TracedAtW base e cls a0 fl)
 (h:∀c T,base.get? T=none->(∀b,b≠T->c.get? b=s.heap.get? b)->(∃o m,s.heap.get? T=some o/\o.data=.fields m)->base.StaysIn c->c.FunFrames base l->(∃p,c.TracedAtW base e cls a0 p)->Q Yt { s with heap:=c }):wpAny M A (setFlight (.ref e) f) Q E s:=by
 obtain⟨C,m,T,F,G,t,H,u,v,r,w,i,g,I⟩:=B;have J:=(Jw.mp I).1;have j:∀b,b≠T->(s.heap.update T (Obj.mapFields (·.setIfInBounds 3 (f.elim Value.none λa=>rawInt a)))).get? b=s.heap.get? b:=λb n=>Heap.get?_update_other _ _ n.symm;have K:∀b o,s.heap.get? b=some o->(∀L,o.data ≠ .fields L)->b≠T:=λb o q n z=>by
  subst z;rw[i] at q;cases q;exact n _ g
 unfold setFlight;refine Za (wpAny_field t u v ?_);rw[Zd ()];refine wpAny_setField i g J (h _ T r j ⟨F,G,i,g⟩ (λb o q=>(j b λz=>by rw[z,r] at q;cases q).trans (x b o q)) (y.of_keeps λb o q n=>⟨o,(j b (K b o q n)).trans q,rfl⟩) ⟨f.elim Value.none λa=>rawInt a,C,m,T,_,_,(j e w.symm).trans t,H,u,v,r,w,Heap.get?_update_self _ i (Obj.isFreed_of_fields (Obj.data_mapFields g _)),Obj.data_mapFields g _,?_⟩)
 simp_all
def TM (f:A.frames=some (env::outer))(g:env.frame=some L)(j:base.StaysIn s.heap)(h:base.get? e=none)(l:s.heap.FunFrames base (env::outer))(i:s.heap.TracedAtW base e cls a0 fl)
 (m:∀a,Heap.FlyingW base outer e cls a0 a->s.heap.UpToSlots a->Q Yt { s with heap:=a }):wpAny M A (leaving env (.ref e)) Q E s:=by
 by_cases c:fl=rawInt L
 .subst c;exact Za (wpAny_noteFrame_againW g i (wpAny_setFlight_noneW j l i λa k1 k2 k3 w=>m a ⟨k1,h,k2.2.2,k3⟩ λb o q n=>⟨o.slots,w b o q n⟩))
 .obtain⟨O,P,T,R,S,x,⟨y,B⟩,p,C,U,X,r,t,u⟩:=i;subst y;have F:=(Jw.mp u).1;have v:∀b,b≠T->(s.heap.update T (Obj.mapFields (·.setIfInBounds 3 Value.none))).get? b=s.heap.get? b:=λb n=>Heap.get?_update_other _ _ n.symm;have G:∀b o,s.heap.get? b=some o->(∀H,o.data ≠ .fields H)->b≠T:=by grind
  unfold leaving noteFrame;simp only[g];refine Za (Za (wpAny_field x p C (Za (wpAny_field r t u ?_))));rw[Ze (λz=>c (Ys.mp z))];exact Za (wpAny_setField r t F (wpAny_newEntryW f (l.of_keeps ()) g () (λb o q=>(v b λz=>()).trans (j b o q)) h p () B λa ⟨I,J,K,N⟩=>(m a ⟨I,h,J.2.2,K⟩ λb o q n=>N b o ((v b (G b o q n)).trans q) n)))
end
structure FlyAny (l:List Env)(h₀:Heap)(H:Hp)(x C:Addr)(B h:Heap):Prop where
 st:B.StaysIn h
 no:B.get? x=none
 fr:h.FunFrames B l
 tr:∃t fl,h.TracedAtW B x (.ref C) (.ref t) fl
 trk:∀b o,h.get? b=some o->(H b≠none\/((∃u,h₀.get? b=some u)/\b∉xh l))->B.get? b=some o
structure ThrownA (X:Cx)(E:XK):Prop where
 on:∀(Y:Yb) (Z: St) (H:Hp) (s:Shared) (x C:Addr) (B:Heap),Inv X Y Z H s->FlyAny X.stack X.s₀.heap H x C B s.heap->E (.ref C) none H->X.xe (.ref x) s
def TN {P:Program}{w:World}{K:W.Frag}{mg:Ye}{g:Heap}{N:Yk}{h:Str}{a:Scope}{f:Addr}{l:Value}{A:Around}{c:List Env}{s:Shared}{H:Hp}{E:XK}:ThrownA (jW (xF P w) P w K mg g N h a f l A c s H E) E:=by
 refine⟨λY Z q s' x C B I i n=>?_⟩;obtain⟨t,m,o⟩:=i.tr;exact TM I.ok.frames rfl i.st i.no i.fr o λr j p=>D0 I (λb u e=>⟨u,e⟩) j p i.trk n
theorem Ik {h a B B':Heap}(k0:∀b,B.get? b=none->B'.get? b=none):∀{l:List Env},(∀b∈xh l,a.get? b=h.get? b)->h.FunFrames B l->a.FunFrames B' l
 | [],_,_=>trivial
 |env::rest,k,⟨g1,⟨L,o,g2,g3,g4,g5⟩,r⟩=>by
  have c:L∈xh (env::rest):=by
   unfold xh;rw[UX,g2];exact Zqs
  refine⟨g1,⟨L,o,g2,k0 L g3,(k L c).trans g4,g5⟩,Ik k0 (λb e=>k b ?_) r⟩
  simp_all [xh]
def TQ {X:Cx}{E:XK}{f:Scope}{N:Yk}{cl:List (Str×Addr)}{C:Addr}{s:Shared}{H:Hp}{K:Yl}(w:X.stack=X.env::X.outer)(hfr:X.env.frame=some X.env.locals)(L:X.ex=[])(T:ThrownA X E)(at_:W6 X C s H K):Thrown (JJ X f N cl C s H K) E:=by
 obtain⟨A,Z0,I0,M,hC⟩:=at_;refine⟨λY Z H' s' h₀ x D B I h0 fl hE=>?_⟩;obtain⟨⟨t,fly⟩,trk⟩:=fl;have O:Heap.FlyingW B (X.env::X.outer) x (.ref D) (.ref t) s'.heap:=by rw[<- w];exact fly
 have P:noteFrame (.ref x) (compEnvC f cl C X.env)=noteFrame (.ref x) X.env:=rfl;show YI X (noteFrame (.ref x) (compEnvC f cl C X.env)) (λ_ s''=>XO X C (.ref x) s'') (XO X C) s';rw[P];refine wpAny_looks_onW (I0.ok.frames.trans (by rw[w])) hfr O λh1 Q up1=>?_;obtain⟨m,hm,_⟩:=id I.loc;have R:h1.Ns C m:=up1.ns hm;refine⟨m,R,λF i cenv _=>?_⟩;obtain⟨hc1,hc2,hc3,hc4⟩:=Q;obtain⟨oC,es,ep,hoC,hdC,_⟩:=id R;have nC:∀b o ws,h1.get? b=some o->o.data=.fields ws->b≠C:=by grind
 have g:∀b o,s.heap.get? b=some o->b≠C:=λb o q=>Zi (Zg (Zk q) hC);have S:∀b∈xh X.stack,b≠C:=λb a=>by
  obtain⟨_,G,j,_⟩:=I.ok.funs.mem a;exact g b G j
 obtain⟨B',hB'⟩:∃B',W.hideAll B [C]=B':=⟨_,rfl⟩;have U:∀b o,B'.get? b=some o->B.get? b=some o:=λb o q=>by rw[<- hB'] at q;exact W.of_hideAll _ q
 have toB:∀b o,B.get? b=some o->b≠C->B'.get? b=some o:=λb o q n=>by grind[W.hideAll_get]
 have J:∀b,B.get? b=none->B'.get? b=none:=λb q=>by
  cases z:B'.get? b with
  |none=>rfl
  |some o=>rw[U b o z] at q;cases q
 have nBC:∀b o,B'.get? b=some o->b≠C:=λb o q z=>by
  grind[W.hideAll_none]
 have st2:B'.StaysIn F:=λb o q=>(i.2 b (nBC b o q)).trans (hc1 b o (U b o q));have fr2:F.FunFrames B' X.stack:=Ik J (λb a=>i.2 b (S b a)) (by rw[w];exact hc3);obtain⟨oe,vs,T0,oT,ts,g1,g2,g3,g4,g5,g6,g7,g8,g9⟩:=hc4;have tr2:F.TracedAtW B' x (.ref D) (.ref t) (rawInt X.env.locals):=⟨oe,vs,T0,oT,ts,(i.2 x (nC _ _ _ g1 g3)).trans g1,g2,g3,g4,J T0 g5,g6,(i.2 T0 (nC _ _ _ g7 g8)).trans g7,g8,g9⟩;unfold PySem.passOn;refine Za (wpAny_field (s:={ s' with heap:=F }) ((i.2 x (nC _ _ _ g1 g3)).trans g1) g3 g4 ?_);rw[Ze ()];refine Za (TL (s:={ s' with heap:=F }) st2 fr2 tr2 λh3 T' t1 t2 t3 st3 fr3 tr3=>wpAny_throw ?_);have K1:∀b o,B.get? b=some o->b≠C->h3.get? b=some o:=λb o q n=>st3 b o (toB b o q n);have nex:∀b u,X.s₀.heap.get? b=some u->b∉K:=λb u q a=>by
  rcases(M b a).2.2.2.1 with z|z
  .rw[L] at z;cases z
  .exact Zn (Zk q) (Nat.not_lt.mpr z)
 have r:∀b o,s.heap.get? b=some o->b∈xh X.stack->b∉K->∃sl,h3.get? b=some { o with slots:=sl }:=λb o q a l=>by
  obtain⟨_,G,j,hd⟩:=I.ok.funs.mem a;have j:s.heap.get? b=some G:=j;rw[q] at j;obtain rfl:=Zqi j;obtain⟨sl,e1⟩:=I.base.slot b o q (I.ok.frf b a) a l;obtain⟨sl',e2⟩:=up1 b _ e1 hd;have e3:F.get? b=some { o with slots:=sl' }:=(i.2 b (S b a)).trans e2;refine⟨sl',(t2 b λz=>?_).trans e3⟩;obtain⟨oz,wz,z1,z2⟩:=t3;rw[<- z] at z1;have z1:F.get? b=some oz:=z1;rw[e3] at z1;cases z1;exact hd _ z2
 refine T.on A Z0 H' _ x D B' (I0.call' (s':={ s' with heap:=h3 }) (ch:=K) I.os ⟨λb o e n a l=>?_,λb o e n a l=>r b o e a l,λb o e n l=>I.base.free b o e n l,λb o e l=>?_,I.base.tups,I.base.frzs,I.base.tbls⟩ (λb u e=>?_) I.bare λb a=>⟨(M b a).2.2.2.1,(M b a).2.1,(M b a).2.2.2.2.1,(M b a).2.2.2.2.2⟩) ⟨st3,J x hc2,fr3,?_,λb o e c=>?_⟩ hE
 .exact K1 b o (trk b o (I.base.keep b o e n a l) (.inr ⟨h0 b o e l,a⟩)) (g b o e)
 .by_cases a:b∈xh X.stack
  .obtain⟨sl,q⟩:=r b o e a l;exact⟨_,q⟩
  .obtain⟨G,e'⟩:=I.base.there b o e l;exact⟨G,K1 b G (trk b G e' (.inr ⟨h0 b o e l,a⟩)) (g b o e)⟩
 .refine(I.hok b u e).stay (λc v hc q=>K1 c v (trk c v q (.inl ?_)) ?_) (λ_ q=>q) λ_ _ q=>q
  .rcases hc with z|z
   .rw[z,e];simp
   .rw[z];simp
  .intro z;have fC:H' C=none:=I.free;rcases hc with y|y
   .rw[<- y,z,fC] at e;exact J5 e
   .rw[z,fC] at y;exact J5 y
 .obtain⟨fl',q⟩:=tr3;exact⟨t,fl',q⟩
 .have key:∃p,B.get? b=some p/\b≠C:=by
   rcases c with c|⟨⟨u,hu⟩,a⟩
   .cases q:H' b with
    |none=>exact Zn q c
    |some u =>
     obtain⟨p,h2'⟩:=(I.hok b u q).has;exact⟨p,trk b p h2' (.inl c),λz=>by rw[z] at q;rw[show H' C=none from I.free] at q;exact J5 q⟩
   .obtain⟨o1,e1⟩:=I0.base.there b u hu (by rw[L];simp);obtain⟨p,e2⟩:=I.base.there b o1 e1 (nex b u hu);exact⟨p,trk b p e2 (.inr ⟨h0 b o1 e1 (nex b u hu),a⟩),g b o1 e1⟩
  obtain⟨p,k1,k2⟩:=key;have:=K1 b p k1 k2;have e:=e;rw[e] at this;cases this;exact toB b o k1 k2
end L2
namespace L2.DL
def TR (N)(cap)(e:X.calm=true)(b:QF scope X.env N X.N cap=true)(g:QI X E tg iter fi)
 (i:∀c C s H a,QG (JJ X scope N c C s H a) tg t) (j:∀c C s H a,W6 X C s H a->QE (JJ X scope N c C s H a) E elt f) (hs:∀x,foldedSetIterable iter X.env x=pure x:=by intro _;rfl):
 QN X E (.ListComp elt [⟨tg,iter,[],0⟩] scope pos) (JZ cap fi t f):=PE.weak (Fg N cap e b g i j hs) λ_ _ _ h=>AK h
abbrev HP:=List (Addr×D)
def jm:HP->Addr->YH
 | [],_=>none
 |p::r,a=>if a=p.1 then some p.2 else jm r a
def VZ:HP->Addr->D->HP
 | [],_,_=>[]
 |p::r,a,d=>if a=p.1 then(p.1,d)::r else p::VZ r a d
def Bl (a):jm [] a=none:=rfl
theorem Q6 (p)(r:HP)(a):jm (p::r) a=if a=p.1 then some p.2 else jm r a:=rfl
theorem D9:∀{hp:HP} {a:Addr} {d:D} b,jm hp a≠none->jm (VZ hp a d) b=if b=a then some d else jm hp b
 | [],a,d,b,h=>Zn rfl h
 |p::r,a,d,b,h=>by
  unfold VZ;by_cases z:a=p.1
  .simp_all [Q6]
  .rw[Ze z,Q6,Q6];rw[Q6,Ze z] at h;rw[D9 b h]
   grind
structure RT (K:W.Frag)(B B':Bs)(F H:Hp)(sd:SD)(hp:HP)(Z: St):Prop where
 rs:RS K B' F H sd Z
 f0:B'.F0=B.F0
 pa:B'.pa=B.pa
 out:∀a,jm hp a=none->B'.H0 a=B.H0 a
 obj:∀a d,jm hp a=some d->B.F0 a=none/\B.H0 a=none/\yM K F B'.H0 a d
section
variable {K:W.Frag}{B B':Bs}{F F' H H':Hp}{sd sd':SD}{hp:HP}{Z Z':St}{a:Addr}{d:D}
def RT.sub (t:RT K B B' F H sd hp Z):jk B.H0 B'.H0:=λa o e=>by
 cases q:jm hp a with
 |none=>rwa [t.out a q]
 |some d=>rw[(t.obj a d q).2.1] at e;exact J5 e
def RT.ext0 (t:RT K B B' F H sd hp Z)(e:Ext B'.F0 B'.H0 F2 H2):Ext B.F0 B.H0 F2 H2:=
 ⟨by rw[<- t.f0];exact e.ff,e.fh,t.sub.trans e.hh,λa c b=>e.new a (by rwa [t.f0]) λz=>b (Qd t.sub z)⟩
def RT.go (t:RT K B B' F H sd hp Z)(s:jk F F')(r:RS K B' F' H' sd' Z'):RT K B B' F' H' sd' hp Z':=
 ⟨r,t.f0,t.pa,t.out,λa d h=>let ⟨h1,h2,h3⟩:=t.obj a d h;⟨h1,h2,h3.ext s λ_ q=>q⟩⟩
def RT.free (t:RT K B B' F H sd hp Z)(h:jm hp a=some d):F a=none:=have ⟨c,e,b⟩:=t.obj a d h;have ⟨o,f⟩:=b.has;t.rs.ext.new a (by rwa [t.f0]) ()
def RT.lies (t:RT K B B' F H sd hp Z)(h:jm hp a=some d):yM K F H a d:=(t.obj a d h).2.2.ext (.refl _) λo q=>t.rs.ext.hh _ _ q
def RT.no_own (t:RT K B B' F H sd hp Z)(h:jm hp a=some d)(b:B'.H0 l=none):l≠a:=λz=>by
 have ⟨o,c⟩:=(t.obj a d h).2.2.has
 simp_all
def RT.ret (t:RT K B B' F H sd hp Z)(h:AH K m B Q d):AH K m B' Q d:=by
 have g:yL K B.F0 B.H0 Q d->yL K B'.F0 B'.H0 Q d:=λh v c f e i=>h v c f (t.ext0 e) i;have j:yc K B.F0 B.H0 Q d->yc K B'.F0 B'.H0 Q d:=λh l c f e n p o=>h l c f (t.ext0 e) (Qd t.sub n) p o;cases m with
 |none =>
  have h:bY K B.F0 B.H0 Q d:=h;show bY K B'.F0 B'.H0 Q d
  grind[bY]
 |some b =>
  cases b with
  |true=>exact j h
  |false=>exact g h
def RT.xw (t:RT K B B' F H sd hp Z)(h:XW K E B.F0 B.H0 c fs):XW K E B'.F0 B'.H0 c fs:=λb a f g e q=>h b a f g (t.ext0 e) q
def RT.chg (t:RT K B B' F H sd hp Z)(f:jm hp a=some d)(h:yM K F (upd H a o) a d'):RT K B ⟨B'.F0,upd B'.H0 a o,B'.pa⟩ F (upd H a o) sd (VZ hp a d') Z:= by
 have m:=t.free f;have ⟨n,r,L⟩:=t.obj a d f;have g:jm hp a≠none:=by simp_all
 refine⟨⟨⟨t.rs.ext.ff,Cp o t.rs.ext.fh m,λb u e=>?_,λb s v=>?_⟩,t.rs.len,t.rs.val,λ{i p e} q=>?_,t.rs.apart⟩,t.f0,t.pa,λb c=>?_,λb e c=>?_⟩
 .have e:upd B'.H0 a o b=some u:=e;by_cases z:b=a
  .simp_all [JL]
  .rw[JI z] at e ⊢;exact t.rs.ext.hh _ _ e
 .by_cases z:b=a
  .rwa [z]
  .exact t.rs.ext.new b s λy=>v (by show upd B'.H0 a o b=none;rwa [JI z])
 .obtain⟨l,w,j,x,A,C⟩:=t.rs.own q;have ne:=t.no_own f j;exact⟨l,w,(JI ne).trans j,x,A.ext (.refl _) (λu E=>by rwa [JI ne]),λz=>(C z).mono λu E=>by rwa [JI ne]⟩
 .rw[D9 b g] at c;by_cases z:b=a
  .simp_all
  .rw[Ze z] at c;show upd B'.H0 a o b=B.H0 b;rw[JI z];exact t.out b c
 .rw[D9 b g] at c;by_cases z:b=a
  .rw[Zd z] at c;obtain rfl:=Zqi c;subst z;exact⟨n,r,h.ext (.refl _) λu q=>by simp_all [JL]⟩
  .rw[Ze z] at c;have ⟨G,I,J⟩:=t.obj b e c;exact⟨G,I,J.ext (.refl _) λu q=>by show upd B'.H0 a o b=some u;rwa [JI z]⟩
def zJ (F b:Hp)(hp:HP):Hp:=λa=>match jm hp a with
 |some _=>b a
 |none=>F a
theorem RT.frz (t:RT K B B' F H sd hp Z):∃h,jk F h/\RS K B h H sd Z /\ ∀a d,jm hp a=some d->jf K h d (.ref a):=by
 have s:∀b d,jm hp b=some d->zJ F B'.H0 hp b=B'.H0 b:=λb d e=>by grind[zJ]
 have g:∀b,jm hp b=none->zJ F B'.H0 hp b=F b:=λb e=>by grind[zJ]
 have f:jk F (zJ F B'.H0 hp):=λb u e=>by
  cases q:jm hp b with
  |none=>rwa [g b q]
  |some d=>rw[t.free q] at e;exact J5 e
 refine⟨zJ F B'.H0 hp,f,⟨⟨?_,λb u e=>?_,t.sub.trans t.rs.ext.hh,λb E j=>?_⟩,t.rs.len,λq=>let ⟨v,j,h2⟩:=t.rs.val q;⟨v,j,jf.same f _ _ h2⟩,λ{i p e} q=>?_,t.rs.apart⟩,λb e m=>?_⟩
 .rw[<- t.f0];exact t.rs.ext.ff.trans f
 .cases q:jm hp b with
  |none=>rw[g b q] at e;exact t.rs.ext.fh _ _ e
  |some d=>rw[s b d q] at e;exact t.rs.ext.hh _ _ e
 .cases q:jm hp b with
  |none=>rw[g b q];exact t.rs.ext.new b (by rwa [t.f0]) (by rwa [t.out b q])
  |some d=>exact Zn (t.obj b d q).2.1 j
 .have ⟨l,w,n,G,x,y⟩:=t.rs.own q;have A:jm hp l=none:=by
   cases z:jm hp l with
   |none=>rfl
   |some I=>exact Zn rfl (t.no_own z n)
  exact⟨l,w,Qd t.sub n,by rwa [g l A],x.ext f λ_ q=>q,λz=>by rw[<- t.pa];exact y z⟩
 .have ⟨J,L,r⟩:=t.obj b e m;have ⟨o,C⟩:=r.has;refine jf.same (λc u q=>?_) _ _ (r.frz C (t.free m));by_cases z:c=b
  .simp_all [JL]
  .rw[JI z] at q;exact f _ _ q
end
mutual
def der (hp:HP):D->D
 | .adr a=>match jm hp a with
  |some d=>d
  |none=>.adr a
 | .lst ds=>.lst (wl hp ds)
 | .non=>.non
 | .bl b=>.bl b
 | .int i=>.int i
 | .str x=>.str x
 | .ty n=>.ty n
 | .scr ns=>.scr ns
 | .tup ds=>.tup ds
 | .dct ks ds=>.dct ks ds
 | .ins c fs ds=>.ins c fs ds
 | .exc c=>.exc c
 | .ucl c=>.ucl c
 | .dcf ks ds=>.dcf ks ds
 | .pin a d=>.pin a d
def wl (hp:HP):YG->YG
 | []=>[]
 |d::ds=>der hp d::wl hp ds
end
theorem TU (hp)(a):der hp (.adr a)=match jm hp a with
 |some d=>d
 |none=>.adr a:=by rw[der]
def TV (hp):wl hp []=[]:=by rw[wl]
section
variable {K:W.Frag}{B:Bs}{F H:Hp}{sd:SD}{hp:HP}{Z: St}
mutual
theorem jf.der (f:∀a d,jm hp a=some d->jf K F d (.ref a)):∀d v,jf K F d v->jf K F (der hp d) v
 | .adr a,v,h=>by
  obtain rfl:=jA.mp h
  grind[TU]
 | .lst ds,v,h=>have ⟨a,e,g,i,j⟩:=jj.mp h;jj.mpr ⟨a,e,g,i,jd.der f ds e j⟩
 | .non,v,h=>by rwa [L2.DL.der]
 | .bl b,v,h=>by rwa [L2.DL.der]
 | .int b,v,h=>h
 | .str b,v,h=>by rwa [L2.DL.der]
 | .ty b,v,h=>h
 | .scr b,v,h=>by rwa [L2.DL.der]
 | .tup b,v,h=>by rwa [L2.DL.der]
 | .dct b c,v,h=>h
 | .ins b c d,v,h=>by rwa [L2.DL.der]
 | .exc b,v,h=>by rwa [L2.DL.der]
 | .ucl b,v,h=>by rwa [L2.DL.der]
 | .dcf b c,v,h=>by rwa [L2.DL.der]
 | .pin b c,v,h=>by rwa [L2.DL.der]
theorem jd.der (c:∀a d,jm hp a=some d->jf K F d (.ref a)):∀ds b,jd K F ds b->jd K F (wl hp ds) b
 | [],b,h=>by rwa [TV]
 |d::ds,b,h=>have ⟨x,r,e,f,g⟩:=jr.mp h;jr.mpr ⟨x,r,e,jf.der c d x f,jd.der c ds r g⟩
end
def derI (hp:HP):Yj->SD->SD
 | [],sd=>sd
 |i::is,sd=>derI hp is (match sd[i]? with
  |some (some (.val d))=>sd.set i (some (.val (der hp d)))
  |_=>sd)
def Z7 {α: Type}{l:List α}{a:α}(h:l[i]? = some a):l.set i a=l:=by
 apply Vy;intro j;by_cases z:i=j
 .subst z;rw[UM (Jc.mp h).1,h]
 .rw[Zx z]
def RS.reval (r:RS K B F H sd Z)(a:sd[i]? = some (some (.val d)))(h:∀v,jf K F d v->jf K F d' v):RS K B F H (sd.set i (some (.val d'))) Z:= by
 have ⟨v,b,c⟩:=r.val a;have:=r.setVal (i:=i) (h v c)
 rwa [Z7 b] at this
theorem RS.derI (b:∀a d,jm hp a=some d->jf K F d (.ref a)):∀is {sd:SD},RS K B F H sd Z -> RS K B F H (derI hp is sd) Z
 | [],sd,r=>r
 |i::is,sd,r=>by
  unfold L2.DL.derI
  split
  .rename_i d h;exact RS.derI b is (r.reval h λv q=>jf.der b d v q)
  .exact RS.derI b is r
end
inductive Out2 where
 |next (sd:SD) (hp:HP)|ret (d:D)|brk (sd:SD) (hp:HP)|cont (sd:SD) (hp:HP)
def vw (K:W.Frag)(m:Option Bool)(B:Bs)(F:Hp)(T:Ends):Out2->Prop
 | .next sd hp=>∀Z B' a b,jk F a->RT K B B' a b sd hp Z -> T.nx Z b
 | .brk sd hp=>∀Z B' a b,jk F a->RT K B B' a b sd hp Z -> T.bk Z b
 | .cont sd hp=>∀Z B' a b,jk F a->RT K B B' a b sd hp Z -> T.ct Z b
 | .ret d=>AH K m B T.rt d
abbrev qq:=SD->HP->Res Out2
def vA (K:W.Frag)(E:XK)(m:Option Bool)(g:qq):TS:=λT Z H=>∃B B' F sd hp,RT K B B' F H sd hp Z /\ (g sd hp).need (vw K m B F T) (XW K E B.F0 B.H0)
abbrev zV (X:Cx)(E:XK)(m:Option Bool)(st:Stmt)(g:qq):Prop:=PS X st (vA X.K E m g)
abbrev zb (X:Cx)(E:XK)(m:Option Bool)(st:List Stmt)(g:qq):Prop:=qO X st (vA X.K E m g)
def bd (hp:HP):Out->Out2
 | .next sd=>.next sd hp
 | .ret d=>.ret d
 | .brk sd=>.brk sd hp
 | .cont sd=>.cont sd hp
section
variable {K:W.Frag}{E:XK}{m:Option Bool}{B B':Bs}{F F' H:Hp}{T:Ends}{sd:SD}{hp:HP}{Z: St}
def vw.mono (h:vw K m B F T o)(e:jk F F'):vw K m B F' T o:=by
 cases o with
 |next sd hp=>exact λZ a b c s r=>h Z a b c (e.trans s) r
 |brk sd hp=>exact λZ a b c s r=>h Z a b c (e.trans s) r
 |cont sd hp=>exact λZ a b c s r=>h Z a b c (e.trans s) r
 |ret d=>exact h
def RT.lift (t:RT K B B' F H sd hp Z)(h:vw K m B F T (bd hp o)):zq K m B' F T o:=by
 cases o with
 |next sd'=>exact λa F' b s r=>h a B' F' b s (t.go s r)
 |brk sd'=>exact λa F' b s r=>h a B' F' b s (t.go s r)
 |cont sd'=>exact λa F' b s r=>h a B' F' b s (t.go s r)
 |ret d=>exact t.ret h
end
section
variable {X:Cx}{E:XK}{m:Option Bool}{st:Stmt}{sts:List Stmt}{g:FS}{g1 g2:qq}{pos pos':Pos}{o i e:Expr}{fo fi fv:FE}
def yf (g:FS):qq:=λsd hp=>(g sd).bind λo=>.ok (bd hp o)
def QV (h:QS X E m st g):zV X E m st (yf g):=PS.weak h λT Z H ⟨B,B',F,sd,hp,t,n⟩=>⟨B',F,sd,t.rs,(ja n).mono (λo a=>t.lift a) λ_ _ q=>t.xw q⟩
def Bm:qq:=λsd hp=>.ok (.next sd hp)
def QH (g1 g2:qq):qq:=λsd hp=>(g1 sd hp).bind λo=>match o with
 | .next sd' hp'=>g2 sd' hp'
 |o=>.ok o
def Il:zb X E m [] Bm:=qO.weak Ab λT Z H ⟨B,B',F,sd,hp,t,n⟩=>n Z B' F H (.refl _) t
def Z8 (h:zV X E m st g1):zb X E m [st] g1:=BT h
def Ux (b:zV X E m st g1)(c:zb X E m sts g2):zb X E m (st::sts) (QH g1 g2):=qO.weak (XF b c) λT Z H f=>by
 obtain⟨B,B',F,sd,hp,t,n⟩:=f;refine⟨B,B',F,sd,hp,t,(ja n).mono (λo a=>?_) λ_ _ q=>q⟩;cases o with
 |next sd' hp'=>exact λp h j r s l=>⟨B,h,j,sd',hp',l,a.mono (λo q=>q.mono s) λ_ _ q=>q⟩
 |ret d=>exact a
 |brk sd' hp'=>exact a
 |cont sd' hp'=>exact a
abbrev v7:=SD->HP->Res Bool
def m6 (K:W.Frag)(E:XK)(f:v7):TT:=λZ H Q=>∃B B' F sd hp,RT K B B' F H sd hp Z /\ (f sd hp).need (vN F H Q) (XW K E F H)
abbrev rn (X:Cx)(E:XK)(e:Expr)(f:v7):Prop:=PT X e (m6 X.K E f)
def m8 (f:FT):v7:=λsd _=>f sd
def TW (h:QT X E e f):rn X E e (m8 f):=PT.weak h λZ H Q ⟨B,B',F,sd,hp,t,n⟩=>⟨B',F,sd,t.rs,n⟩
def z8 (c:v7)(g1 g2:qq):qq:=λsd hp=>(c sd hp).bind λb=>if b then g1 sd hp else g2 sd hp
def Im (l:rn X E c fc)(p:zb X E m a g1)(r:zb X E m b g2):zV X E m (.If c a b pos) (z8 fc g1 g2):=PS.weak (BU l p r) λT Z H s=>by
 obtain⟨B,B',F,sd,hp,t,n⟩:=s;refine⟨B,B',F,sd,hp,t,(ja n).mono (λb h j u f=>?_) λ_ _ q=>q.ext (t.ext0 t.rs.ext)⟩;cases b with
 |true=>exact⟨B,B',j,sd,hp,t.go f.ff (t.rs.step f),h.mono (λ_ q=>q.mono f.ff) λ_ _ q=>q⟩
 |false=>exact⟨B,B',j,sd,hp,t.go f.ff (t.rs.step f),h.mono (λ_ q=>q.mono f.ff) λ_ _ q=>q⟩
def qo (b:D->qq):YG->qq
 | [],sd,hp=>.ok (.next sd hp)
 |x::xs,sd,hp=>(b x sd hp).bind λo=>match o with
  | .next sd' hp'=>qo b xs sd' hp'
  | .cont sd' hp'=>qo b xs sd' hp'
  | .brk sd' hp'=>.ok (.next sd' hp')
  | .ret d=>.ok (.ret d)
def QY (tg:Tg)(b:qq)(x:D):qq:=λsd hp=>(JM tg x sd).bind λs=>b s hp
def ZD (it:FA)(tg:Tg)(b:qq):qq:=λsd hp=>(it sd).bind λds=>qo (QY tg b) ds sd hp
def Io (wk:wu X.K F1 J ds)(r:RT X.K B B1 F1 H1 sd hp Z)(Y:(qo (QY t g1) ds sd hp).need (vw X.K m B F1 T) (XW X.K E B.F0 B.H0)):
 ∃W:Nat->Nat->St->Hp->Prop,(∃m,W 0 m Z H1)/\∀i S Z H,W i S Z H->(J.stop i H/\T.nx Z H)\/(J.go i H/\∃N:St->Hp->Prop,(∀s h,N s h->∃m2,m2<S/\W (i+1) m2 s h)/\∀x h,J.yld i H x h->gT t X.K x Z h λK C=>vA X.K E m g1 { T with nx:=N,ct:=N,bk:=T.nx } K C):=by
 refine⟨λi k Z H=>k=ds.length-i/\i<=ds.length/\∃F u sd hp,jk F1 u/\RT X.K B F u H sd hp Z /\ (qo (QY t g1) (ds.drop i) sd hp).need (vw X.K m B u T) (XW X.K E B.F0 B.H0),
  ⟨ds.length,rfl,Ua _,B1,F1,sd,hp,.refl _,r,Y⟩,?_⟩
 rintro i k K C ⟨rfl,hi,F,u,sd2,L,M,G,v⟩;obtain⟨w1,w2⟩:=wk i u C M G.rs.ext.fh;by_cases j:i<ds.length
 .have ⟨go,yl⟩:=w1 j;refine .inr ⟨go,λs h=>∃O l a b,jk F1 l/\RT X.K B O l h a b s/\(qo (QY t g1) (ds.drop (i+1)) a b).need (vw X.K m B l T) (XW X.K E B.F0 B.H0),
   λs h ⟨O,l,a,b,q1,q2,q3⟩=>⟨ds.length-(i+1),(),rfl,j,O,l,a,b,q1,q2,q3⟩,λx H3 y=>?_⟩
  obtain⟨d,l,hd,n,i3⟩:=yl x H3 y;rw[Uq j] at v;have P:ds[i]=d:=by simp_all
  rw[P] at v;have U:=G.go n.ff (G.rs.step n);refine Xl U.rs i3 (ja (ja v)) λsd' s n4 _ r4=>⟨B,F,l,sd',L,U.go (.refl _) r4,n4.mono (λo I=>?_) λ_ _ q=>q⟩;cases o with
  |next c f=>exact λQ w z R p A=>⟨w,z,c,f,(M.trans n.ff).trans p,A,I.mono (λ_ q=>q.mono (n.ff.trans p)) λ_ _ q=>q⟩
  |cont c f=>exact λQ w z R p A=>⟨w,z,c,f,(M.trans n.ff).trans p,A,I.mono (λ_ q=>q.mono (n.ff.trans p)) λ_ _ q=>q⟩
  |brk c f=>exact λQ w z R p A=>I Q w z R (n.ff.trans p) A
  |ret d=>exact I
 .have he:i=ds.length:=()
  refine .inl ⟨w2 (),?_⟩;subst he;rw[UT] at v;exact v K F u C (.refl _) G
def Ip (hp:PassesOwn (model X.prog X.w) X.A X.env X.xe)(c:X.calm=true)(f:QI X E tg iter it)(h:QG X tg t)(j:zb X E m body g1)
 (a:∀x,foldedSetIterable iter X.env x=pure x:=by intro _;rfl):zV X E m (.For tg iter body [] pos) (ZD it t g1):=PS.weak (Af hp c f h j a) λT Z H ⟨B,B',F,sd,hp,r,n⟩=>⟨B',F,sd,r.rs,(ja n).mono (λds l J p s b wk=>(Io wk (r.go b.ff (r.rs.step b)) (l.mono (λ_ q=>q.mono b.ff) λ_ _ q=>q))) λ_ _ q=>q.ext (r.ext0 r.rs.ext)⟩
end
@[simp]def uy (hp:HP)(sd:SD):bd hp (.next sd)=.next sd hp:=rfl
@[simp]def nT (g:FS)(sd:SD)(hp:HP):yf g sd hp=(g sd).bind λo=>.ok (bd hp o):=rfl
def uL (g:qq):Out2->Res Out2
 | .next sd hp=>g sd hp
 |o=>.ok o
@[simp]def lE (g:qq)(sd:SD)(hp:HP):uL g (.next sd hp)=g sd hp:=rfl
@[simp]def fz (a b:qq)(sd:SD)(hp:HP):QH a b sd hp=(a sd hp).bind (uL b):=by
 rfl
@[simp]def lf (sd:SD)(hp:HP):Bm sd hp=.ok (.next sd hp):=rfl
@[simp]def Iq (c:v7)(a e:qq)(sd:SD)(hp:HP):z8 c a e sd hp=(c sd hp).bind λb=>if b then a sd hp else e sd hp:=rfl
@[simp]def nQ (f:FT)(sd:SD)(hp:HP):m8 f sd hp=f sd:=rfl
@[simp]def TX (it:FA)(tg:Tg)(b:qq)(sd:SD)(hp:HP):ZD it tg b sd hp=(it sd).bind λds=>qo (QY tg b) ds sd hp:=rfl
@[simp]def fD (hp:HP)(sd:SD):derI hp [] sd=sd:=rfl
def fF (hp:HP)(i:Nat)(sd:SD):Option (Option SV)->SD
 |some (some (.val d))=>sd.set i (some (.val (der hp d)))
 |_=>sd
@[simp]def fE (hp:HP)(i:Nat)(sd:SD)(d:D):fF hp i sd (some (some (.val d)))=sd.set i (some (.val (der hp d))):=rfl
@[simp]def lB (hp:HP)(i:Nat)(is:Yj)(sd:SD):derI hp (i::is) sd=derI hp is (fF hp i sd sd[i]?):=by
 rfl
def Ir (b:D->qq)(a:YG):Out2->Res Out2
 | .next sd hp=>qo b a sd hp
 | .cont sd hp=>qo b a sd hp
 | .brk sd hp=>.ok (.next sd hp)
 | .ret d=>.ok (.ret d)
@[simp]def TY (b:D->qq)(a:YG)(sd:SD)(hp:HP):Ir b a (.next sd hp)=qo b a sd hp:=rfl
def TZ (b:D->qq)(x:D)(a:YG)(sd:SD)(hp:HP):qo b (x::a) sd hp=(b x sd hp).bind (Ir b a):=by
 rfl
@[simp]def dB (tg:Tg)(b:qq)(x:D)(sd:SD)(hp:HP):QY tg b x sd hp=(JM tg x sd).bind λs=>b s hp:=rfl
theorem DA:∀{ds:YG} {sd:SD} {hp:HP} (P:Nat->SD->HP->Prop),P 0 sd hp->(∀(i:Nat) (x:D) (sd:SD) (hp:HP),ds[i]? = some x->P i sd hp->∃sd' hp',b x sd hp=.ok (.next sd' hp')/\P (i+1) sd' hp') ->
 ∃sd' hp',qo b ds sd hp=.ok (.next sd' hp')/\P ds.length sd' hp'
 | [],sd,hp,P,h0,_=>⟨sd,hp,rfl,h0⟩
 |x::xs,sd,hp,P,h0,hs=>by
  obtain⟨e,f,g,h⟩:=hs 0 x sd hp rfl h0;obtain⟨a,c,j,l⟩:=DA (λi=>P (i+1)) h λi y sd hp m p=>hs (i+1) y sd hp m p;refine⟨a,c,?_,l⟩;rw[TZ,g,ji,TY,j]
def wy (K:W.Frag)(F H:Hp)(hp:HP):Prop:=∀a d,jm hp a=some d->F a=none/\yM K F H a d
def RT.lent {K:W.Frag}{B B':Bs}{F H:Hp}{sd:SD}{hp:HP}{Z: St}(t:RT K B B' F H sd hp Z):wy K F H hp:=λ_ _ h=>⟨t.free h,t.lies h⟩
section
variable {K:W.Frag}{B B':Bs}{F H:Hp}{sd:SD}{hp:HP}{Z: St}
def RT.drop (t:RT K B B' F H sd hp Z):RS K B F H sd Z:= ⟨t.ext0 t.rs.ext,t.rs.len,t.rs.val,λq=>let ⟨l,l1,l2,l3,l4,l5⟩:=t.rs.own q;⟨l,l1,Qd t.sub l2,l3,l4,λz=>by rw[<- t.pa];exact l5 z⟩,t.rs.apart⟩
end
abbrev qa:=SD->HP->Res (D×HP)
abbrev yb:=SD->HP->Res (YG×HP)
abbrev zR:=SD->HP->Res (Bool×HP)
def wR (K:W.Frag)(E:XK)(f:qa):TE:=λZ H Q=>∃B B' F sd hp,RT K B B' F H sd hp Z /\ (f sd hp).need (λp=>∀v c a b,jk F a->RT K B c a b sd p.2 Z -> jf K a p.1 v->Q v b) (XW K E B.F0 B.H0)
abbrev xx (X:Cx)(E:XK)(e:Expr)(f:qa):Prop:=PE X e (wR X.K E f)
def uD (K:W.Frag)(E:XK)(f:yb):TA:=λZ H Q=>∃B B' F sd hp,RT K B B' F H sd hp Z /\ (f sd hp).need (λp=>∀b e a c,jk F a->RT K B e a c sd p.2 Z -> jd K a p.1 b->Q b c) (XW K E B.F0 B.H0)
abbrev zO (X:Cx)(E:XK)(es:Ym)(f:yb):Prop:=PA X es (uD X.K E f)
def uC (K:W.Frag)(E:XK)(f:zR):TT:=λZ H Q=>∃B B' F sd hp,RT K B B' F H sd hp Z /\ (f sd hp).need (λp=>∀c a b,jk F a->RT K B c a b sd p.2 Z -> Q p.1 b) (XW K E B.F0 B.H0)
abbrev vJ (X:Cx)(E:XK)(e:Expr)(f:zR):Prop:=PT X e (uC X.K E f)
section
variable {X:Cx}{E:XK}{m:Option Bool}{a b e o i:Expr}{es:Ym}{fa fb fe fo fi:FE}{f2 g2:qa}{fr:yb}{pos pos':Pos}
def xa (fe:FE):qa:=λsd hp=>(fe sd).bind λd=>.ok (d,hp)
def Qr (h:QE X E e fe):xx X E e (xa fe):=PE.weak h λZ H Q ⟨B,B',F,sd,hp,t,n⟩=>⟨B',F,sd,t.rs,(ja n).mono (λd f v g j c l=>f v B' g j c.ff (t.go c.ff (t.rs.step c)) l) λ_ _ q=>q.ext (t.ext0 t.rs.ext)⟩
def zy (fo fi:FE):qa:=λsd hp=>(fo sd).bind λo=>match o with
 | .adr a=>match jm hp a with
  |some (.lst es)=>(fi sd).bind λk=>(Res.ofO (jF (.lst es) k)).bind λz=>.ok (z,hp)
  |_=>.no
 |_=>.no
def Iu (l:QE X E o fo)(p:QE X E i fi)(hs:Xb i):xx X E (.Subscript o i pos) (zy fo fi):=PE.weak (XJ hY l p hs) λZ H Q r=>by
 obtain⟨B,B',F,sd,hp,t,n⟩:=r;refine⟨B',F,sd,t.rs,(ja n).mono (λd c v s N g u=>?_) λ_ _ q=>q.ext (t.ext0 t.rs.ext)⟩
 split at c
 .rename_i a;obtain rfl:=jA.mp u
  split at c
  .rename_i es A;have f:=t.go g.ff (t.rs.step g);refine⟨B',s,sd,f.rs,(ja c).mono (λy C w G I h J=>?_) λ_ _ q=>q.ext (t.ext0 f.rs.ext)⟩;have j:=f.go h.ff (f.rs.step h);have ⟨K,L,g2⟩:=j.lies A;have ⟨z,hz,q⟩:=jg (ja C);cases y with
   |int k =>
    have ⟨x,M,ix⟩:=YP g2 (hz);exact⟨a,K,k,x,rfl,je.mp J,qp.of L,M,q _ B' G I (g.ff.trans h.ff) j ix⟩
   |_=>exact J5 hz
  .exact c.elim
 .exact c.elim
def qG (g:D->D->YH)(fa fb:qa):qa:=λsd hp=>(fa sd hp).bind λp=>(fb sd p.2).bind λq=>(Res.ofO (g p.1 q.1)).bind λz=>.ok (z,q.2)
def DB {K:W.Frag}{g:D->D->YH}{Z: St}{H:Hp}{Q:VK}(h:wR K E (qG g f2 g2) Z H Q):vy (vz K g) (wR K E f2) (wR K E g2) Z H Q:=by
 obtain⟨B,B',F,sd,hp,t,n⟩:=h;refine⟨B,B',F,sd,hp,t,(ja n).mono (λp l v r s O x y A=>⟨B,r,s,sd,p.2,y,(ja l).mono (λq C w G I P j c J=>?_) λ_ _ q=>q⟩) λ_ _ q=>q⟩;obtain⟨z,hz,k⟩:=jg (ja C);exact⟨I,p.1,q.1,z,c.rs.ext.fh,jf.same j _ _ A,J,hz,λu L M f N=>k u G L M ((x.trans j).trans f.ff) (c.go f.ff (c.rs.step f)) N⟩
def WQ (c:yr X (binaryOp op) g)(f:xx X E a f2)(j:xx X E b g2):xx X E (.BinOp a op b pos) (qG g f2 g2):=PE.weak (BW c f j) λ_ _ _ h=>DB h
def Iv (c:zg X (vz X.K g))(f:xx X E a f2)(j:xx X E b g2)(hs:Xb b):xx X E (.Subscript a b pos) (qG g f2 g2):=PE.weak (XJ c f j hs) λ_ _ _ h=>DB h
def DC (fa:qa):zR:=λsd hp=>(fa sd hp).bind λp=>match p.1 with
 | .bl b=>.ok (b,p.2)
 |_=>.no
def dU (f:yr X (compareOp op) g)(h:xx X E a f2)(j:xx X E b g2)(l:behindInMarks op b=false):vJ X E (.Compare a [op] [b] pos) (DC (qG g f2 g2)):=PT.weak (BX f h j l) λZ H Q r=>by
 obtain⟨B,B',F,sd,hp,t,n⟩:=r;refine DB ⟨B,B',F,sd,hp,t,(ja n).mono (λp c v s u w x y z=>?_) λ_ _ q=>q⟩;obtain⟨d,A⟩:=p;cases d with
 |bl k=>exact⟨k,jn.mp z,c s u w x y⟩
 |_=>exact c.elim
def Wu:yb:=λ_ hp=>.ok ([],hp)
def QJ (f:qa)(g:yb):yb:=λsd hp=>(f sd hp).bind λp=>(g sd p.2).bind λq=>.ok (p.1::q.1,q.2)
def Bn:zO X E [] Wu:=PA.weak KN λZ H Q ⟨B,B',F,sd,hp,t,n⟩=>n [] B' F H (.refl _) t .nil
def V0 (f:xx X E e f2)(g:zO X E es fr)(hs:starEach (e::es) X.env=(false,eval e X.env)::starEach es X.env:=by rfl):zO X E (e::es) (QJ f2 fr):=PA.weak (K9 f g hs) λZ H Q ⟨B,B',F,sd,hp,t,n⟩=>⟨B,B',F,sd,hp,t,(ja n).mono (λp h v j l I r s u=>⟨B,j,l,sd,p.2,s,(ja h).mono (λq w x y z A c C G=>(w (v::x) y z A (r.trans c) C (.mk (jf.same c _ _ u) G))) λ_ _ q=>q⟩) λ_ _ q=>q⟩
def ZE (fr:yb):qa:=λsd hp=>(fr sd hp).bind λp=>if p.1.length<=1000 then .ok (.tup p.1,p.2) else .no
def Iw {x1}(h:zO X E es fr):xx X E (.Tuple es x1 pos) (ZE fr):=PE.weak (EG h) λZ H Q r=>by
 obtain⟨B,B',F,sd,hp,t,n⟩:=r;refine⟨B,B',F,sd,hp,t,(ja n).mono (λp f j s w x u g l=>?_) λ_ _ q=>q⟩
 split at f
 .have hz:=l.length;refine⟨QR (),λq v=>?_⟩;have c:=qh g.rs.ext.fh v (.tup j);exact f _ s _ _ (u.trans c.ff) (g.go c.ff (g.rs.step c)) (ju.mpr ⟨q,j,rfl,.of JL,jd.same c.ff _ _ l⟩)
 .exact f.elim
def Xy (i:Nat)(f:qa):qq:=λsd hp=>(f sd hp).bind λp=>.ok (.next (sd.set i (some (.val p.1))) p.2)
def DE {i:Nat}{x:Str}{c:Pos}(g:X.N.Nodup)(h:X.N[i]? = some x)(j:yG X.env.scope x)(l:xx X E e f2)(hs:swapsWith e (some (.Name x pos')) c.line X.env=pure false:=by rfl)(r:X.fn x=true\/X.env.scope.names.lookup x=some .local:=by trivial):
 zV X E m (.Assign [.Name x pos'] e c) (Xy i f2):=PS.weak (XG g h j l hs r) λT Z H ⟨B,B',F,sd,hp,t,n⟩=>⟨B,B',F,sd,hp,t,(ja n).mono (λp s v u w y z f A=>(s _ u w y z (f.go (.refl _) (f.rs.setVal A)))) λ_ _ q=>q⟩
def Bo (fo fi:FE)(c:qa):qq:=λsd hp=>(c sd hp).bind λp=>(fo sd).bind λo=>match o with
 | .adr a=>match jm p.2 a with
  |some (.lst es)=>(fi sd).bind λk=>match k with
   | .int k=>match y0 es.length k with
    |some q=>.ok (.next sd (VZ p.2 a (.lst (es.set q p.1))))
    |none=>.no
   |_=>.no
  |_=>.no
 |_=>.no
def d7 (z:QE X E o fo)(A:QE X E i fi)(C:xx X E e f2)(h:∀v,assign (.Subscript o i pos') X.env v=(do
 let j <- holding [v] (eval o X.env)
 let u <- holding [v,j] (eval i X.env)
 standAt pos'
 holding [v,j,u] (setItem j u v)
 release [v,j,u] []):=by intro _;rfl) (hs:swapsWithSole [.Subscript o i pos'] e pos.line X.env=pure false:=by rfl) (G:swappedStores [.Subscript o i pos'] e X.env=pure none:=by rfl)
 (I:(assignEach [.Subscript o i pos'] X.env).map (·.2)=[assign (.Subscript o i pos') X.env]:=by rfl):zV X E m (.Assign [.Subscript o i pos'] e pos) (Bo fo fi f2):=PS.weak (E6 C (E5 z A EQ h) hs G I) λT Z H J=>by
 obtain⟨B,B',F,sd,hp,t,n⟩:=J;refine⟨B,B',F,sd,hp,t,(ja n).mono (λp K v x L Y M c N=>⟨x,L,sd,c.rs,(ja K).mono (λd f v2 O H2 l P=>?_) λ_ _ q=>q.ext (c.ext0 c.rs.ext)⟩) λ_ _ q=>q⟩
 split at f
 .rename_i a;obtain rfl:=jA.mp P;have r:=c.go l.ff (c.rs.step l)
  split at f
  .rename_i es h;refine⟨x,O,sd,r.rs,(ja f).mono (λk g w Q H3 s R=>?_) λ_ _ q=>q.ext (c.ext0 r.rs.ext)⟩;have y:=r.go s.ff (r.rs.step s)
   split at g
   .rename_i k
    split at g
    .rename_i q hk;have ⟨S,U,g2⟩:=y.lies h;exact⟨a,S,k,q,rfl,je.mp R,U,by rwa [g2.length],g Z _ Q _ ((M.trans l.ff).trans s.ff) (y.chg h ⟨_,JL,g2.set q (jf.same (l.ff.trans s.ff) _ _ N)⟩)⟩
    .exact g.elim
   .exact g.elim
  .exact f.elim
 .exact f.elim
def K4 (i:Nat)(f:qa):qq:=λsd hp=>match sd[i]? with
 |some (some (.own false (.lst ds)))=>(f sd hp).bind λp=>if ds.length<sizeLine then .ok (.next (sd.set i (some (.own false (.lst (ds++[p.1]))))) p.2) else .no
 |_=>.no
def Ix {i:Nat}{c f:Pos}(y:PE X o (xy i))(z:xx X E e f2)
 (hp:∀{u:TE} {t:TA},PE X o u->PA X [e] t->PE X (.Call (.Attribute o "append" c) [e] [] f) (uG X.K "list" Aj u t))
 (hs:swapsWith (.Call (.Attribute o "append" c) [e] [] f) none pos.line X.env=pure false:=by rfl)
 (g:starEach [e] X.env=(false,eval e X.env)::starEach [] X.env:=by rfl):zV X E m (.Expr (.Call (.Attribute o "append" c) [e] [] f) pos) (K4 i f2):=
 PS.weak (Ac (hp y (K9 z KN g)) hs) λT Z H A=>by
  obtain⟨B,B',F,sd,hp,t,n⟩:=A;unfold K4 at n
  split at n
  .rename_i ds h;obtain⟨l,j,N,O,⟨C,G,P⟩,_⟩:=t.rs.own h;refine⟨.ref l,j,.inl ⟨rfl,C,qp.of G⟩,B,B',F,sd,hp,t,(ja n).mono (λp r v I J Q K s L=>?_) λ_ _ q=>q⟩
   split at r
   .obtain⟨R,w,g2,S,⟨ys,M,x⟩,_⟩:=s.rs.own h;rw[j] at w;cases w;have U:=x.length;exact⟨l,ys,v,rfl,rfl,M,(),r Z I J _ K (s.go (.refl _) (s.rs.chg h j ⟨ys++[v],JL,x.snoc L⟩))⟩
   .exact r.elim
  .exact n.elim
end
def DF (K:W.Frag)(E:XK)(g:qa):TS:=λT Z H=>∃B B' F sd hp,RT K B B' F H sd hp Z /\ (g sd hp).need (λp=>∀v c sd' e a b,jk F a->RT K B e a b sd' p.2 c->jf K a p.1 v->T.rt v b) (XW K E B.F0 B.H0)
abbrev zc (X:Cx)(E:XK)(sts:List Stmt)(g:qa):Prop:=qO X sts (DF X.K E g)
section
variable {X:Cx}{E:XK}{m:Option Bool}{e:Expr}{f2 g2 ga:qa}{g1:qq}{fc:zR}{pos:Pos}{st:Stmt}{sts a:List Stmt}{c:Expr}
def Wa (h:xx X E e f2):zc X E [.Return (some e) pos] f2:=qO.weak (BT (Ad h)) λT Z H ⟨B,B',F,sd,hp,t,n⟩=>⟨B,B',F,sd,hp,t,n.mono () λ_ _ q=>q⟩
def qT (g1:qq)(g2:qa):qa:=λsd hp=>(g1 sd hp).bind λo=>match o with
 | .next sd' hp'=>g2 sd' hp'
 |_=>.no
def Kq (g:zV X E m st g1)(h:zc X E sts g2):zc X E (st::sts) (qT g1 g2):=qO.weak (XF g h) λT Z H i=>by
 obtain⟨B,B',F,sd,hp,t,n⟩:=i;refine⟨B,B',F,sd,hp,t,(ja n).mono (λo b=>?_) λ_ _ q=>q⟩;cases o with
 |next sd' hp'=>exact λG j l I s r=>⟨B,j,l,sd',hp',r,b.mono (λp q v u f w x y z A C=>q v u f w x y (s.trans z) A C) λ_ _ q=>q⟩
 |ret d=>exact b.elim
 |brk sd' hp'=>exact b.elim
 |cont sd' hp'=>exact b.elim
def f9 (fc:zR)(ga g2:qa):qa:=λsd hp=>(fc sd hp).bind λp=>if p.1 then ga sd p.2 else g2 sd p.2
def DG (z:vJ X E c fc)(A:zc X E a ga)(C:zc X E sts g2):zc X E (.If c a [] pos::sts) (f9 fc ga g2):=qO.weak (XF (BU z A Ab) C) λT Z H G=>by
 obtain⟨B,B',F,sd,hp,t,n⟩:=G;refine⟨B,B',F,sd,hp,t,(ja n).mono (λp s u w I x y=>?_) λ_ _ q=>q⟩;obtain⟨k,f⟩:=p;cases k with
 |true=>exact⟨B,u,w,sd,f,y,s.mono (λp q v g b h i j l o r=>q v g b h i j (x.trans l) o r) λ_ _ q=>q⟩
 |false=>exact⟨B,u,w,sd,f,y,s.mono (λp q v g b h i j l o r=>q v g b h i j (x.trans l) o r) λ_ _ q=>q⟩
end
structure ExtW (K:W.Frag)(F H:Hp)(hp:HP)(F' H':Hp)(hp':HP):Prop where
 ff:jk F F'
 fh:jk F' H'
 hh:∀a o,jm hp a=none->H a=some o->H' a=some o
 new:∀a,F a=none->H a≠none->F' a=none
 len:wy K F' H' hp'
 dom:∀a,jm hp' a=none↔jm hp a=none
theorem ZF:∀{hp:HP} {a:Addr},jm hp a=none↔a∉hp.map (·.1)
 | [],a=>by simp[Bl]
 |p::r,a=>by
  rw[Q6,Zl,UV,not_or];by_cases z:a=p.1
  .simp_all
  .rw[Ze z,ZF]
   simp_all
def yA (H:Hp)(hp:HP):Hp:=λa=>match jm hp a with
 |none=>H a
 |some _=>none
def V1 (h:jm hp a=none):yA H hp a=H a:=by grind[yA]
def Iy (h:jm hp a=some d):yA H hp a=none:=by unfold yA;rw[h]
def yF (K:W.Frag)(c:YG->HP->Res (D×HP)):Sp:=λe H Q _=>∃F ds hp,jk F H/\jd K F ds e/\wy K F H hp/\(c ds hp).need (λp=>∀v a b,ExtW K F H hp a b p.2->jf K a p.1 v->Q v b) (XW K E0 F (yA H hp))
def Qx (n ar:Nat)(g:qa)(ds:YG)(hp:HP):Res (D×HP):=if ds.length=ar then(g (JW n ds) hp).bind λp=>if p.2.map (·.1)=hp.map (·.1) then .ok p else .no else .no
section
variable {K:W.Frag}{B B':Bs}{F F' H H':Hp}{sd:SD}{hp hp':HP}{Z: St}
def RT.call (t:RT K B B' F H sd hp Z)(w:ExtW K F H hp F' H' hp'):∃j,RT K B j F' H' sd hp' Z:= by
 have m:=λa o h e=>w.hh a o h (t.rs.ext.hh _ _ e);refine⟨⟨B'.F0,λa=>match jm hp a with
  |none=>B'.H0 a
  |some _=>H' a,B'.pa⟩,⟨⟨t.rs.ext.ff.trans w.ff,w.fh,λa o e=>?_,λa n c=>?_⟩,t.rs.len,λq=>let ⟨v,c,h2⟩:=t.rs.val q;⟨v,c,jf.same w.ff _ _ h2⟩,λ{i p d} q=>?_,t.rs.apart⟩,t.f0,t.pa,λa b=>?_,λa d b=>?_⟩
 .grind
 .cases z:jm hp a with
  |none =>
   have c:(match jm hp a with
    |none=>B'.H0 a
    |some _=>H' a)≠none:=c
   rw[z] at c;exact w.new a (t.rs.ext.new a n c) λy=>(c (Qd t.rs.ext.hh y))
  |some d =>
   obtain⟨o,r⟩:=(t.lies z).has;exact w.new a (t.free z) ()
 .obtain⟨l,s,x,A,f,C⟩:=t.rs.own q;have g:jm hp l=none:=by
   cases z:jm hp l with
   |none=>rfl
   |some I=>exact Zn rfl (t.no_own z x)
  obtain⟨o,r⟩:=f.has;refine⟨l,s,?_,w.new l A (),f.ext w.ff λu q=>w.hh _ _ g q,λz=>(C z).mono λu q=>w.hh _ _ g q⟩
  simp_all
 .have b:=(w.dom a).mp b;show(match jm hp a with
   |none=>B'.H0 a
   |some _=>H' a)=B.H0 a
  rw[b];exact t.out a b
 .cases z:jm hp a with
  |none=>rw[(w.dom a).mpr z] at b;cases b
  |some d0 =>
   obtain⟨E,G,_⟩:=t.obj a d0 z;refine⟨E,G,(w.len a d b).2.ext (.refl _) λo q=>?_⟩
   simp_all
def RT.hidden (t:RT K B B' F H sd hp Z):Ext B.F0 B.H0 F (yA H hp):=by
 have e:=t.ext0 t.rs.ext;refine⟨e.ff,λa o q=>?_,λa o q=>?_,e.new⟩
 .cases z:jm hp a with
  |none=>rw[V1 z];exact e.fh _ _ q
  |some d=>rw[t.free z] at q;exact J5 q
 .cases z:jm hp a with
  |none=>rw[V1 z];exact e.hh _ _ q
  |some d=>rw[(t.obj a d z).2.1] at q;exact J5 q
end
section
variable {P:Program}{w:World}{K:W.Frag}{mg:Ye}{base:Heap}{x qual:Str}{st:Stmt}{f:Addr}{fd:FuncData}{N ps:Yk}{k:Nat}
def Bp (F:Fun K x qual st f fd)(S:FnScope N ps (JR st))
 (B:∀c A b s H E,Room k (A.deeper (envOfC qual (JR st) s.heap.objs.size f c))->qO (jW yw P w K mg base N qual (JR st) f c A b s H E).nox (QL st) (DF K E0 g)):
 FnOk P w K mg base yw (k+1) f fd ps (yF K (Qx N.length ps.length g)):=by
 refine F.ok S (λr H Q E ⟨F,ds,hp,_,i,_,n⟩=>?_) λc A b s H r Q E C ⟨F,ds,hp,hs,i,u,n⟩=>⟨_,B c A b s H E C,?_⟩
 .unfold Qx at n
  split at n
  .rw[i.length];lia
  .exact n.elim
 .unfold Qx at n
  split at n
  .have t:RT K ⟨F,yA H hp,λ_=>none⟩ ⟨F,H,λ_=>none⟩ F H (JW N.length ds) hp (L2.start N r):=⟨RS.start hs i,rfl,rfl,λa h=>(V1 h).symm,λa d h=>⟨(u a d h).1,Iy h,(u a d h).2⟩⟩;refine⟨_,_,F,_,hp,t,(ja n).mono (λp l v T sd' U G I J j L=>?_) λ_ _ q=>q⟩
   split at l
   .rename_i M;have m:∀a,jm p.2 a=none↔jm hp a=none:=λa=>by rw[ZF,ZF,M]
    have e:=j.ext0 j.rs.ext;refine l v G I ⟨J,j.rs.ext.fh,λa o h q=>e.hh a o ((V1 h).trans q),λa O R=>?_,j.lent,m⟩ L;cases z:jm hp a with
    |none=>exact e.new a O λy=>R ((V1 z).symm.trans y)
    |some d =>
     cases y:jm p.2 a with
     |none=>simp_all
     |some X=>exact j.free y
   .exact l.elim
  .exact n.elim
end
section
variable {X:Cx}{pos:Pos}
def Qi (a:YG->HP->Res (D×HP))(b:FA):qa:=λsd hp=>(b sd).bind λds=>a ds hp
def KJ (c:zU X.prog X.w X.K X.mg X.base name k ps (yF X.K Fn))(h:Room k X.A)(j:Gl X name)(l:QA X E0 (e::es) fr)
 (b:(name == ("__debug__" : Str))=false:=by decide) (m:starEach (e::es) X.env=(false,eval e X.env)::starEach es X.env:=by rfl) (f:(backTo pos (starEach es X.env)).any (·.1)=false:=by rfl):
 xx X E0 (.Call (.Name name p) (e::es) [] pos) (Qi Fn fr):=PE.weak (Xe c h j l b m f) λZ H Q o=>by
 obtain⟨B,B',F,sd,hp,t,n⟩:=o;refine⟨B',F,sd,t.rs,(ja n).mono (λds r s u x a y=>?_) λ_ _ q=>q.ext (t.ext0 t.rs.ext)⟩;have g:=t.go a.ff (t.rs.step a);show yF X.K Fn (s++[]) x Q E0;rw[ZA];refine⟨u,ds,hp,a.fh,y,g.lent,r.mono (λp z v A C w i=>?_) λ_ _ q=>q.ext g.hidden⟩;obtain⟨E,G⟩:=g.call w;exact z v E A C (a.ff.trans w.ff) G i
end
abbrev FX:=SD->Res (D×SD)
def pe (K:W.Frag)(E:XK)(f:FX):TE:=λZ H Q=>∃B F sd,RS K B F H sd Z /\ (f sd).need (λp=>∀v a b,jk F a->RS K B a b p.2 Z -> jf K a p.1 v->Q v b) (XW K E B.F0 B.H0)
abbrev QX (X:Cx)(E:XK)(e:Expr)(f:FX):Prop:=PE X e (pe X.K E f)
open Classical in
def wo (g:Addr->Res (D×SD)):Res (D×SD):=if h:∃o,∀a,g a=.ok o then .ok (Classical.choose h) else .no
def tY (h:∀a,g a=.ok o):wo g=.ok o:=by
 have b:∃o,∀a,g a=.ok o:=⟨o,h⟩;unfold wo;rw[dif_pos b];have c:=Classical.choose_spec b 0;rw[h 0] at c;exact c.symm
def cs (h:(wo g).need p q)(a):(g a).need p q:=by
 unfold wo at h
 split at h
 .grind
 .exact h.elim
def xJ (i:Nat)(f:qa):FX:=λsd=>match sd[i]? with
 |some (some (.own false d))=>wo λa=>(f (sd.set i (some (.val (.adr a)))) [(a,d)]).bind λp=>match jm p.2 a with
  |some d1=>.ok (p.1,sd.set i (some (.own false d1)))
  |none=>.no
 |_=>.no
def za {K:W.Frag}{B:Bs}{F H:Hp}{sd:SD}{Z: St}{i:Nat}{p:Bool}{d:D}{l:Addr}(r:RS K B F H sd Z)(s:sd[i]? = some (some (.own p d)))(h:Z[i]? = some (some (.ref l)))(t:B.H0 l=none)(u:F l=none)(v:yM K F H l d):
 RT K B ⟨B.F0,λa=>if a=l then H l else B.H0 a,B.pa⟩ F H (sd.set i (some (.val (.adr l)))) [(l,d)] Z:= by
 have c:=r.setVal (i:=i) (d:=.adr l) (jA.mpr rfl);rw[Z7 h] at c;have g:∀{a:Addr} {e:D},jm [(l,d)] a=some e->a=l/\e=d:=λ{a e} q=>by
  simp_all [Q6,Bl]
 refine⟨⟨⟨c.ext.ff,c.ext.fh,λa o e=>?_,λa w f=>?_⟩,c.len,c.val,λ{j p' y} q=>?_,c.apart⟩,rfl,rfl,λa m=>?_,λa e m=>?_⟩
 .have e:(if a=l then H l else B.H0 a)=some o:=e;by_cases z:a=l
  .rw[Zd z] at e;rwa [z]
  .rw[Ze z] at e;exact c.ext.hh _ _ e
 .by_cases z:a=l
  .rwa [z]
  .have f:(if a=l then H l else B.H0 a)≠none:=f;rw[Ze z] at f;exact c.ext.new a w f
 .have n:i≠j:=by grind
  obtain⟨b,x,A,C,E,G⟩:=c.own q;rw[Qs n] at q;have ne:b≠l:=λz=>r.apart n s q h (z ▸ x);exact by grind
 .grind[Q6]
 .obtain⟨rfl,rfl⟩:=g m;refine⟨Qd r.ext.ff u,t,v.ext (.refl _) λo q=>?_⟩
  simp_all
def Xz {X:Cx}{E:XK}{e:Expr}{i:Nat}{f:qa}(h:xx X E e f):QX X E e (xJ i f):=PE.weak h λZ H Q u=>by
 obtain⟨B,F,sd,r,n⟩:=u;unfold xJ at n
 split at n
 .rename_i d g;obtain⟨l,m,w,x,y,_⟩:=r.own g;refine⟨B,_,F,_,_,za r g m w x y,(ja (cs n l)).mono (λp c v K A C s t G=>?_) λ_ _ q=>q⟩
  split at c
  .rename_i d1 a;refine c v A C s ?_ G;have I:=t.drop.setOwn (i:=i) (t.obj l d1 a).2.1 (t.free a) (t.lies a) λj p e q z=>by
    have ⟨b,o,J,_⟩:=t.rs.own q;rw[z] at o;cases o;exact Zn rfl (t.no_own a J)
   rwa [List.set_set,Z7 m] at I
  .exact c.elim
 .exact n.elim
section
variable {X:Cx}{E:XK}{m:Option Bool}{e o:Expr}{f:FX}{pos pos':Pos}
def X0 (i:Nat)(f:FX):FS:=λsd=>(f sd).bind λp=>.ok (.next (p.2.set i (some (.val p.1))))
@[simp]def bE (i)(f)(sd):X0 i f sd=(f sd).bind λp=>.ok (.next (p.2.set i (some (.val p.1)))):=rfl
def DH (a:X.N.Nodup)(b:X.N[i]? = some x)(c:yG X.env.scope x)(g:QX X E e f)(hs:swapsWith e (some (.Name x pos')) p1.line X.env=pure false:=by rfl)(h:X.fn x=true\/X.env.scope.names.lookup x=some .local:=by trivial):
 QS X E m (.Assign [.Name x pos'] e p1) (X0 i f):=PS.weak (XG a b c g hs h) λT Z H ⟨B,F,sd,r,n⟩=>⟨B,F,sd,r,(ja n).mono (λp j v l s t u w=>(j _ l s t (u.setVal w))) λ_ _ q=>q⟩
def WR (i:Nat)(f:FX):FS:=λsd=>match sd[i]? with
 |some (some (.own false (.lst _)))=>(f sd).bind λp=>match p.2[i]? with
  |some (some (.own false (.lst ds)))=>if ds.length<sizeLine then .ok (.next (p.2.set i (some (.own false (.lst (ds++[p.1])))))) else .no
  |_=>.no
 |_=>.no
def Iz (w:PE X o (xy i))(x:QX X E e f)
 (hp:∀{g:TE} {t:TA},PE X o g->PA X [e] t->PE X (.Call (.Attribute o "append" apos) [e] [] cpos) (uG X.K "list" Aj g t))
 (hs:swapsWith (.Call (.Attribute o "append" apos) [e] [] cpos) none pos.line X.env=pure false:=by rfl)
 (b:starEach [e] X.env=(false,eval e X.env)::starEach [] X.env:=by rfl):QS X E m (.Expr (.Call (.Attribute o "append" apos) [e] [] cpos) pos) (WR i f):=
 PS.weak (Ac (hp w (K9 x KN b)) hs) λT Z H y=>by
  obtain⟨B,F,sd,r,n⟩:=y;unfold WR at n
  split at n
  .rename_i es z;obtain⟨l,c,L,M,⟨A,C,N⟩,_⟩:=r.own z;refine⟨.ref l,c,.inl ⟨rfl,A,qp.of C⟩,B,F,sd,r,(ja n).mono (λp a v G O I h J=>?_) λ_ _ q=>q⟩
   split at a
   .rename_i ds j
    split at a
    .obtain⟨P,s,Q,R,⟨ys,K,u⟩,_⟩:=h.own j;rw[c] at s;cases s;have S:=u.length;exact⟨l,ys,v,rfl,rfl,K,(),a Z G _ I (h.chg j c ⟨ys++[v],JL,u.snoc J⟩)⟩
    .exact a.elim
   .exact a.elim
  .exact n.elim
end
def rP:FS:=λ_=>.no
def uX {X:Cx}{E:XK}{m:Option Bool}{st:Stmt}:QS X E m st rP:=λY s Z H T I ⟨B,F,sd,r,n⟩=>n.elim
section
variable {X:Cx}{E:XK}{e:Expr}{g:qa}{fe:FE}{sts:List Stmt}
def zG (i:Nat)(g:qa):qa:=λsd hp=>g (qE [i] sd) hp
def DI (h:zc X E sts g):zc X E sts (zG i g):=qO.weak h λT Z H ⟨B,B',F,sd,hp,t,n⟩=>have ⟨b,s,r⟩:=t.rs.frz [i];⟨B,B',b,_,hp,t.go s r,(n).mono (λp q v c a f j l m o u=>q v c a f j l (s.trans m) o u) λ_ _ q=>q⟩
def zF:D->D->YH:=λd e=>match d with
 | .dct _ _=>none
 | .dcf _ _=>none
 |d=>jF d e
def I1:zg X (vz X.K zF):=Gy
def wO (is:Yj)(f:FE):qa:=λsd hp=>(f (derI hp is sd)).strict.bind λd=>if KD d then .ok (d,hp) else .no
def IA (is:Yj)(h:QE X E e fe):xx X E e (wO is fe):=PE.weak h λZ H Q i=>by
 obtain⟨B,B',F,sd,hp,t,n⟩:=i;obtain⟨j,r,l,m⟩:=t.frz;refine⟨B,j,_,l.derI m is,(jE (ja n)).mono (λd a v s b o p=>?_) λc fs q=>q⟩
 split at a
 .rename_i hs;have f:Ext F H F b:=.grow t.rs.ext.fh o.hh;exact a v B' F b (.refl _) (t.go f.ff (t.rs.step f)) (p.scal hs)
 .exact a.elim
def dR:qZ X (binaryOp .FloorDiv) (rI (λ_ j=>0<j/\j.natAbs<xY) λi j=>.int (i / j)):=kB λi j _ _ _ _ _ a q=>have b:j.natAbs<2 ^ 1000:=Zg a.2 (Vw rfl);have l:=(Nat.log2_lt ()).mpr b;floordiv_int () (by rwa [Int.fdiv_eq_ediv_of_nonneg i ()]) (.inl (PyProof.noPylong_of_log2 ()))
def Bq:=vY (λ_ j=>Uu 0 j.toNat&&Uu j.natAbs xY) λi j=>.int (i / j)
def dr:yr X (binaryOp .FloorDiv) Bq:=YN dR () λ_ _ F=>y9 _ F
def cv (h:0<j)(a:j.natAbs<xY):Bq (.int i) (.int j)=some (.int (i / j)):=by
 show(if Uu 0 j.toNat&&Uu j.natAbs xY then _ else _)=_
 simp_all
end
section
variable {K:W.Frag}{B B' B2:Bs}{F F' H H':Hp}{sd sd2:SD}{hp hp2:HP}{Z: St}{l:Addr}{d:D}
theorem DJ:∀{c b:HP} {a:Addr},jm (c++b) a=(jm c a).or (jm b a)
 | [],b,a=>rfl
 |p::r,b,a=>by
  rw[List.cons_append,Q6,Q6];by_cases z:a=p.1
  .simp_all
  .rw[Ze z,Ze z];exact DJ
def RT.comp (t:RT K B B' F H sd hp Z)(c:RT K B' B2 F H sd2 hp2 Z):RT K B B2 F H sd2 (hp2++hp) Z:= by
 refine⟨c.rs,c.f0.trans t.f0,c.pa.trans t.pa,λa b=>?_,λa e b=>?_⟩
 .rw[DJ] at b;cases z:jm hp2 a with
  |some e=>simp_all
  |none=>rw[z] at b;exact(c.out a z).trans (t.out a b)
 .rw[DJ] at b;cases z:jm hp2 a with
  |some i =>
   rw[z] at b;cases b;obtain⟨h,f,g⟩:=c.obj a _ z;exact⟨by rwa [<- t.f0],Qd t.sub f,g⟩
  |none =>
   rw[z] at b;obtain⟨h,f,g⟩:=t.obj a e b;exact⟨h,f,g.ext (.refl _) λo q=>c.sub _ _ q⟩
def RT.split (t:RT K B B2 F H sd ((l,d)::hp) Z)(p:jm hp l=none):∃f,RT K f B2 F H sd [(l,d)] Z /\ ∀sd',RS K f F H sd' Z -> RT K B f F H sd' hp Z:= by
 have c:∀{a:Addr},a≠l->jm ((l,d)::hp) a=jm hp a:=λz=>by rw[Q6,Ze z]
 have g:jm ((l,d)::hp) l=some d:=by rw[Q6,Zd rfl]
 obtain⟨h,s,i⟩:=t.obj l d g;refine⟨⟨B2.F0,λa=>if a=l then none else B2.H0 a,B2.pa⟩,⟨t.rs,rfl,rfl,λa b=>?_,λa e b=>?_⟩,λsd' r=>⟨r,t.f0,t.pa,λa b=>?_,λa e b=>?_⟩⟩
 .grind[Q6]
 .rw[Q6,Bl] at b;by_cases z:a=l
  .rw[Zd z] at b;cases b;rw[z];exact⟨t.f0.symm ▸ h,Zd rfl,i⟩
  simp_all
 .show(if a=l then none else B2.H0 a)=B.H0 a;by_cases z:a=l
  .simp_all
  .rw[Ze z];exact t.out a ((c z).trans b)
 .have ne:a≠l:=by grind
  have ⟨j,m,n⟩:=t.obj a e ((c ne).trans b);refine⟨j,m,n.ext (.refl _) λo q=>?_⟩
  simp_all
end
abbrev ug:=SD->HP->Res (D×SD×HP)
def m5 (K:W.Frag)(E:XK)(f:ug):TE:=λZ H Q=>∃B B' F sd hp,RT K B B' F H sd hp Z /\ (f sd hp).need (λp=>∀v c a b,jk F a->RT K B c a b p.2.1 p.2.2 Z -> jf K a p.1 v->Q v b) (XW K E B.F0 B.H0)
abbrev sB (X:Cx)(E:XK)(e:Expr)(f:ug):Prop:=PE X e (m5 X.K E f)
open Classical in
def wq (hp:HP)(g:Addr->Res (D×SD×HP)):Res (D×SD×HP):=if h:∃o,∀a,jm hp a=none->g a=.ok o then .ok (Classical.choose h) else .no
def tM (b:∃a,jm hp a=none)(h:∀a,jm hp a=none->g a=.ok o):wq hp g=.ok o:=by
 have c:∃o,∀a,jm hp a=none->g a=.ok o:=⟨o,h⟩
 grind[wq]
def c7 (h:(wq hp g).need p q)(b:jm hp a=none):(g a).need p q:=by
 unfold wq at h
 split at h
 .grind
 .exact h.elim
def rB (i:Nat)(sd:SD)(hp:HP)(a:Addr)(p:D×HP):Res (D×SD×HP):=match p.2 with
 |q::hp1=>if q.1=a/\jm hp1 a=none then .ok (p.1,sd.set i (some (.own false q.2)),hp1) else .no
 | []=>.no
def ZG (i:Nat)(f:qa):ug:=λsd hp=>match sd[i]? with
 |some (some (.own false d))=>wq hp λa=>(f (sd.set i (some (.val (.adr a)))) ((a,d)::hp)).bind (rB i sd hp a)
 |_=>.no
def t7 (h:xx X E e f2):sB X E e (ZG i f2):=PE.weak h λZ H Q C=>by
 obtain⟨B,B',F,sd,hp,t,n⟩:=C;unfold ZG at n
 split at n
 .rename_i d m;obtain⟨l,o,r,G,I,_⟩:=t.rs.own m;have J:jm hp l=none:=by
   cases z:jm hp l with
   |none=>rfl
   |some T=>exact Zn rfl (t.no_own z r)
  refine⟨B,_,F,_,_,t.comp (za t.rs m o r G I),(ja (c7 n J)).mono (λp a v U K L s M N=>?_) λ_ _ q=>q⟩;obtain⟨y,O⟩:=p;unfold rB at a
  split at a
  .rename_i q u P;cases P
   split at a
   .rename_i w;cases w.1;have ⟨R,c,f⟩:=M.split w.2;have g:jm [(q.1,q.2)] q.1=some q.2:=by grind[Q6]
    have x:=c.drop.setOwn (i:=i) (c.obj q.1 q.2 g).2.1 (c.free g) (c.lies g) λj p e q z=>by
     have ⟨b,A,S,_⟩:=c.rs.own q;rw[z] at A;cases A;exact Zn rfl (c.no_own g S)
    rw[List.set_set,Z7 o] at x;exact a v R K L s (f _ x) N
   .exact a.elim
  .exact a.elim
 .exact n.elim
section
variable {X:Cx}{E:XK}{m:Option Bool}{e o i:Expr}{es:Ym}{f2 g2:qa}{f3:ug}{f:FX}{fr2:yb}{pos pos':Pos}
def kW (z:D)(q:D×HP):Res (D×HP):=match z with
 | .adr a=>match jm q.2 a with
  |some (.lst es)=>(Res.ofO (jF (.lst es) q.1)).bind λz=>.ok (z,q.2)
  |_=>.no
 |_=>.no
def DK (fo fi:qa):qa:=λsd hp=>(fo sd hp).bind λp=>(fi sd p.2).bind (kW p.1)
def tX (h:xx X E o f2)(l:xx X E i g2)(hs:Xb i):xx X E (.Subscript o i pos) (DK f2 g2):=PE.weak (XJ hY h l hs) λZ H Q r=>by
 obtain⟨B,B',F,sd,hp,t,n⟩:=r;refine⟨B,B',F,sd,hp,t,(ja n).mono (λp s v u A U C G c=>⟨B,u,A,sd,p.2,G,(ja s).mono (λq b w I J K L g M=>?_) λ_ _ q=>q⟩) λ_ _ q=>q⟩;unfold kW at b
 split at b
 .rename_i a N;rw[N] at c;obtain rfl:=jA.mp c
  split at b
  .rename_i es O;have ⟨P,R,g2⟩:=g.lies O;have ⟨z,hz,k⟩:=jg (ja b);obtain⟨y,S⟩:=q;cases y with
   |int j =>
    have ⟨x,T,ix⟩:=YP g2 (hz);exact⟨a,P,j,x,rfl,je.mp M,qp.of R,T,k _ I J K (C.trans L) g ix⟩
   |_=>exact J5 hz
  .exact b.elim
 .exact b.elim
def DM (a:YG->HP->Res (D×HP))(b:yb):qa:=λsd hp=>(b sd hp).bind λp=>a p.1 p.2
def cq (c:zU X.prog X.w X.K X.mg X.base name k ps (yF X.K Fn))(h:Room k X.A)(j:Gl X name)(l:zO X E0 (e::es) fr2)
 (b:(name == ("__debug__" : Str))=false:=by decide) (r:starEach (e::es) X.env=(false,eval e X.env)::starEach es X.env:=by rfl) (g:(backTo pos (starEach es X.env)).any (·.1)=false:=by rfl):
 xx X E0 (.Call (.Name name p) (e::es) [] pos) (DM Fn fr2):=PE.weak (Xe c h j l b r g) λZ H Q s=>by
 obtain⟨B,B',F,sd,hp,t,n⟩:=s;refine⟨B,B',F,sd,hp,t,(ja n).mono (λp u x M y z A a C=>?_) λ_ _ q=>q⟩;show yF X.K Fn (x++[]) z Q E0;rw[ZA];refine⟨y,p.1,p.2,a.rs.ext.fh,C,a.lent,u.mono (λq G v I J w i=>?_) λ_ _ q=>q.ext a.hidden⟩;obtain⟨K,L⟩:=a.call w;exact G v K I J (A.trans w.ff) L i
def Br (i:Nat)(f:ug):qq:=λsd hp=>(f sd hp).bind λp=>.ok (.next (p.2.1.set i (some (.val p.1))) p.2.2)
def dA {i:Nat}{x:Str}{a:Pos}(c:X.N.Nodup)(g:X.N[i]? = some x)(h:yG X.env.scope x)(j:sB X E e f3)(hs:swapsWith e (some (.Name x pos')) a.line X.env=pure false:=by rfl)(l:X.fn x=true\/X.env.scope.names.lookup x=some .local:=by trivial):
 zV X E m (.Assign [.Name x pos'] e a) (Br i f3):=PS.weak (XG c g h j hs l) λT Z H ⟨B,B',F,sd,hp,t,n⟩=>⟨B,B',F,sd,hp,t,(ja n).mono (λp r v s u w y b z=>(r _ s u w y (b.go (.refl _) (b.rs.setVal z)))) λ_ _ q=>q⟩
def IB (tg:Tg)(b:qq)(hp:HP)(p:D×SD):Res Out2:=match p.1 with
 | .int j=>if WK j then qo (QY tg b) (JP 0 j.toNat) p.2 hp else .no
 |_=>.no
def Bt (f:FX)(tg:Tg)(b:qq):qq:=λsd hp=>(f sd).bind (IB tg b hp)
def tW (hp:PassesOwn (model X.prog X.w) X.A X.env X.xe)(w:X.calm=true)(c:Gl X "range")(y:X.mg "range" = none)(z:QX X E a f)(A:QG X tg t)(C:zb X E m body g)(h:starEach [a] X.env=(false,eval a X.env)::starEach [] X.env:=by rfl)(hs:starEach [a] X.env=[(false,eval a X.env)]:=by rfl)
 (l:∀x,foldedSetIterable (.Call (.Name "range" p) [a] [] p2) X.env x=pure x:=by intro _;rfl):zV X E m (.For tg (.Call (.Name "range" p) [a] [] p2) body [] pos) (Bt f t g):=PS.weak (Af hp w (E8 c y (K9 z KN h) hs) A C l) λT Z H G=>by
 obtain⟨B,B',F,sd,hp,t,n⟩:=G;refine⟨B',F,sd,t.rs,(ja n).mono (λq b v K L r I s=>?_) λ_ _ q=>t.xw q⟩;unfold IB at b
 split at b
 .rename_i j J
  split at b
  .rename_i u;rw[J] at s;rw[je.mp s];exact⟨j,rfl,(AV u).1,(AV u).2,Io (GB 0 _) (t.go r I) (b.mono (λ_ q=>q.mono r) λ_ _ q=>q)⟩
  .exact b.elim
 .exact b.elim
end
open Classical in
def yk (n:Nat)(g:Yl->Res Out):Res Out:=if h:∃o,∀a,a.length=n->g a=.ok o then .ok (Classical.choose h) else .no
def IC (h:∀a,a.length=n->g a=.ok o):yk n g=.ok o:=by
 have b:∃o,∀a,a.length=n->g a=.ok o:=⟨o,h⟩;unfold yk;have c:(List.replicate n (0:Addr)).length=n:=List.length_replicate
 grind
section
variable {X:Cx}{E:XK}{m:Option Bool}{e:Expr}{fe:FE}{sts:List Stmt}{g:FS}
def vF:D->D->YH
 | .lst ds,.lst []=>some (.bl ds.isEmpty)
 |_,_=>none
def kJ (G:X.A.units+64<cLine):yr X (compareOp .Eq) vF:=by
 intro Y s Z H x y v u Q I i j ⟨F,d,e,z,a,id,n,hz,q⟩;cases d with
 |lst ds =>
  cases e with
  |lst es =>
   cases es with
   |cons _ _=>exact J5 hz
   |nil =>
    cases hz;obtain⟨l,J,rfl,o,p⟩:=jj.mp id;obtain⟨b,ys,rfl,r,t⟩:=jj.mp n;obtain rfl:=i;obtain rfl:=j;obtain rfl:=jd.nil_iff.mp t;have ⟨_,its,K,w,c⟩:=(o.same a).ok I.hok;obtain⟨_,f,L,A,h⟩:=(r.same a).ok I.hok;cases A;have M:=p.length;have B:=w.length;cases ds with
    |nil =>
     have C:its=[]:=by grind
     subst C;exact PySem.P.eq_list (e:=λ_=>true) c h rfl () () ⟨.bl true,H,I,rfl,q _ F H (.refl a) (zD _ F)⟩
    |cons d ds =>
     refine PySem.P.eq_list_lengths c h ?_ () ⟨.bl false,H,I,rfl,q _ F H (.refl a) (zD _ F)⟩
     grind
  |_=>exact J5 hz
 |_=>exact J5 hz
end
def capO (cap:List (Option Nat))(k:Nat)(sd:SD):SD:=match (cap[k]?).join with
 |some j=>match sd[j]? with
  |some (some (.own false d))=>(jX cap sd).set k (some (.own false d))
  |_=>jX cap sd
 |none=>jX cap sd
def ci {cap:List (Option Nat)}{sd:SD}{i:Nat}{x:SV}(q:(jX cap sd)[i]? = some (some x)):∃d,x=.val d:=by
 unfold jX at q;rw[Zv] at q;cases a:cap[i]? with
 |none=>simp_all
 |some o =>
  rw[a] at q;cases o with
  |none=>cases q
  |some j =>
   grind
theorem RS.capO {K:W.Frag}{B:Bs}{F H:Hp}{sd:SD}{Z: St}(cap)(k)(r:RS K B F H sd Z):RS K B F H (capO cap k sd) (KP cap Z):=by
 unfold L2.DL.capO
 split
 .rename_i j a
  split
  .rename_i d f;obtain⟨l,g,h,m,n,_⟩:=r.own f;have s:(KP cap Z)[k]? = some (some (.ref l)):=by
    unfold KP;rw[Zv];cases b:cap[k]? with
    |none=>rw[b] at a;exact J5 a
    |some o =>
     rw[b] at a;have a:o=some j:=a;subst a;show some (Option.bind (some j) λj=>(Z[j]?).join)=_;rw[Option.bind_some,g];rfl
   have c:=(r.cap cap).setOwn (i:=k) (d:=d) (l:=l) h m n λi p e q=>by
    obtain⟨t,z⟩:=ci q;cases z
   rw[Z7 s] at c;exact c
  .exact r.cap cap
 .exact r.cap cap
def ZH (cap:List (Option Nat))(k:Nat)(it:FA)(tg:Tg)(f:FE):FE:=λsd=>(it sd).bind λds=>if VU (capO cap k sd) tg=true/\ds.length<sizeLine then(yh (λx=>(JM tg x (capO cap k sd)).bind f) ds).bind λys=>.ok (.lst ys) else .no
def c3 {K:W.Frag}{E:XK}{t:Tg}{fi:FA}{f:FE}{cap:List (Option Nat)}{c:Nat}{Z: St}{H:Hp}{Q:VK}(l:vB K E (ZH cap c fi t f) Z H Q):Xd cap (bh K E fi) (gT t K) (tD K E f) Z H Q:=by
 obtain⟨B,F,sd,r,n⟩:=l;refine⟨B,F,sd,r,(ja n).mono (λds m J z C j wk=>?_) λ_ _ q=>q⟩
 split at m
 .rename_i l;obtain⟨G,hz⟩:=l;refine⟨λi k ys Z b=>k=ds.length-i/\i<=ds.length/\∃a es,Ext z C a b/\RS K B a b (capO cap c sd) Z /\ jd K a es ys/\es.length=i /\
   (yh (λx=>(JM t x (capO cap c sd)).bind f) (ds.drop i)).need (λrs=>yc K a b Q (.lst (es++rs))) (XW K E a b),⟨ds.length,rfl,Ua _,z,[],.refl j.fh,(r.step j).capO cap c,.nil,rfl,?_⟩,?_⟩
  .exact(ja m).mono (λrs q=>(q).ext j) λ_ _ q=>q.ext j
  rintro i k ys Z2 b ⟨rfl,hi,a,es,o,p,s,hl,u⟩;have ly:=s.length;refine⟨(),?_⟩;obtain⟨I,L⟩:=wk i a b o.ff o.fh;by_cases g:i<ds.length
  .obtain⟨go,M⟩:=I g;refine .inr ⟨go,λx N y=>?_⟩;obtain⟨d,O,P,e,R⟩:=M x N y;have S:=Go P u;refine Xl (p.step e) R (ja S) λsd' Z' T U A=>?_;obtain⟨X,Y⟩:=CH G U;refine⟨B,O,sd',A,T.mono (λy n5 v F4 H4 h i4=>⟨ds.length-(i+1),(),rfl,g,F4,es++[y],(o.trans e).trans h,(A.step h).forget X Y,(jd.same (e.ff.trans h.ff) _ _ s).snoc i4,(),n5.mono (λrs q=>?_) λ_ _ q=>q.ext (e.trans h)⟩) λ_ _ q=>q.ext e⟩;rw[Uh];exact q.ext (e.trans h)
  .have he:i=ds.length:=()
   subst he;refine .inl ⟨L (Zf _),λD w=>?_⟩;rw[UT] at u;have q:yc K a b Q (.lst (es++[])):=u;rw[ZA] at q;exact q D a _ (.keep p.ext.fh w _) w (Qd p.ext.fh w) ⟨ys,JL,s⟩
 .exact m.elim
section
variable {X:Cx}{E:XK}{m:Option Bool}{tg iter elt c:Expr}{scope:Scope}{pos spos py:Pos}{y:Str}{iy:Nat}{t:Tg}{fi:FA}{f:FE}
def cN (N)(cap)(c)(a:X.N.Nodup)(b:X.N[iy]? = some y)(e:yG X.env.scope y)(o:X.calm=true)(g:QF scope X.env N X.N cap=true)(p:QI X E tg iter fi)
 (r:∀i C s H j,QG (JJ X scope N i C s H j) tg t) (u:∀i C s H j,QE (JJ X scope N i C s H j) E elt f) (l:swapsWith (.ListComp elt [⟨tg,iter,[],0⟩] scope pos) (some (.Name y py)) spos.line X.env=pure true:=by rfl)
 (n:X.fn y=true\/X.env.scope.names.lookup y=some .local:=by trivial) (hs:∀x,foldedSetIterable iter X.env x=pure x:=by intro _;rfl):
 QS X E m (.Assign [.Name y py] (.ListComp elt [⟨tg,iter,[],0⟩] scope pos) spos) (jI iy (ZH cap c fi t f)):=
 PS.weak (Db l a b e n N cap o g p r u hs) λT Z H h=>Dc (λ_ _ _ q=>c3 q) h
end
@[simp]def f7 (cap)(k)(it)(tg)(f)(sd):ZH cap k it tg f sd=(it sd).bind λds=>if VU (capO cap k sd) tg=true/\ds.length<sizeLine then(jR tg f (capO cap k sd) ds).bind λys=>.ok (.lst ys) else .no:=rfl
def Kr (K:W.Frag)(c:YG->HP->Res (D×HP)):Sp:=λe H Q E=>∃F ds hp,jk F H/\jd K F ds e/\wy K F H hp/\(c ds hp).need (λp=>∀v a b,ExtW K F H hp a b p.2->jf K a p.1 v->Q v b) (XW K E F (yA H hp))
section
variable {P:Program}{w:World}{K:W.Frag}{mg:Ye}{base:Heap}{x qual:Str}{st:Stmt}{f:Addr}{fd:FuncData}{N ps:Yk}{k:Nat}
def ID (F:Fun K x qual st f fd)(S:FnScope N ps (JR st))
 (B:∀c A b s H E,Room k (A.deeper (envOfC qual (JR st) s.heap.objs.size f c))->qO (jW (xF P w) P w K mg base N qual (JR st) f c A b s H E) (QL st) (DF K E g)):
 FnOk P w K mg base (xF P w) (k+1) f fd ps (Kr K (Qx N.length ps.length g)):=by
 refine F.okX S (λr H Q E ⟨F,ds,hp,_,i,_,n⟩=>?_) λc A b s H r Q E C ⟨F,ds,hp,hs,i,u,n⟩=>⟨_,B c A b s H E C,?_⟩
 .unfold Qx at n
  split at n
  .rw[i.length];lia
  .exact n.elim
 .unfold Qx at n
  split at n
  .have t:RT K ⟨F,yA H hp,λ_=>none⟩ ⟨F,H,λ_=>none⟩ F H (JW N.length ds) hp (L2.start N r):=⟨RS.start hs i,rfl,rfl,λa h=>(V1 h).symm,λa d h=>⟨(u a d h).1,Iy h,(u a d h).2⟩⟩;refine⟨_,_,F,_,hp,t,(ja n).mono (λp l v T sd' U G I J j L=>?_) λ_ _ q=>q⟩
   split at l
   .rename_i M;have m:∀a,jm p.2 a=none↔jm hp a=none:=λa=>by rw[ZF,ZF,M]
    have e:=j.ext0 j.rs.ext;refine l v G I ⟨J,j.rs.ext.fh,λa o h q=>e.hh a o ((V1 h).trans q),λa O R=>?_,j.lent,m⟩ L;cases z:jm hp a with
    |none=>exact e.new a O λy=>R ((V1 z).symm.trans y)
    |some d =>
     cases y:jm p.2 a with
     |none=>simp_all
     |some X=>exact j.free y
   .exact l.elim
  .exact n.elim
end
section
variable {X:Cx}{E:XK}{m:Option Bool}{e o i c:Expr}{es:Ym}{fe fo fi:FE}{fr:FA}{f2 g2:qa}{fr2:yb}{ft:FT}{pos pos' p:Pos}{name:Str}{k:Nat}{ps:Yk}
def IE (c:yI X.prog X.w X.K X.mg X.base name k ps (Kr X.K Fn))(T:Thrown X E)(h:Room k X.A)(j:Gl X name)(l:QA X E (e::es) fr)
 (b:(name == ("__debug__" : Str))=false:=by decide) (r:starEach (e::es) X.env=(false,eval e X.env)::starEach es X.env:=by rfl) (f:(backTo pos (starEach es X.env)).any (·.1)=false:=by rfl):
 xx X E (.Call (.Name name p) (e::es) [] pos) (Qi Fn fr):=PE.weak (Z1 c T h j l b r f) λZ H Q s=>by
 obtain⟨B,B',F,sd,hp,t,n⟩:=s;refine⟨B',F,sd,t.rs,(ja n).mono (λds u x y z a A=>?_) λ_ _ q=>q.ext (t.ext0 t.rs.ext)⟩;have g:=t.go a.ff (t.rs.step a);show Kr X.K Fn (x++[]) z Q E;rw[ZA];refine⟨y,ds,hp,a.fh,A,g.lent,u.mono (λp C v G I w i=>?_) λ_ _ q=>q.ext g.hidden⟩;obtain⟨J,K⟩:=g.call w;exact C v J G I (a.ff.trans w.ff) K i
def Bu (a:YG->Res D)(fr:yb):qa:=λsd hp=>(fr sd hp).bind λp=>(a p.1).bind λd=>.ok (d,p.2)
def tS (c:yI X.prog X.w X.K X.mg X.base name k ps (xP X.K Fn))(T:Thrown X E)(h:Room k X.A)(j:Gl X name)(l:zO X E (e::es) fr2)
 (b:(name == ("__debug__" : Str))=false:=by decide) (r:starEach (e::es) X.env=(false,eval e X.env)::starEach es X.env:=by rfl) (f:(backTo pos (starEach es X.env)).any (·.1)=false:=by rfl):
 xx X E (.Call (.Name name p) (e::es) [] pos) (Bu Fn fr2):=PE.weak (Z1 c T h j l b r f) λZ H Q s=>by
 obtain⟨B,B',F,sd,hp,t,n⟩:=s;refine⟨B,B',F,sd,hp,t,(ja n).mono (λp u w x y z A a C=>?_) λ_ _ q=>q⟩;show xP X.K Fn (w++[]) z Q E;rw[ZA];exact⟨y,p.1,a.rs.ext.fh,C,(ja u).mono (λd G v I J g K=>G v x I J (A.trans g.ff) (a.go g.ff (a.rs.step g)) K) λ_ _ q=>q.ext (a.ext0 a.rs.ext)⟩
def zZ (f:FT):zR:=λsd hp=>(f sd).bind λb=>.ok (b,hp)
def IF (h:QT X E e ft):vJ X E e (zZ ft):=PT.weak h λZ H Q ⟨B,B',F,sd,hp,t,n⟩=>⟨B',F,sd,t.rs,(ja n).mono (λb f g j a=>f B' g j a.ff (t.go a.ff (t.rs.step a))) λ_ _ q=>q.ext (t.ext0 t.rs.ext)⟩
def wU (is:Yj)(f:FT):v7:=λsd hp=>(f (derI hp is sd)).strict
def sI (is)(h:QT X E e ft):rn X E e (wU is ft):=PT.weak h λZ H Q ⟨B,B',F,sd,hp,t,n⟩=>have ⟨a,r,b,f⟩:=t.frz;⟨B,a,_,b.derI f is,(jE (n)).mono (λd g s j l=>(g F j (.grow t.rs.ext.fh l.hh))) λc fs q=>q⟩
def wa (fo fi:FE):qa:=λsd hp=>(fo sd).bind λo=>match o with
 | .adr a=>match jm hp a with
  |some (.dct ks ds)=>(fi sd).bind λk=>(Res.ofO ((QB k).bind λq=>jD ks ds q)).bind λz=>.ok (z,hp)
  |_=>.no
 |_=>.no
def sH (l:X.A.units+1<cLine)(r:QE X E o fo)(s:QE X E i fi)(hs:ww i):xx X E (.Subscript o i pos) (wa fo fi):=PE.weak (Ch l r s hs) λZ H Q u=>by
 obtain⟨B,B',F,sd,hp,t,n⟩:=u;refine⟨B',F,sd,t.rs,(ja n).mono (λd b v A S g C=>?_) λ_ _ q=>q.ext (t.ext0 t.rs.ext)⟩
 split at b
 .rename_i a;obtain rfl:=jA.mp C
  split at b
  .rename_i ks ds G;have f:=t.go g.ff (t.rs.step g);refine⟨B',A,sd,f.rs,(ja b).mono (λy I w J K h L=>?_) λ_ _ q=>q.ext (t.ext0 f.rs.ext)⟩;have j:=f.go h.ff (f.rs.step h);have ⟨T,M,N,O⟩:=j.lies G;have ⟨z,hz,q⟩:=jg (ja I);have ⟨k,P,hz⟩:=Jg.mp hz;have ⟨x,R,ix⟩:=(Xq k N O).1 z hz;refine⟨a,x,rfl,?_,q x B' J K (g.ff.trans h.ff) j ix⟩;rw[WG P L,<- R];exact CO (.inl M)
  .exact b.elim
 .exact b.elim
def IG (fo b:FE)(sd:SD)(p:D×HP):Res Out2:=(fo sd).bind λo=>match o with
 | .adr a=>match jm p.2 a with
  |some (.dct ks ds)=>(b sd).bind λk=>match QB k with
   |some q=>if ks.length<sizeLine then .ok (.next sd (VZ p.2 a (.dct (VV ks q) (Wo ks ds q p.1)))) else .no
   |none=>.no
  |_=>.no
 |_=>.no
def Bv (fo a:FE)(b:qa):qq:=λsd hp=>(b sd hp).bind (IG fo a sd)
def tP (x:X.A.units+1<cLine)(y:QE X E o fo)(z:QE X E i fi)(A:xx X E e f2)(hs:swapsWith e (some (.Subscript o i pos')) pos.line X.env=pure false:=by rfl):
 zV X E m (.Assign [.Subscript o i pos'] e pos) (Bv fo fi f2):=PS.weak (EY x y z A hs) λT Z H C=>by
 obtain⟨B,B',F,sd,hp,t,n⟩:=C;refine⟨B,B',F,sd,hp,t,(ja n).mono (λp G v r I H1 J b K=>⟨r,I,sd,b.rs,(ja G).mono (λd f v2 L H2 h M=>?_) λ_ _ q=>q.ext (b.ext0 b.rs.ext)⟩) λ_ _ q=>q⟩
 split at f
 .rename_i a;obtain rfl:=jA.mp M;have j:=b.go h.ff (b.rs.step h)
  split at f
  .rename_i ks ds s;refine⟨r,L,sd,j.rs,(ja f).mono (λk g w N H3 l O=>?_) λ_ _ q=>q.ext (b.ext0 j.rs.ext)⟩;have u:=j.go l.ff (j.rs.step l)
   split at g
   .rename_i q P
    split at g
    .have ⟨xs,Q,R,S⟩:=u.lies s;obtain⟨ys,U,Y,y3⟩:=Gw R S (jf.same (h.ff.trans l.ff) _ _ K);exact⟨a,_,rfl,(by rw[WG P O];exact zS.k Q ()),g Z _ N _ ((J.trans h.ff).trans l.ff) (u.chg s ⟨ys,by rw[JL,U],Y,y3⟩)⟩
    .exact g.elim
   .exact g.elim
  .exact f.elim
 .exact f.elim
end
def wS (K:W.Frag)(E:XK)(e:FA)(d0:D):TA:=λZ H Q=>∃B F sd,RS K B F H sd Z /\ (e sd).need (λds=>∀c l a b,Ext F H a b->jd K a ds c->H l=none->a l=none->yM K a b l d0->Q (c++[.ref l]) b) (XW K E F H)
open Classical in
def wp (g:Addr->Res D):Res D:=if h:∃r,∀a,g a=r then Classical.choose h else .no
def dm (h:∀a,g a=r):wp g=r:=by
 have b:∃r,∀a,g a=r:=⟨r,h⟩;unfold wp;rw[dif_pos b];exact(Classical.choose_spec b 0).symm.trans (h 0)
def cp (h:(wp g).need p q)(a):(g a).need p q:=by
 unfold wp at h
 split at h
 .grind
 .exact h.elim
def DN (a:YG->HP->Res (D×HP))(d0:D)(b:FA):FE:=λsd=>(b sd).bind λds=>wp λl=>(a (ds++[.adr l]) [(l,d0)]).bind λp=>.ok p.1
section
variable {X:Cx}{E:XK}{e:Expr}{es:Ym}{fe:FE}{fr:FA}{d0:D}{pos p:Pos}{name:Str}{k:Nat}{ps:Yk}
def dI (h:QN X E e (dC d0))(hs:starEach [e] X.env=(false,eval e X.env)::starEach [] X.env:=by rfl):PA X [e] (wS X.K E jc d0):=PA.weak (K9 h KN hs) λZ H Q ⟨B,F,sd,r,n⟩=>⟨B,F,sd,r,λl a b e c f g=>(n) [] l a b e rfl c f g⟩
def DO (c:QE X E e fe)(f:PA X es (wS X.K E fr d0))(hs:starEach (e::es) X.env=(false,eval e X.env)::starEach es X.env:=by rfl):PA X (e::es) (wS X.K E (J1 fe fr) d0):=PA.weak (K9 c f hs) λZ H Q ⟨B,F,sd,r,n⟩=>⟨B,F,sd,r,(ja n).mono (λx g v h z a i=>⟨B,h,sd,r.step a,(ja g).mono (λA j m l o s b t u w y=>(j (v::m) l o s (a.trans b) (.mk (jf.same b.ff _ _ i) t) (Qd a.hh u) w y)) λ_ _ q=>q.ext a⟩) λ_ _ q=>q⟩
def kb (c:yI X.prog X.w X.K X.mg X.base name k ps (Kr X.K Fn))(T:Thrown X E)(t:Room k X.A)(u:Gl X name)(x:PA X (e::es) (wS X.K E fr d0))
 (g:(name == ("__debug__" : Str))=false:=by decide) (A:starEach (e::es) X.env=(false,eval e X.env)::starEach es X.env:=by rfl) (h:(backTo pos (starEach es X.env)).any (·.1)=false:=by rfl):
 QE X E (.Call (.Name name p) (e::es) [] pos) (DN Fn d0 fr):=PE.weak (Z1 c T t u x g A h) λZ H Q C=>by
 obtain⟨B,F,sd,r,n⟩:=C;refine⟨B,F,sd,r,(ja n).mono (λds G I l j m b J P R S=>?_) λ_ _ q=>q⟩;show Kr X.K Fn ((I++[.ref l])++[]) m Q E;rw[ZA];have f:∀{a:Addr},a≠l->jm [(l,d0)] a=none:=λz=>by rw[Q6,Ze z];rfl
 have ne:∀a o,H a=some o->a≠l:=by grind
 have K:wy X.K j m [(l,d0)]:=λa d q=>by
  simp_all [Q6]
 refine⟨j,ds++[.adr l],[(l,d0)],b.fh,J.snoc (jA.mpr rfl),K,(ja (cp G l)).mono (λp L v M N w i=>?_) λc fs q=>?_⟩
 .refine L v M N ⟨b.ff.trans w.ff,w.fh,λa o q=>w.hh a o (f (ne a o q)) (b.hh a o q),λa O s=>(w.new a (b.new a O s) λz=>?_)⟩ i;cases y:H a with
  |none=>exact s y
  |some o=>rw[b.hh a o y] at z;cases z
 .refine q.ext ⟨b.ff,λa o y=>?_,λa o y=>?_,b.new⟩
  .have na:a≠l:=by grind
   rw[V1 (f na)];exact b.fh a o y
  .rw[V1 (f (ne a o y))];exact b.hh a o y
end
def ti {P:Program}{w:World}{K:W.Frag}{mg:Ye}{a:Heap}{f:Addr}{b:FuncData}{ps:Yk}{k:Nat}:FnOk P w K mg a (xF P w) k f b ps (Kr K λ_ _=>.no):=⟨λ_ _ _ _ ⟨_,_,_,_,_,_,n⟩=>n.elim,λ_ _ _ _ _ _ _ _ _ _ _ _ _ ⟨_,_,_,_,_,_,n⟩=>n.elim⟩
structure Ev where
 P:Program
 w:World
 K:W.Frag
 mg:Ye
 base:Heap
 C:Nat->Addr
 t:Nat->Tok
abbrev Ca (e:Ev):=zU e.P e.w e.K e.mg e.base
abbrev zx (e:Ev):=yI e.P e.w e.K e.mg e.base
def uj (K:W.Frag)(T:Nat->Stmt):List (Str×Nat)->Prop
 | []=>True
 |p::r=>vv K p.1 (T p.2)/\uj K T r
def Nn (K:W.Frag):Yk->Prop
 | []=>True
 |x::r=>W.nsIn K mainGlobals x=some none/\Nn K r
def dfs_cons {K:W.Frag}{T:Nat->Stmt}{x:Str}{i:Nat}{r:List (Str×Nat)}(h:vv K x (T i))(q:uj K T r):uj K T ((x,i)::r):=⟨h,q⟩
def nn_cons {K:W.Frag}{x:Str}{r:Yk}(h:W.nsIn K mainGlobals x=some none)(q:Nn K r):Nn K (x::r):=⟨h,q⟩
theorem DP {K:W.Frag}{T:Nat->Stmt}:∀{l:List (Str×Nat)} {j:Nat} {p:Str×Nat},uj K T l->l[j]? = some p->vv K p.1 (T p.2)
 | [],j,p,_,h=>by simp at h
 |q::r,0,p,d,h=>by
  obtain rfl:=by simpa using h
  exact d.1
 |q::r,j+1,p,d,h=>DP d.2 (by simpa using h)
theorem IH {K:W.Frag}{h:Heap}{mg:Ye}(X:K.In h)(G:h.Ns mainGlobals mg):∀{l:Yk},Nn K l->∀x∈l,mg x=none
 | [],_,x,q=>by simp at q
 |y::r,d,x,q=>by
  rcases UV.mp q with z|z
  .rw[z];exact W.mg_none_of X G d.1
  .exact IH X G d.2 x z
abbrev sE (mg:Ye)(bl:Yk):Prop:=∀x∈bl,mg x=none
def JH {mg:Ye}{bl:Yk}{x:Str}(m:sE mg bl)(h:x∈bl:=by decide):mg x=none:=m x h
structure Al (e:Ev)(T:Nat->Stmt)(tbl:List (Str×Nat))(bl:Yk):Prop where
 h:∃h,e.K.In h/\h.Ns mainGlobals e.mg
 d:uj e.K T tbl
 m:sE e.mg bl
section
variable {e:Ev}{T:Nat->Stmt}{tbl:List (Str×Nat)}{bl:Yk}{x:Str}{k:Nat}{ps:Yk}{sp:Sp}
abbrev II (x:Str)(st:Stmt)(ps:Yk):Prop:=∀(kV doc pm:Value) (an:Option Addr) (cdv ct:Value) (us:Yf),us.length=ps.length->bindArgs (W.fnOf x x (W5 st) (QL st) (JR st) .none kV doc pm an cdv ct) ⟨us,[]⟩=pure (ps.zip us)
def xu (a:Al e T tbl bl)(j i:Nat)(ok:∀{f:Addr} {b:FuncData},Fun e.K x x (T i) f b->FnOk e.P e.w e.K e.mg e.base yw k f b ps sp)(h:tbl[j]? = some (x,i):=by rfl)
 (c:II x (T i) ps:=by intro _ _ _ _ _ _;first|exact ml λ_ _=>rfl|exact rC λ_ _ _=>rfl|exact rE λ_=>rfl|exact mj λ_ _ _ _=>rfl|exact cY λ_ _ _ _ _=>rfl|exact g λ_ _ _ _ _ _=>rfl):Ca e x k ps sp:=by
 obtain⟨_,X,G⟩:=a.h;exact(DP a.d h).callee X G ok c
def yz (a:Al e T tbl bl)(j i:Nat)(ok:∀{f:Addr} {b:FuncData},Fun e.K x x (T i) f b->FnOk e.P e.w e.K e.mg e.base (xF e.P e.w) k f b ps sp)(h:tbl[j]? = some (x,i):=by rfl)
 (c:autoParam (II x (T i) ps) xu._auto_2):zx e x k ps sp:=by
 obtain⟨_,X,G⟩:=a.h;exact(DP a.d h).calleeX X G ok c
end
def j3 {X:Cx}(h:X.N.Nodup:=by dsimp only[JJ,jW,Cx.nox];decide +kernel):X.N.Nodup:=h
def qv {X:Cx}{E:XK}(i:Nat){x:Str}{a:Pos}(c:X.N[i]? = some x:=by rfl)(e:autoParam (bW X.env.scope x) pv._auto_2)(f:(x == ("__debug__" : Str))=false:=by decide)(b:(x == ("__classdict__" : Str))=false:=by decide):QE X E (.Name x a) (jb i):=uY (pv i c e f b)
end L2.DL
set_option maxHeartbeats 4000000
namespace My
open PySem L2 L2.DL
@[simp high] def aj {α: Type}(b a:α)(l):(b::a::l)[1]? = some a:=rfl
@[simp high] def lY {α: Type}(a b v:α)(l):(a::b::l).set 1 v=a::v::l:=rfl
@[simp high] def ai {α: Type}(b c a:α)(l):(b::c::a::l)[2]? = some a:=rfl
@[simp high] def lX {α: Type}(a b c v:α)(l):(a::b::c::l).set 2 v=a::b::v::l:=rfl
@[simp high] def ah {α: Type}(b c e a:α)(l):(b::c::e::a::l)[3]? = some a:=rfl
@[simp high] def lW {α: Type}(a b c e v:α)(l):(a::b::c::e::l).set 3 v=a::b::c::v::l:=rfl
@[simp high] def ag {α: Type}(b c e f a:α)(l):(b::c::e::f::a::l)[4]? = some a:=rfl
@[simp high] def lV {α: Type}(a b c e f v:α)(l):(a::b::c::e::f::l).set 4 v=a::b::c::e::v::l:=rfl
@[simp high] def af {α: Type}(b c e f g a:α)(l):(b::c::e::f::g::a::l)[5]? = some a:=rfl
@[simp high] def lU {α: Type}(a b c e f g v:α)(l):(a::b::c::e::f::g::l).set 5 v=a::b::c::e::f::v::l:=rfl
@[simp high] def ae {α: Type}(b c e f g h a:α)(l):(b::c::e::f::g::h::a::l)[6]? = some a:=rfl
@[simp high] def lR {α: Type}(a b c e f g h v:α)(l):(a::b::c::e::f::g::h::l).set 6 v=a::b::c::e::f::g::v::l:=rfl
@[simp high] def ad {α: Type}(b c e f g h i a:α)(l):(b::c::e::f::g::h::i::a::l)[7]? = some a:=rfl
@[simp high] def lQ {α: Type}(a b c e f g h i v:α)(l):(a::b::c::e::f::g::h::i::l).set 7 v=a::b::c::e::f::g::h::v::l:=rfl
@[simp high] def aa {α: Type}(b c e f g h i j a:α)(l):(b::c::e::f::g::h::i::j::a::l)[8]? = some a:=rfl
@[simp high] def lP {α: Type}(a b c e f g h i j v:α)(l):(a::b::c::e::f::g::h::i::j::l).set 8 v=a::b::c::e::f::g::h::i::v::l:=rfl
@[simp high] def lZ {α: Type}(b c e f g h i j m a:α)(l):(b::c::e::f::g::h::i::j::m::a::l)[9]? = some a:=rfl
@[simp high] def lO {α: Type}(a b c e f g h i j m v:α)(l):(a::b::c::e::f::g::h::i::j::m::l).set 9 v=a::b::c::e::f::g::h::i::j::v::l:=rfl
@[simp high] def pI {α: Type}(b c e f g h i j m n a:α)(l):(b::c::e::f::g::h::i::j::m::n::a::l)[10]? = some a:=rfl
@[simp high] def pr {α: Type}(b c e f g h i j m n a v:α)(l):(b::c::e::f::g::h::i::j::m::n::a::l).set 10 v=b::c::e::f::g::h::i::j::m::n::v::l:=rfl
@[simp high] def pH {α: Type}(c e f g h i j m n o b a:α)(l):(c::e::f::g::h::i::j::m::n::o::b::a::l)[11]? = some a:=rfl
@[simp high] def pp {α: Type}(c e f g h i j m n o a b v:α)(l):(c::e::f::g::h::i::j::m::n::o::a::b::l).set 11 v=c::e::f::g::h::i::j::m::n::o::a::v::l:=rfl
@[simp high] def pG {α: Type}(e f g h i j m n o p b c a:α)(l):(e::f::g::h::i::j::m::n::o::p::b::c::a::l)[12]? = some a:=rfl
@[simp high] def pk {α: Type}(e f g h i j m n o p a b c v:α)(l):(e::f::g::h::i::j::m::n::o::p::a::b::c::l).set 12 v=e::f::g::h::i::j::m::n::o::p::a::b::v::l:=rfl
@[simp high] def pF {α: Type}(f g h i j m n o p q b c e a:α)(l):(f::g::h::i::j::m::n::o::p::q::b::c::e::a::l)[13]? = some a:=rfl
@[simp high] def pi {α: Type}(f g h i j m n o p q a b c e v:α)(l):(f::g::h::i::j::m::n::o::p::q::a::b::c::e::l).set 13 v=f::g::h::i::j::m::n::o::p::q::a::b::c::v::l:=rfl
def Kl (ns:Yh)(k:Int):Int:=ns.getD k.toNat 0
def jM (hs:Yh)(t:Int):Int:=hs.getD t.toNat 0
def Qc (r:Jz)(hs:Yh):Int:=qK (r.map λp=>jM hs p.1+p.2)
def IJ (r):qy 12 (js r)=true:=by
 show(r.map qJ).all (qy 11)=true;rw[Vz,UU];exact λp _=>rfl
def IK (r:Yh):qy 12 (.lst (r.map D.int))=true:=by
 show(r.map D.int).all (qy 11)=true;rw[Vz,UU];exact λp _=>rfl
def db {r s:Jz}(h:js r=js s):r=s:=by
 grind[CI]
def d9 (r s:Jz):Qq (js r) (js s)=decide (r=s):=by
 by_cases h:r=s
 .simp_all [Xp]
 .rw[Zo h];exact ur.mpr λz=>h (db z)
theorem V2 {α: Type}{l:List α}{k:Nat}(h:k<l.length):qU l (k:Int)=l[k]?:= by
 simp_all [qU,y0]
def IL {hs:Yh}{t:Int}(a:0<=t)(b:t<(hs.length:Int)):qU (hs.map D.int) t=some (.int (jM hs t)):=by
 simp_all [y0,qU,jM]
def QM {α: Type}{f:α -> D}{l:List α}{i:Nat}{x:D}(h:(l.map f)[i]? = some x):∃p,l[i]? = some p/\x=f p:=()
structure RowOk (n:Int)(r:Jz):Prop where
 ne:r ≠ []
 once:j4 r
 mem:∀p∈r,0<=p.1/\p.1<n
 len:r.length<=12
def IM {a:J0}(h:∀r∈a,r ≠ [])(b:a.length<1000):Ws [.lst (a.map js)]=some (.lst ((JS j6 a).map js)):=by
 show(Qt Kg (a.map js)).bind _=_
 simp_all [YL]
def jh (f:J0):D:=.lst (f.map js)
def tH {f g:J0}(h:jh f=jh g):f=g:=by
 grind[jh,YL]
def IN (f g:J0):Qq (jh f) (jh g)=decide (f=g):=by
 by_cases h:f=g
 .simp_all [Xp]
 .rw[Zo h];exact ur.mpr λz=>h (tH z)
def qi (all:J0)(row:Jz):Bool:=(all.filter λone => !decide (one=row)&&JF one row).isEmpty
def X1 (all a:J0)(row:Jz):J0:=if qi all row=true/\row∉a then a++[row] else a
def IP (all rs:J0):J0:=rs.foldl (X1 all) []
def JQ (rs:J0):J0:=JS j6 (IP rs rs)
theorem Bw (all:J0):∀(rs a:J0),(rs.foldl (X1 all) a).length<=a.length+rs.length/\(∀r,r∈rs.foldl (X1 all) a↔r∈a\/(r∈rs/\qi all r=true))/\(a.Nodup->(rs.foldl (X1 all) a).Nodup)
 | [],a=>by simp
 |row::rs,a=>by
  have ⟨b,c,e⟩:=Bw all rs (X1 all a row);unfold X1 at b c e ⊢
  grind
theorem xI {rs:J0}{r:Jz}:r∈JQ rs↔r∈rs/\qi rs r=true:=by
 grind[JQ,IP,Qk,Bw]
def J7 (f:J0)(hs:Yh):Int:=xb (f.map λr=>Qc r hs)
def dY {α: Type}(l:List α)(x y:α):(l++[x]).set l.length y=l++[y]:=()
def dk {α: Type}(l:List α)(x):y0 (l++[x]).length (l.length:Int)=some l.length:=by
 unfold y0;rw[Zd (),Zd (by rw[Ub,Ui];lia),Int.toNat_natCast]
@[simp]def gt (f):KF [jh f]=some (jh f):=rfl
@[simp]def uw (f):VW (jh f)=some (f.map js):=rfl
@[simp]def uu (r):VW (js r)=some (r.map qJ):=rfl
@[simp]def br (f):jT [jh f]=some (.int f.length):=by show some (D.int (f.map js).length)=_;rw[Zql]
@[simp]def lK (f):vE [jh f,.ty "list"]=some (.bl true):=rfl
@[simp]def lN (f):vE [js f,.ty "tuple"]=some (.bl true):=rfl
@[simp]def lL (p):vE [qJ p,.ty "tuple"]=some (.bl true):=rfl
@[simp]def bq (p):jT [qJ p]=some (.int 2):=rfl
@[simp]def b0 (p):jF (qJ p) (.int 0)=some (.int p.1):=rfl
@[simp]def bw (p):jF (qJ p) (.int 1)=some (.int p.2):=rfl
def kg (n)(r):qy (n+3) (js r)=true:=by
 show(r.map qJ).all (qy (n+2))=true;rw[Vz,UU];exact λp _=>rfl
def Bx (n)(f):qy (n+4) (jh f)=true:=by
 show(f.map js).all (qy (n+3))=true;rw[Vz,UU];exact λr _=>kg n r
def sN (f g):xk (jh f) (jh g)=some (.bl (decide (f=g))):=by rw[CL (Bx 8 f) (Bx 8 g),IN]
def tz (f g):yV (jh f) (jh g)=some (.bl (!decide (f=g))):=by rw[AO (Bx 8 f) (Bx 8 g),IN]
structure FormOk (n:Int)(f:J0):Prop where
 ne:f ≠ []
 rows:∀r∈f,RowOk n r
 len:f.length<=100
def dP {l:Yh}(h:l ≠ [])(w:Int):xb (l.map (· + w))=xb l+w:=by
 obtain⟨a,b⟩:=An h;refine(Co () λy c=>?_).symm
 grind
def dX {l:Yh}(h:l ≠ [])(w:Int):qK (l.map (· + w))=qK l+w:=by
 obtain⟨a,b⟩:=W7 h;refine(Fk () λy c=>?_).symm
 grind
def qN (r:Jz):Prop:=(r.map (·.1)).Pairwise (· < ·)
def IQ {r:Jz}(h:qN r):r.Pairwise λx y=>jU x y=true:=by
 unfold qN at h;rw[UZ] at h;refine h.imp λ{a b} z=>?_
 simp_all [jU]
def zr {r o:Jz}:JF r o=true↔∀p∈r,∃w,JA o p.1=some w/\p.2<=w:=by
 grind[JF,qY,List.all_eq_true]
theorem Ks {a b c:Jz}(e:JF a b=true)(f:JF b c=true):JF a c=true:=by
 rw[zr] at *;intro p hp;obtain⟨w,g,h⟩:=e p hp;obtain⟨v,i,j⟩:=f _ (Qj g);exact⟨v,i,Int.le_trans h j⟩
def IR {a b:Jz}(c:j4 a)(e:JF a b=true)(f:JF b a=true):∀p∈a,p∈b:=by
 rw[zr] at *;intro p hp;obtain⟨w,g,j⟩:=e p hp;have h:=Qj g;obtain⟨v,i,l⟩:=f _ h;rw[c.look hp] at i
 grind
theorem IS {a b:Jz}(f:j4 a)(g:j4 b)(h:qN a)(i:qN b)(c:JF a b=true)(e:JF b a=true):a=b:=
 Wm wM (IQ h) (IQ i) λp=>⟨IR f c e p,IR g e c p⟩
theorem DQ:∀{rs:J0},rs ≠ []->(∀r∈rs,j4 r/\qN r)->∃m∈rs,∀o∈rs,JF o m=true->o=m
 | [],h,_=>Zn rfl h
 |x::rs,_,ok=>by
  by_cases q:rs=[]
  .simp_all
  .have ⟨m,a,b⟩:=DQ q ()
   grind[Zqm,Zqs,Ks,IS]
def wL {rs:J0}{m:Jz}:qi rs m=true↔∀o∈rs,JF o m=true->o=m:=by
 grind[qi,List.isEmpty_iff,List.filter_eq_nil_iff]
structure Good (n:Int)(f:J0):Prop where
 ne:f ≠ []
 rows:∀r∈f,RowOk n r
 rise:∀r∈f,qN r
 len:f.length<=40
 anti:∀r∈f,∀s∈f,JF r s=true->r=s
 srt:f.Pairwise λa b=>j6 a b=true
def dE (j n:Nat):min (j:Int) (n:Int)=((min j n:Nat):Int):=by
 lia
def IT {α: Type}(l:List α){k:Int}(a:0<=k):Qh l (some k) none none=l.drop k.toNat:=by
 have e:sliceBounds (some k) none none l.length=(((min k.toNat l.length:Nat):Int),(l.length:Int),1):=by
  obtain⟨j,rfl⟩:=Int.eq_ofNat_of_zero_le a;unfold sliceBounds;simp only;rw[Ze (Int.not_lt.mpr a),dE];exact rfl
 unfold Qh;rw[e,sliceRange_one];have ep:(λx:Nat=>l[x]?)=λx:Nat=>l.toArray[x]?:= by simp
 rw[ep,(pick_run l.toArray (min k.toNat l.length) (l.length-min k.toNat l.length))];by_cases c:k.toNat<=l.length
 .rw[Vi c,UJ ()]
 .rw[Nat.min_eq_right (),Vg (Zf _),Vg ()];exact List.take_nil
def IU {α: Type}{f:α -> Bool}{l:List α}{i:Nat}{p:α}(h:∀q∈l.take i,f q=false)(hp:l[i]? = some p)(a:f p=true):l.find? f=some p:=by
 grind[List.take_append_drop,List.drop_eq_getElem_cons]
structure ThingsOk (ts:Yh):Prop where
 ne:ts ≠ []
 len:ts.length<=4
 rng:∀t∈ts,0<=t/\t<12
 up:ts.Pairwise (· < ·)
def Bz {r:Jz}(h:qN r):j4 r:=by
 grind[qN,j4,List.Nodup]
def cc {r:Jz}(h:j4 r){p q:Int×Int}(hp:p∈r)(b:q∈r)(e:p.1=q.1):p=q:=by
 induction r with
 |nil=>cases hp
 |cons a r c =>
  grind[j4,List.map_cons,List.nodup_cons]
def IV {r:Jz}{hs:Yh}{p:Int×Int}(hp:p∈r):jM hs p.1+p.2<=Qc r hs:=
 (W7 (λz=>())).2 _ ()
def dq {r:Jz}{hs:Yh}(a:r ≠ []):∃p∈r,Qc r hs=jM hs p.1+p.2:=have ⟨p,hp,e⟩:=Ja.mp (W7 (λz=>a (Je.mp z))).1;⟨p,hp,e.symm⟩
def cK {r:Jz}{hs:Yh}{x:Int}(a:r ≠ []):Qc r hs<=x↔∀p∈r,jM hs p.1+p.2<=x:=by
 constructor
 .intro h p hp;exact Int.le_trans (IV hp) h
 .intro h;obtain⟨p,hp,e⟩:=dq a;rw[e];exact h p hp
def Wv {f:J0}{hs:Yh}{r:Jz}(a:r∈f):J7 f hs<=Qc r hs:=
 (An (λz=>())).2 _ ()
def WS {f:J0}{hs:Yh}(a:f ≠ []):∃r∈f,J7 f hs=Qc r hs:=have ⟨p,hp,e⟩:=Ja.mp (An (λz=>a (Je.mp z))).1;⟨p,hp,e.symm⟩
structure Over (f:J0)(hs:Yh):Prop where
 ne:f ≠ []
 rne:∀r∈f,r ≠ []
 once:∀r∈f,j4 r
 bnd:∀r∈f,∀p∈r,0<=p.1/\p.1<(hs.length:Int)
structure RoundOk (n:Int)(fs:List J0):Prop where
 len:(fs.length:Int)=n
 low:1<=n
 most:n<=12
 forms:∀f∈fs,FormOk n f
def vi {n:Int}{fs:List J0}(R:RoundOk n fs){hs:Yh}(h:hs.length=fs.length):∀f∈fs,Over f hs:=λf b=>⟨(R.forms f b).ne,λr a=>((R.forms f b).rows r a).ne,λr a=>((R.forms f b).rows r a).once,λr a p hp=>by
 have:=((R.forms f b).rows r a).mem p hp;have:=R.len;lia⟩
def pz (fs:List J0):D:=.lst (fs.map jh)
@[simp]def uv (fs):VW (pz fs)=some (fs.map jh):=rfl
open L2.ST
theorem DR:∀{ys a:Yh},a.Pairwise (· < ·)->ys.Pairwise (· < ·)->(∀x∈a,x∈ys)->a.length<=ys.length/\(a.length=ys.length->a=ys)
 | [],a,_,_,h=>by
  cases a with
  |nil=>simp
  |cons x a=>cases h x Zqs
 |y::ys,[],_,_,_=>by simp
 |y::ys,x::a,hx,hy,h=>by
  rw[List.pairwise_cons] at hx hy;rcases UV.mp (h x Zqs) with q|q
  .have ⟨b,c⟩:=DR hx.2 hy.2 λz hz=>by
    grind
   simp_all
  .obtain⟨b,_⟩:=DR (Ji.mpr hx) hy.2 λz hz=>by
    grind
   grind
theorem IW:∀{a b:Jz},a.map (·.1)=b.map (·.1)->(∀(i:Nat) p q,a[i]? = some p->b[i]? = some q->p.2<=q.2)->a≠b->j6 a b=true
 | [],[],_,_,h=>Zn rfl h
 | [],_::_,e,_,_=>by simp at e
 |_::_,[],e,_,_=>by simp at e
 |p::a,q::b,e,hw,hn=>by
  have f:=hw 0 p q rfl rfl;rw[V6];by_cases z:p=q
  .rw[Zd z];refine IW ((List.cons.inj e).2) (λi p q hp c=>hw (i+1) p q hp c) ()
  grind[W8]
def dJ {a b:Jz}(j:qN a)(e:qN b)(h:JF a b=true)(l:a≠b):zB a b=true:=by
 have u:=zr.mp h;obtain⟨f,g⟩:=DR j e λx m=>by
  obtain⟨p,hp,rfl⟩:=Ja.mp m;obtain⟨w,c,_⟩:=u p hp;exact Ja.mpr ⟨(p.1,w),Qj c,rfl⟩
 rw[Zql,Zql] at f g;rw[Xw];rcases Nat.lt_or_eq_of_le f with q|q
 .exact .inl q
 .refine .inr ⟨q,IW (g q) (λi p r hp n=>?_) l⟩;obtain⟨w,c,o⟩:=u p ();have s:p.1=r.1:=by
   have t:(a.map (·.1))[i]? = some p.1:=by grind
   simp_all
  have:=cc (Bz e) (Ud n) (Qj c) s.symm
  rwa [this]
def WT {α: Type}{ltb:α -> α -> Bool}(T:Tot ltb){l:List α}(e:l.Nodup):(JS ltb l).Pairwise λa b=>ltb a b=true:=by
 have c:(JS ltb l).Nodup:=(Qk l).nodup_iff.mpr e;refine List.Pairwise.imp ?_ ((V7 T l).and c);rintro a b ⟨f,g⟩;cases q:ltb a b with
 |true=>rfl
 |false=>exact Zn (T.tot _ _ q f) g
def qX (rs:J0):J0:=JS zB (JS j6 (dedR rs))
theorem ba {rs:J0}{r:Jz}:r∈qX rs↔r∈rs:=by
 grind[qX,bb,Qk]
def IX (rs:J0):(qX rs).Pairwise λa b=>zB a b=true:=WT vS ((Qk _).nodup_iff.mpr (Dx rs))
def IY (rs:J0):(qX rs).length<=rs.length:=by
 unfold qX;rw[(Qk _).length_eq,(Qk _).length_eq];exact HV rs
def zA (kept:J0)(r:Jz):J0:=if kept.any (λo=>JF o r)=true then kept else kept++[r]
def xN (rs:J0):J0:=(qX rs).filter (qi rs)
theorem IZ {rs:J0}(n:∀r∈rs,qN r):∀i,i<=(qX rs).length->((qX rs).take i).foldl zA []=((qX rs).take i).filter (qi rs)
 | 0,_=>by simp
 |i+1,hi=>by
  have E:=IZ n i ();have st:=IX rs;have p:∀r,r∈qX rs↔r∈rs:=λr=>ba;generalize qX rs=L at hi E st p;have a:i<L.length:=()
  rw[Wg (Zqg a),Vn,List.filter_append,E];have s:∀o∈L.take i,zB o L[i]=true:=λo c=>by
   obtain⟨j,t,rfl⟩:=Uz c;rw[Uv] at t;rw[List.getElem_take];exact Jj.mp st j i () a ()
  have u:=(p L[i]).mp (UE a);show zA ((L.take i).filter (qi rs)) L[i]=_;unfold zA;cases q:qi rs L[i] with
  |true =>
   have low:=wL.mp q;rw[Ze,List.filter_cons_of_pos q,List.filter_nil];intro z;have ⟨o,c,v⟩:=VH.mp z;have c:=(Jf.mp c).1;have b:=s o c;rw[(low o ((p o).mp (List.mem_of_mem_take c)) v)] at b;have:=vS.asy _ _ b
   simp_all
  |false =>
   have H:¬ ∀o∈rs,JF o L[i]=true->o=L[i]:=λz=>by rw[wL.mpr z] at q;cases q
   obtain⟨o,c,v,hne⟩:∃o∈rs,JF o L[i]=true/\o≠L[i]:=by
    exact by grind
   obtain⟨f,y,A⟩:=DQ (λz=>by
    have:o∈rs.filter λo=>JF o L[i]:=Jf.mpr ⟨c,v⟩;rw[z] at this;cases this) λr h=>⟨Bz (n r (Jf.mp h).1),()⟩
   obtain⟨F,B⟩:=Jf.mp y;have g:=wL.mpr λx G l=>A x (Jf.mpr ⟨G,Ks l B⟩) l;have m:f≠L[i]:=by grind
   have e:f∈L.take i:=by
    obtain⟨j,t,C⟩:=Uz ((p f).mpr F);rcases Ve j i with w|w|w
    .rw[<- C,List.mem_take_iff_getElem];exact by grind
    .subst w;exact Zn C.symm m
    .have b:=Jj.mp st i j a t w;rw[C] at b;have:=vS.asy _ _ b;rw[(dJ (n f F) (n _ u) B m)] at this;cases this
   rw[Zd (VH.mpr ⟨f,Jf.mpr ⟨e,g⟩,B⟩),List.filter_cons_of_neg (by rw[q];simp),List.filter_nil,ZA]
def La (rs:J0):JS j6 (xN rs)=JQ rs:=by
 have c:(xN rs).Nodup:=by
  have:(qX rs).Nodup:=by
   refine(IX rs).imp λ{a b} h e=>?_;have:=vS.asy _ _ h
   simp_all
  exact List.Pairwise.sublist (List.filter_sublist) this
 refine Wm xt (WT xt c) (WT xt ((Bw rs rs []).2.2 Vv)) λr=>?_
 grind[xN,xI,ba,Qk]
structure PairsOk (ts:Yh)(r:Jz):Prop where
 ne:r ≠ []
 len:r.length<=4
 mem:∀p∈r,p.1∈ts
 up:r.Pairwise λp q=>p.1<q.1
def tR {r:Jz}(h:r.Pairwise λp q=>p.1<q.1):j4 r:=by
 grind[j4,List.Nodup,List.pairwise_map]
def PairsOk.row {a:Yh}{r:Jz}(T:ThingsOk a)(P:PairsOk a r):RowOk 12 r:=⟨P.ne,tR P.up,λp hp=>T.rng _ (P.mem p hp),Zh P.len ()⟩
def cE {s r:Jz}{hs:Yh}(a:s ≠ [])(e:j4 r)(h:JF s r=true):Qc s hs<=Qc r hs:=by
 rw[cK a];intro p hp;obtain⟨w,b,c⟩:=zr.mp h p hp;have:=IV (hs:=hs) (Qj b)
 grind
def X2 {rs:J0}(ok:∀r∈rs,j4 r/\qN r){r:Jz}(e:r∈rs):∃s∈JQ rs,JF s r=true:=by
 have i:=zr.mpr λp hp=>⟨p.2,(ok r e).1.look hp,U5 _⟩;have ne:rs.filter (λo=>JF o r) ≠ []:=λz=>by
  simp_all
 obtain⟨m,f,h⟩:=DQ ne ();obtain⟨b,a⟩:=Jf.mp f;exact⟨m,xI.mpr ⟨b,wL.mpr λo g c=>h o (Jf.mpr ⟨g,Ks c a⟩) c⟩,a⟩
def c9 {rs:J0}{hs:Yh}(j:rs ≠ [])(ok:∀r∈rs,r ≠ []/\j4 r/\qN r):J7 (JQ rs) hs=J7 rs hs:=by
 obtain⟨r,i,e⟩:=WS (hs:=hs) j;obtain⟨s,f,l⟩:=X2 (λr h=>(ok r h).2) i;have a:=Wv (hs:=hs) f;have b:=cE (hs:=hs) (ok s (xI.mp f).1).1 (ok r i).2.1 l;have ne:JQ rs ≠ []:=by grind
 obtain⟨m,g,n⟩:=WS (hs:=hs) ne;have c:=Wv (hs:=hs) (xI.mp g).1;lia
def tO {f g:J0}(h:f.length+g.length<=1000):j8 (jh f) (jh g)=some (jh (f++g)):=by
 show(if(f.map js).length+(g.map js).length<=sizeLine then _ else _)=_;rw[Zql,Zql,Zd (QR h)];unfold jh;simp
def Wb (rs):(JQ rs).Pairwise λa b=>j6 a b=true:=WT xt ((Bw rs rs []).2.2 Vv)
def cH (rs):(JQ rs).Nodup:=(Wb rs).imp λ{a b} h e=>by
 have:=xt.asy _ _ h
 simp_all
def cM (rs:J0):JS j6 (JQ rs)=JQ rs:=Y0 xt (Qk _) (V7 xt _) (V7 xt _)
def cx {rs:J0}(h:rs.Nodup):(dedR rs).length=rs.length:=by
 have e:=Wm xt (WT xt (Dx rs)) (WT xt h) λr=>by
  grind[Qk,bb]
 rw[<- (Qk (dedR rs)).length_eq,e,(Qk rs).length_eq]
structure JRow (r:Jz):Prop where
 ne:r ≠ []
 rise:qN r
 bnd:∀p∈r,0<=p.1/\p.1<12
def JRow.once {r:Jz}(h:JRow r):j4 r:=Bz h.rise
def JRow.len {r:Jz}(h:JRow r):r.length<=12:=by
 have b:∀(l:Yh) (a:Int),l.Pairwise (· < ·)->(∀x∈l,a<=x/\x<12)->(l.length:Int)<=max 0 (12-a):=by
  intro l
  induction l with
  |nil=>simp;lia
  |cons x l c =>
   intro a hp e;rw[List.pairwise_cons] at hp;have g:=e x Zqs;have:=c (x+1) hp.2 ()
   grind
 have:=b _ 0 h.rise λx f=>by
  obtain⟨p,hp,rfl⟩:=Ja.mp f;exact h.bnd p hp
 grind
def asc (x:Str):Prop:=x.cps.all (· < 128)=true
def hZ {x:Str}:asc x↔∀c∈x.cps.toList,c<128:=by
 unfold asc;rw[<- Array.all_toList,UU];simp
def dj (a b:Str):(a++b).length=a.length+b.length:=Array.size_append
def Lb (a b:Str):(a++b).cps.toList=a.cps.toList++b.cps.toList:=Array.toList_append
def tZ {a b:Str}(f:asc a)(g:asc b):asc (a++b):=hZ.mpr λc e=>by
 rw[Lb] at e;rcases Jb.mp e with h|h
 .exact hZ.mp f c h
 .exact hZ.mp g c h
structure TxtOk (n:Nat)(x:Str):Prop where
 len:x.length<=n
 asc:asc x
def TxtOk.app {m n:Nat}{a b:Str}(c:TxtOk m a)(e:TxtOk n b):TxtOk (m+n) (a++b):=⟨by rw[dj];have:=c.len;have:=e.len;lia,tZ c.asc e.asc⟩
def TxtOk.mono {m n:Nat}{a:Str}(b:TxtOk m a)(h:m<=n):TxtOk n a:=⟨Zh b.len h,b.asc⟩
def X3 {n:Nat}{x:Str}(h:(decide (x.length<=n)&&x.cps.all (· < 128))=true):TxtOk n x:=by
 rw[Ue] at h;exact⟨of_decide_eq_true h.1,h.2⟩
def DS {m n:Nat}{a b:Str}(c:TxtOk m a)(e:TxtOk n b)(h:m+n<=1000):j8 (.str a) (.str b)=some (.str (a++b)):=Zd (QR (by have:=c.len;have:=e.len;lia))
def dz:∀k:Fin 64,(Nat.ble (k.val:Int).natAbs.log2 1900=true)/\(decide ((toString (k.val:Int):Str).length<=2)&&(toString (k.val:Int):Str).cps.all (· < 128))=true:=by decide +kernel
def jJ (k:Nat):Str:=(toString (k:Int):Str)
def B0 {k:Nat}(h:k<64):yU [.int (k:Int)]=some (.str (jJ k))/\TxtOk 2 (jJ k):=by
 obtain⟨a,b⟩:=dz ⟨k,h⟩;exact⟨Zd a,X3 b⟩
def low (x:Str):Prop:=∀c∈x.cps.toList,97<=c/\c<123
@[simp]def mG (n:Nat)(g:FS)(a b c d e:D):jK n 5 g [a,b,c,d,e]=(g (some (.val a)::some (.val b)::some (.val c)::some (.val d)::some (.val e)::List.replicate (n-5) none)).bind x8:=rfl
structure Pl where
 name:Str
 givens:Yk
 rows:List (Str×Str×Jz)
def jB (r:Str×Str×Jz):D:=.tup [.str r.1,.str r.2.1,js r.2.2]
def DT (p:Pl):D:=.tup [.str p.name,.lst (p.givens.map .str),.lst (p.rows.map jB)]
def JE (p:Pl):D:=.ins "Plan" ["name", "givens", "rows"] [.str p.name,.lst (p.givens.map .str),.lst (p.rows.map jB)]
def J6 (ps:List Pl):D:=.ins "Book" ["plans"] [.lst (ps.map JE)]
def kf (p:Str×Int):D:=.tup [.str p.1,.int p.2]
structure ItOk (ahead:Int)(its:Jz):Prop where
 rng:∀p∈its,0<=p.1/\p.1<ahead
 far:∀p∈its,-1000000000000000000000000000000<p.2/\p.2<1000000000000000000000000000000
@[simp]def gz (r):jF (jB r) (.int 0)=some (.str r.1):=rfl
@[simp]def gy (r):jF (jB r) (.int 1)=some (.str r.2.1):=rfl
@[simp]def gw (r):jF (jB r) (.int 2)=some (js r.2.2):=rfl
@[simp]def lh (p):jF (DT p) (.int 0)=some (.str p.name):=rfl
@[simp]def pQ (p):jF (DT p) (.int 1)=some (.lst (p.givens.map .str)):=rfl
@[simp]def l6 (p):jF (DT p) (.int 2)=some (.lst (p.rows.map jB)):=rfl
@[simp]def gA (p):jF (kf p) (.int 0)=some (.str p.1):=rfl
@[simp]def g0 (p):jF (kf p) (.int 1)=some (.int p.2):=rfl
@[simp]def pU (ps):j7 "Book" "plans" (J6 ps)=some (.lst (ps.map JE)):=rfl
@[simp]def gM (p):j7 "Plan" "name" (JE p)=some (.str p.name):=rfl
@[simp]def lH (p):j7 "Plan" "givens" (JE p)=some (.lst (p.givens.map .str)):=rfl
@[simp]def gL (p):j7 "Plan" "rows" (JE p)=some (.lst (p.rows.map jB)):=rfl
def du (ps:List Pl):List (Str×Int):=ps.map λp=>(p.name,(p.givens.length:Int))
def hQ (a:List (Str×Int))(how:Str)(n:Nat):Prop:=how = "all" \/ how = "first" \/ (how,(n:Int))∈a
def Lc {n:Nat}{x:Str}(h:asc x):qy (n+1) (.str x)=true:=by
 show PyData.strOk x=true;unfold PyData.strOk;rw[<- Array.all_toList,UU];exact λc a=>Zp (Ug (hZ.mp h c a) ())
def tT {x y:Str}(h:x.cps.toList=y.cps.toList):x=y:=by
 cases x
 simp_all
def cr {α: Type}{f:Nat -> α}{n:Nat}(h:((List.range n).map f).Nodup){a b:Nat}(c:a<n)(g:b<n)(e:f a=f b):a=b:=by
 have h:=Jj.mp (UZ.mp h)
 grind
def rO (l:Yj):Bool:=l[0]? == some 120||l[0]? == some 121||l[0]? == some 113||l[2]? == some 113
structure WB (ps:List Pl):Prop where
 l1:1<=ps.length
 l2:ps.length<=20
 nd:(ps.map (·.name)).Nodup
 ok:∀p∈ps,TxtOk 12 p.name/\1<=p.name.length/\p.name ≠ "all" /\ p.name ≠ "first"
 how:∀(i:Nat) (p:Pl),ps[i]? = some p->∀r∈p.rows,r.2.1 = "all" \/ r.2.1 = "first" \/ r.2.1∈(ps.take i).map (·.name)
 sz:∀p∈ps,p.rows.length<=40/\p.givens.length<=12
@[simp]def bD (is)(f)(sd):fH is f sd=(f (qE is sd)).bare.bind λd=>if Ij d then .ok d else .no:=rfl
@[simp]def bI (c)(names)(Fn)(fa)(sd):WP c names Fn fa sd=(fa sd).bind λds=>(Fn ds).bind λes=>.ok (.ins c names es):=rfl
@[simp]def cC (i j k)(r)(sd):JM (.tup [i,j,k]) (jB r) sd=.ok (((sd.set i (some (.val (.str r.1)))).set j (some (.val (.str r.2.1)))).set k (some (.val (js r.2.2)))):=rfl
@[simp]def lq (x):QB (.str x)=some (.inr x):=rfl
def dT (t:List (Str×Int)):D:=.dct (t.map λp=>.inr p.1) (t.map λp=>.int p.2)
def yJ (t:List (Str×Int))(x:Str):Option Int:=(t.find? λp=>decide (p.1=x)).map (·.2)
def tJ {a b:Str}:((UL a:j5)=.inr b)↔a=b:=()
theorem DU:∀(t:List (Str×Int)) (x:Str),jD (t.map λp=>.inr p.1) (t.map λp=>.int p.2) (.inr x)=(yJ t x).map .int
 | [],_=>rfl
 |p::t,x=>by
  rw[Zl,Zl];unfold jD yJ;rw[List.find?_cons];by_cases h:p.1=x
  .simp_all
  .rw[Ze (λz=>h (tJ.mp z)),Zo h];exact DU t x
@[simp]def sk (t)(x):jF (dT t) (.str x)=(yJ t x).map .int:=DU t x
@[simp]def sm (neg)(t)(x):wI neg (.str x) (dT t)=some (.bl (if neg then !(yJ t x).isSome else(yJ t x).isSome)):=by
 show some (D.bl (if neg then !(jD (t.map λp=>.inr p.1) (t.map λp=>.int p.2) (.inr x)).isSome else(jD (t.map λp=>.inr p.1) (t.map λp=>.int p.2) (.inr x)).isSome))=_;rw[DU,Option.isSome_map]
def mf {t:List (Str×Int)}{x:Str}:yJ t x=none↔x∉t.map (·.1):=by
 grind[yJ,Option.map_eq_none_iff,List.find?_eq_none]
def sK {a b:List (Str×Int)}{x:Str}(h:x∉a.map (·.1)):yJ (a++b) x=yJ b x:=by
 unfold yJ;rw[List.find?_append,Option.map_eq_none_iff.mp (mf.mpr h)];rfl
def kT (x:Str)(v:Int)(b:List (Str×Int)):yJ ((x,v)::b) x=some v:=by
 simp_all [yJ]
def nt (how:Str):Bool:=!(decide (how = "all")||decide (how = "first"))
def vU (t:List (Str×Int))(p:Pl):Int:=p.rows.length+((p.rows.filter λr=>nt r.2.1).map λr=>(yJ t r.2.1).getD 0).sum
def v9 (t:List (Str×Int))(p:Pl):List (Str×Int):=t++[(p.name,vU t p)]
def yu (ps:List Pl):List (Str×Int):=ps.foldl v9 []
def dc (ps)(p):yu (ps++[p])=yu ps++[(p.name,vU (yu ps) p)]:=by
 unfold yu;rw[Vn];rfl
theorem Ld:∀(l:List Pl) (t:List (Str×Int)),∃u,l.foldl v9 t=t++u
 | [],t=>⟨[],()⟩
 |p::l,t=>by
  obtain⟨u,e⟩:=Ld l (v9 t p)
  simp_all [v9]
theorem Le:∀(l:List Pl) t,(l.foldl v9 t).map (·.1)=t.map (·.1)++l.map (·.name)
 | [],t=>by simp
 |p::l,t=>by
  rw[Vh,Le l];unfold v9;simp
theorem DV (l):(yu l).map (·.1)=l.map (·.name):=by
 grind[yu,Le]
def WB.fresh {ps:List Pl}(W:WB ps){i:Nat}{p:Pl}(f:ps[i]? = some p):p.name∉(yu (ps.take i)).map (·.1):=by
 rw[DV];intro z;have a:i<ps.length:=();obtain⟨y,b,e⟩:=Ja.mp z;obtain⟨j,c,g⟩:=Uz b;rw[Uv] at c;have h:=Jj.mp (UZ.mp W.nd) j i () a ()
 simp_all
def WB.at {ps:List Pl}(W:WB ps){i:Nat}{p:Pl}(a:ps[i]? = some p):yJ (yu ps) p.name=some (vU (yu (ps.take i)) p):=by
 have e:yu ps=(ps.drop (i+1)).foldl v9 (yu (ps.take i)++[(p.name,vU (yu (ps.take i)) p)]):=by
  rw[<- dc];unfold yu;rw[<- Vn];have tk:ps.take (i+1)=ps.take i++[p]:=by rw[U8,a];rfl
  rw[<- tk,UI]
 obtain⟨u,b⟩:=Ld (ps.drop (i+1)) (yu (ps.take i)++[(p.name,vU (yu (ps.take i)) p)]);rw[e,b,Uh,sK (W.fresh a)];exact kT _ _ _
def WB.part {ps:List Pl}(W:WB ps){i:Nat}{p:Pl}(c:ps[i]? = some p){r:Str×Str×Jz}(f:r∈p.rows):(yJ (yu (ps.take i)) r.2.1).isSome=nt r.2.1:=by
 have a:∀w:Str,(∀y∈ps,y.name≠w)->yJ (yu (ps.take i)) w=none:=λw g=>mf.mpr (by
  grind[DV])
 rcases W.how i p c r f with z|z|z
 .rw[z,a "all" λy b=>(W.ok y b).2.2.1];rfl
 .rw[z,a "first" λy b=>(W.ok y b).2.2.2];rfl
 .have j:(yJ (yu (ps.take i)) r.2.1).isSome=true:=by
   cases h:yJ (yu (ps.take i)) r.2.1 with
   |some v=>rfl
   |none=>exact Zn (by rwa [DV]) (mf.mp h)
  have ⟨y,b,e⟩:=Ja.mp z;have ok:=W.ok y ()
  simp_all [nt]
def rX (c:Nat):Bool:=decide (97<=c)&&decide (c<123)
def pC (c:Nat):Bool:=decide (48<=c)&&decide (c<58)
def kept:Yk:=["plan", "given", "all", "first", "part"]
def Lf (x:Str):Bool:=decide (1<=x.length)&&(decide (x.length<=12)&&((kept.all λw => !decide (w=x))&&(rX (x.cps.toList.headD 0)&&x.cps.toList.all λc=>rX c||pC c)))
def vf (x:Str):Prop:=TxtOk 12 x/\Lf x=true
def vf.ne {x:Str}(h:vf x):1<=x.length/\x ≠ "all" /\ x ≠ "first" := by
 have h:=h.2;unfold Lf at h;rw[Ue,Ue,Ue,decide_eq_true_eq] at h;have k:=UU.mp h.2.2.1;have a:=k "all" (by decide +kernel);have b:=k "first" (by decide +kernel);exact⟨h.1,λz=>by rw[z] at a;simp at a,λz=>by rw[z] at b;simp at b⟩
structure PL (ahead:List Pl)(p:Pl):Prop where
 nm:vf p.name
 fresh:∀q∈ahead,q.name≠p.name
 tn:∀x∈p.givens++p.rows.map (·.1),vf x
 td:(p.givens++p.rows.map (·.1)).Nodup
 g1:1<=p.givens.length
 g2:p.givens.length<=12
 r1:1<=p.rows.length
 r2:p.rows.length<=40
 its:∀(k:Nat) (r:Str×Str×Jz),p.rows[k]? = some r->ItOk ((p.givens.length:Int)+k) r.2.2/\1<=r.2.2.length/\r.2.2.length<=40
 how:∀r∈p.rows,hQ (du ahead) r.2.1 r.2.2.length
 wt:vU (yu ahead) p<=2000
def LB (ps:List Pl):Prop:=∀(i:Nat) (p:Pl),ps[i]? = some p->PL (ps.take i) p
def LB.snoc {ps:List Pl}{p:Pl}(h:LB ps)(hp:PL ps p):LB (ps++[p]):=λk x a=>by
 by_cases z:k<ps.length
 .rw[UP z] at a;rw[List.take_append_of_le_length ()];exact h k x a
 .rw[UQ ()] at a;have kz:k-ps.length=0:=by
   cases e:k-ps.length with
   |zero=>rfl
   |succ j=>rw[e] at a;simp at a
  rw[kz] at a;cases a;have:k=ps.length:=()
  rwa [this,List.take_left' rfl]
def LB.mem {ps:List Pl}(h:LB ps){p:Pl}(hp:p∈ps):∃i,PL (ps.take i) p:=by
 obtain⟨i,a⟩:=List.getElem?_of_mem hp;exact⟨i,h i p a⟩
def bnd:Nat->Int
 | 0=>0
 |n+1=>6+6*bnd n
theorem Lg {α: Type}:∀{l m:List α},l.Nodup->(∀x∈l,x∈m)->l.length<=m.length
 | [],m,_,_=>Ua _
 |x::l,m,h,s=>by
  obtain⟨a,b,rfl⟩:=List.append_of_mem (s x Zqs);have ⟨e,c⟩:=Jm.mp h;have f:=Lg (m:=a++b) c λy g=>by
   grind
  grind
def xz (t g:J0):J0:=JQ (t++g)
structure Fm (n:Int)(U:J0)(f:J0):Prop where
 good:Good n f
 sub:∀r∈f,r∈U
def cF {n:Int}{f:J0}(G:Good n f):f.Nodup:=G.srt.imp λ{a b} h e=>by
 have:=xt.asy _ _ h
 simp_all
def Fm.len {n:Int}{U f:J0}(F:Fm n U f)(h:U.length<=28):f.length<=28:=Zh (Lg (cF F.good) F.sub) h
def cf {a b:J0}{hs:Yh}(g:a ≠ [])(h:b ≠ []):J7 (a++b) hs<=J7 a hs/\J7 (a++b) hs<=J7 b hs/\(J7 (a++b) hs=J7 a hs\/J7 (a++b) hs=J7 b hs):=by
 obtain⟨r,i,e⟩:=WS (hs:=hs) g;obtain⟨s,c,l⟩:=WS (hs:=hs) h;have m:=Wv (hs:=hs) (List.mem_append_left b i);have n:=Wv (hs:=hs) (Ut a c);obtain⟨q,j,o⟩:=WS (f:=a++b) (hs:=hs) (λz=>g (Jy.mp z).1);refine⟨(),(),?_⟩;rcases Jb.mp j with z|z
 .have:=Wv (hs:=hs) z;exact .inl ()
 .have:=Wv (hs:=hs) z;lia
@[simp]def nL (fe)(sd)(hp):xa fe sd hp=(fe sd).bind λd=>.ok (d,hp):=rfl
@[simp]def tL (g)(fa fb)(sd)(hp):qG g fa fb sd hp=(fa sd hp).bind λp=>(fb sd p.2).bind λq=>(Res.ofO (g p.1 q.1)).bind λz=>.ok (z,q.2):=rfl
@[simp]def pS (Fn)(fr)(sd)(hp):Qi Fn fr sd hp=(fr sd).bind λds=>Fn ds hp:=rfl
@[simp]def fw (sd)(hp):Wu sd hp=.ok ([],hp):=rfl
@[simp]def c8 (f)(g)(sd)(hp):QJ f g sd hp=(f sd hp).bind λp=>(g sd p.2).bind λq=>.ok (p.1::q.1,q.2):=rfl
@[simp]def fu (fr)(sd)(hp):ZE fr sd hp=(fr sd hp).bind λp=>if p.1.length<=1000 then .ok (.tup p.1,p.2) else .no:=rfl
@[simp]def lC (i)(f)(sd)(hp):Xy i f sd hp=(f sd hp).bind λp=>.ok (.next (sd.set i (some (.val p.1))) p.2):=rfl
@[simp]def bL (i)(g)(sd)(hp):zG i g sd hp=g (qE [i] sd) hp:=rfl
@[simp]def b9 (is)(f)(sd)(hp):wO is f sd hp=(f (derI hp is sd)).strict.bind λd=>if KD d then .ok (d,hp) else .no:=rfl
def eK (g:qa):Out2->Res (D×HP)
 | .next sd hp=>g sd hp
 |_=>.no
@[simp]def bT (g)(sd)(hp):eK g (.next sd hp)=g sd hp:=rfl
@[simp]def Lh (a:qq)(g:qa)(sd:SD)(hp:HP):qT a g sd hp=(a sd hp).bind (eK g):=by
 rfl
@[simp]def Wc (fc)(ga g)(sd)(hp):f9 fc ga g sd hp=(fc sd hp).bind λp=>if p.1 then ga sd p.2 else g sd p.2:=rfl
def tK (p:D×HP):Res (Bool×HP):=match p.1 with
 | .bl b=>.ok (b,p.2)
 |_=>.no
@[simp]def rH (b)(hp):tK (.bl b,hp)=.ok (b,hp):=rfl
@[simp]def lm (f)(sd)(hp):DC f sd hp=(f sd hp).bind tK:=rfl
def jy (p:Int):D:=.lst [.int p]
def X4 (a)(d):jm [(a,d)] a=some d:=Zd rfl
def dw (a)(d e):VZ [(a,d)] a e=[(a,e)]:=Zd rfl
def Li (a)(d)(R:HP):jm ((a,d)::R) a=some d:=Zd rfl
def cg (a)(d e)(R:HP):VZ ((a,d)::R) a e=(a,e)::R:=Zd rfl
def Lj {fo fi:FE}{sd:SD}{a:Addr}{p:Int}{R:HP}(b:fo sd=.ok (.adr a))(c:fi sd=.ok (.int 0)):zy fo fi sd ((a,jy p)::R)=.ok (.int p,(a,jy p)::R):=by
 unfold zy;rw[b,ji];show(match jm ((a,jy p)::R) a with
  |some (.lst es)=>(fi sd).bind λk=>(Res.ofO (jF (.lst es) k)).bind λz=>.ok (z,(a,jy p)::R)
  |_=>.no)=_
 rw[Li,c];rfl
def B4 {i:Nat}{f:qa}{sd:SD}{d d1 v:D}(h:sd[i]? = some (some (.own false d)))(b:∀a,f (sd.set i (some (.val (.adr a)))) [(a,d)]=.ok (v,[(a,d1)])):xJ i f sd=.ok (v,sd.set i (some (.own false d1))):=by
 unfold xJ;rw[h];refine tY λa=>?_
 simp_all [X4]
def B5 {n ar:Nat}{g:qa}{ds:YG}{a:Addr}{d d1 v:D}(h:ds.length=ar)(b:g (JW n ds) [(a,d)]=.ok (v,[(a,d1)])):Qx n ar g ds [(a,d)]=.ok (v,[(a,d1)]):=by
 simp_all [Qx]
def cu {n ar:Nat}{g:qa}{ds:YG}{a:Addr}{d d1 v:D}{R:HP}(h:ds.length=ar)(b:g (JW n ds) ((a,d)::R)=.ok (v,(a,d1)::R)):Qx n ar g ds ((a,d)::R)=.ok (v,(a,d1)::R):=by
 simp_all [Qx]
def tw {j:Int}(h:0<=j)(a:j<10000000000000000000000000000000000000000):j.natAbs<xY:=Zg (show j.natAbs<10000000000000000000000000000000000000000 from ()) (Vw rfl)
def wW {a:qq}{b:qa}{sd sd':SD}{hp hp':HP}{r:Res (D×HP)}(h:a sd hp=.ok (.next sd' hp'))(c:b sd' hp'=r):qT a b sd hp=r:=()
def Kt {g:FS}{sd sd':SD}{hp:HP}(h:g sd=.ok (.next sd')):yf g sd hp=.ok (.next sd' hp):=()
def ZI {i:Nat}{f:FX}{sd sd':SD}{v:D}(h:f sd=.ok (v,sd')):X0 i f sd=.ok (.next (sd'.set i (some (.val v)))):=()
def DW {i:Nat}{f:FX}{sd sd':SD}{v:D}{ds ds':YG}(a:sd[i]? = some (some (.own false (.lst ds'))))(h:f sd=.ok (v,sd'))(b:sd'[i]? = some (some (.own false (.lst ds))))(c:ds.length<sizeLine):WR i f sd=.ok (.next (sd'.set i (some (.own false (.lst (ds++[v])))))):=by
 simp_all [WR]
def X5 {i:Nat}{sd:SD}{p m:Int}{b:YG->HP->Res (D×HP)}(f:∀a,b [.adr a,.int m] [(a,jy p)]=.ok (.int (p % m),[(a,jy (p / m))]))(h:sd[i]? = some (some (.own false (jy p))))(c:FE)(j:∀a,c (sd.set i (some (.val (.adr a))))=.ok (.int m))(g:D->D->YH)(e:FE){d z:D}(l:∀a,e (sd.set i (some (.val (.adr a))))=.ok d)(hz:g d (.int (p % m))=some z):
 xJ i (qG g (xa e) (Qi b (J1 (jb i) (J1 c jc)))) sd=.ok (z,sd.set i (some (.own false (jy (p / m))))):=by
 refine B4 h λa=>?_;have n:(sd.set i (some (.val (.adr a))))[i]? = some (some (.val (.adr a))):=by
  grind
 simp_all
def QZ {x y:Str}(a:asc x)(b:asc y):xk (.str x) (.str y)=some (.bl (decide (x=y))):=by
 rw[CL (Lc a) (Lc b)]
 simp_all [Qq]
def Ww:asc "all" := by unfold asc;decide +kernel
def Wx:asc "first" := by unfold asc;decide +kernel
def Lk:xk (.str "all") (.str "all")=some (.bl true):=by rw[QZ Ww Ww];congr 2
def Ll:xk (.str "first") (.str "all")=some (.bl false):=by rw[QZ Wx Ww];congr 2
def Lm:xk (.str "first") (.str "first")=some (.bl true):=by rw[QZ Wx Wx];congr 2
def qW (found:Yh)(its:Jz):Yh:=its.map λp=>jM found p.1+p.2
def zz (found:Yh)(r:Str×Str×Jz):Int:=if r.2.1 = "all" then qK (qW found r.2.2) else xb (qW found r.2.2)
def qR (a:List (Str×Str×Jz))(hs:Yh):Yh:=a.foldl (λf r=>f++[zz f r]) hs
structure RowsOk (n:Nat)(rows:List (Str×Str×Jz)):Prop where
 len:rows.length<=60
 pos:1<=rows.length
 how:∀r∈rows,r.2.1 = "all" \/ r.2.1 = "first"
 ne:∀r∈rows,r.2.2 ≠ []
 sh:∀r∈rows,r.2.2.length<=60
 rng:∀(k:Nat) r,rows[k]? = some r->∀p∈r.2.2,0<=p.1/\p.1<(n:Int)+k
def DX {a:List (Str×Str×Jz)}{hs:Yh}{i:Nat}{r:Str×Str×Jz}(h:a[i]? = some r):qR (a.take (i+1)) hs=qR (a.take i) hs++[zz (qR (a.take i) hs) r]:=by
 simp_all [qR,U8]
theorem Bc:∀a hs,(qR a hs).length=hs.length+a.length
 | [],hs=>rfl
 |r::a,hs=>by
  show(qR a (hs++[zz hs r])).length=_;rw[Bc a,Ub,Ui,Zu];lia
def Ln {found:Yh}{its:Jz}(h:its ≠ []):qW found its ≠ []:=λz=>h (Je.mp z)
def tQ (found)(its):(qW found its).length=its.length:=by unfold qW;simp
def Lo {found:Yh}{its:Jz}(h:∀p∈its,0<=p.1/\p.1<(found.length:Int)):jR (.tup [0,1]) (jl j8 (jl jF (jb 2) (jb 0)) (jb 1)) [none,none,some (.val (.lst (found.map .int)))] (its.map qJ)=.ok ((qW found its).map .int):=by
 unfold qW;rw[Zw];exact Ki λp hp=>by
  have:=IL (h p hp).1 (h p hp).2;simp[this]
def RowsOk.at {n:Nat}{a:List (Str×Str×Jz)}(ok:RowsOk n a){hs:Yh}(c:hs.length=n){i:Nat}{r:Str×Str×Jz}(h:a[i]? = some r):(∀p∈r.2.2,0<=p.1/\p.1<((qR (a.take i) hs).length:Int))/\(qR (a.take i) hs).length=n+i/\i<a.length/\r∈a:=by
 have b:=(Jc.mp h).1;have e:(qR (a.take i) hs).length=n+i:=by rw[Bc,Uv];lia
 refine⟨λp hp=>?_,e,b,Ud h⟩;have:=ok.rng i r h p hp;lia
def DY {α: Type}{f:α -> D}(ys:List α)(x:α):jF (.lst ((ys++[x]).map f)) (.int (-1))=some (f x):=by
 show qU ((ys++[x]).map f) (-1)=_;unfold qU y0;rw[Ze (),Zd (by rw[Zql,Ub,Ui];lia)];have e:((-1:Int)+(((ys++[x]).map f).length:Int)).toNat=ys.length:=by
  rw[Zql,Ub,Ui];lia
 simp_all
def DZ {α: Type}{l:List α}(h:l ≠ []):∃ys x,l=ys++[x]:=⟨l.dropLast,l.getLast h,(List.dropLast_concat_getLast h).symm⟩
def ck (x:Str):Str.empty++x=x:=tT (by rw[Lb];rfl)
def Lp (x:Str){k:Nat}(h:k<64):yi x (.int (k:Int))=some (.str (x++jJ k)):=by
 have e:yi x (.int (k:Int))=some (.str (Str.empty++x++jJ k)):=Zd (Jq.mpr ());rw[e,ck]
def yP (k:Nat)(x:Jz):Str×Str×Jz:=("r" ++ jJ k, "all",x)
def wX (many n:Nat):Str×Str×Jz:=("end", "first",(List.range n).map λk:Nat=>((many:Int)+k,0))
def xS (nm:Str)(many:Nat)(f:J0):Pl:=⟨nm,(List.range many).map λk => "g" ++ jJ k,((List.range f.length).map λk:Nat=>yP k (f.getD k []))++[wX many f.length]⟩
def Lq (f:J0):Um (f.map js)=(List.range f.length).map λk:Nat=>D.tup [.int k,js (f.getD k [])]:=by
 apply Vy;intro i;rw[GT,Zv,Zv];rcases U4 i f.length with z|z
 .rw[Zqg z,List.getElem?_range z];show some (D.tup [.int i,js f[i]])=some (D.tup [.int i,js (f.getD i [])]);rw[Us,Zqg z];rfl
 .rw[U0 z,U0 (by rwa [ZB])];rfl
def ZJ (nm:Str)(many:Nat)(f:J0):(xS nm many f).rows.length=f.length+1:=by
 grind[xS,List.length_append,Zql,List.length_range]
def X6 {nm:Str}{many:Nat}{f:J0}{i:Nat}{r:Str×Str×Jz}(h:(xS nm many f).rows[i]? = some r):(∃x,f[i]? = some x/\r=yP i x)\/(i=f.length/\r=wX many f.length):=by
 have h:(((List.range f.length).map λk:Nat=>yP k (f.getD k []))++[wX many f.length])[i]? = some r:=h;rcases U4 i f.length with z|z
 .rw[UP (by rwa [Zql,ZB]),Zv,List.getElem?_range z] at h;left;refine⟨f[i],Zqg z,?_⟩;have e:f.getD i []=f[i]:=by rw[Us,Zqg z];rfl
  injection h with h
  rw[<- h];show yP i (f.getD i [])=_;rw[e]
 .rw[UQ (by rwa [Zql,ZB]),Zql,ZB] at h;right;rcases Vx (i-f.length) with y|y
  .rw[y] at h;injection h with h
   exact()
  .rw[U0 (by rw[Ui];lia)] at h;cases h
def tu {nm:Str}{many:Nat}{f:J0}{n:Int}(G:Good n f)(l:f.length<=39)(h:n<=(many:Int))(m:many<=12)(o:0<n):RowsOk many (xS nm many f).rows:=by
 have q:=Jr.mpr G.ne;have a:∀r∈(xS nm many f).rows,∃i,(xS nm many f).rows[i]? = some r:=λr b=>Jl.mp b;refine⟨by rw[ZJ];lia,by rw[ZJ];lia,λr b=>?_,λr b=>?_,λr b=>?_,λk r g p hp=>?_⟩
 .obtain⟨i,c⟩:=a r b;rcases X6 c with ⟨x,_,rfl⟩|⟨_,rfl⟩
  .exact .inl rfl
  .exact .inr rfl
 .obtain⟨i,c⟩:=a r b;rcases X6 c with ⟨x,e,rfl⟩|⟨_,rfl⟩
  .exact(G.rows x (Ud e)).ne
  .intro z;have z:((List.range f.length).map λk:Nat=>((many:Int)+k,(0:Int)))=[]:=z
   simp_all
 .obtain⟨i,c⟩:=a r b;rcases X6 c with ⟨x,e,rfl⟩|⟨_,rfl⟩
  .have:=(G.rows x (Ud e)).len;show x.length<=60;lia
  .show((List.range f.length).map λk:Nat=>((many:Int)+k,(0:Int))).length<=60
   grind
 .rcases X6 g with ⟨x,e,rfl⟩|⟨rfl,rfl⟩
  .have:=(G.rows x (Ud e)).mem p hp;lia
  .obtain⟨j,s,rfl⟩:=Ja.mp hp
   grind
def dH {hs ys:Yh}{t:Int}(a:0<=t)(b:t<(hs.length:Int)):jM (hs++ys) t=jM hs t:=by
 unfold jM;rw[Us,Us,UP ()]
def dg {nm:Str}{many:Nat}{f:J0}{n:Int}{hs:Yh}(G:Good n f)(g:n<=(many:Int))(h:hs.length=many):∃ys,qR (xS nm many f).rows hs=ys++[J7 f hs]:=by
 have a:∀k,k<=f.length->qR ((xS nm many f).rows.take k) hs=hs++(f.take k).map λr=>Qc r hs:=by
  intro k
  induction k with
  |zero=>intro _;rw[Vt,Vt,List.map_nil,ZA];rfl
  |succ k c =>
   intro j;obtain⟨r,hr⟩:∃r,(xS nm many f).rows[k]? = some r:=⟨_,Zqg (by rw[ZJ];lia)⟩;rw[DX hr,c ()];rcases X6 hr with ⟨x,b,rfl⟩|⟨z,_⟩
   .rw[U8,b,Uc,Uh]
    congr 2
    have R:=G.rows x (Ud b)
    congr 1
    unfold zz;rw[Zd (show(yP k x).2.1 = "all" from rfl)]
    congr 1
    refine UR λp hp=>?_;have:=R.mem p hp;rw[dH this.1 ()]
   .omega
 have ⟨r,hr⟩:∃r,(xS nm many f).rows[f.length]? = some r:=⟨_,Zqg (by rw[ZJ];lia)⟩;have e:=DX (hs:=hs) hr;rw[UJ (by rw[ZJ];lia),a f.length (Zf _),VL] at e;rcases X6 hr with ⟨x,b,_⟩|⟨_,rfl⟩
 .simp_all
 .refine⟨hs++f.map (λr=>Qc r hs),e.trans ?_⟩
  congr 2
  show xb (qW _ ((List.range f.length).map λk:Nat=>((many:Int)+k,(0:Int))))=_;unfold J7 qW
  congr 1
  rw[Zw];apply Vy;intro i;rw[Zv,Zv];rcases U4 i f.length with z|z
  .rw[List.getElem?_range z,Zqg z];show some (jM (hs++f.map λr=>Qc r hs) ((many:Int)+i)+0)=some (Qc f[i] hs);rw[Int.add_zero];unfold jM;rw[Us,UQ (),show((many:Int)+i).toNat-hs.length=i by lia,Zv,Zqg z];rfl
  .rw[U0 (by rwa [ZB]),U0 z];rfl
def zt {a b:qq}{sd sd':SD}{hp hp':HP}{r:Res Out2}(h:a sd hp=.ok (.next sd' hp'))(c:b sd' hp'=r):QH a b sd hp=r:=()
def Lr {c:v7}{a b:qq}{sd:SD}{hp:HP}{r:Res Out2}(h:c sd hp=.ok true)(e:a sd hp=r):z8 c a b sd hp=r:=by
 rwa [Iq,h]
def Ls {c:v7}{b a:qq}{sd:SD}{hp:HP}{r:Res Out2}(h:c sd hp=.ok false)(e:a sd hp=r):z8 c b a sd hp=r:=by
 rwa [Iq,h]
def d8 {i:Nat}{f:qa}{sd:SD}{b:Addr}{c d d1 v:D}(h:sd[i]? = some (some (.own false d)))(j:∀a,a≠b->f (sd.set i (some (.val (.adr a)))) [(a,d),(b,c)]=.ok (v,[(a,d1),(b,c)])):ZG i f sd [(b,c)]=.ok (v,sd.set i (some (.own false d1)),[(b,c)]):=by
 unfold ZG;rw[h];have e:∀a,jm [(b,c)] a=none↔a≠b:=λa=>by
  simp_all [Q6,Bl]
 refine tM ⟨b+1,()⟩ λa g=>?_;rw[j a ((e a).mp g),ji];exact Zd ⟨rfl,g⟩
def dS {i:Nat}{f:ug}{sd sd':SD}{hp hp':HP}{v:D}(h:f sd hp=.ok (v,sd',hp')):Br i f sd hp=.ok (.next (sd'.set i (some (.val v))) hp'):=by
 simp_all [Br]
def dG {f:FX}{tg:Tg}{b:qq}{sd sd':SD}{hp:HP}{n:Nat}(h:f sd=.ok (.int n,sd'))(a:n<=1000):Bt f tg b sd hp=qo (QY tg b) (JP 0 n) sd' hp:=by
 unfold Bt;rw[h,ji];exact Zd (GA () ())
@[simp]def fy (fo fi)(sd)(hp):DK fo fi sd hp=(fo sd hp).bind λp=>(fi sd p.2).bind (kW p.1):=rfl
@[simp]def lG (Fn)(fr)(sd)(hp):DM Fn fr sd hp=(fr sd hp).bind λp=>Fn p.1 p.2:=rfl
def tm {a b:Addr}{d z:D}{es:YG}{k:Int}(h:a≠b)(hz:qU es k=some z):kW (.adr a) (.int k,[(b,d),(a,.lst es)])=.ok (z,[(b,d),(a,.lst es)]):=by
 simp_all [kW,Q6]
def mO:Pl:=⟨"",[],[]⟩
abbrev Rw:=Str×Str×Jz
structure RwP (ps:List Pl)(n:Int)(r:Rw):Prop where
 nm:asc r.1
 how:r.2.1 = "all" \/ r.2.1 = "first" \/ ∃q∈ps,r.2.1=q.name/\r.2.2.length=q.givens.length
 ne:r.2.2 ≠ []
 sh:r.2.2.length<=10
 rng:∀p∈r.2.2,0<=p.1/\p.1<n
 wt:∀p∈r.2.2,-1000000000000000000000000000000<=p.2/\p.2<=1000000000000000000000000000000
structure PlP (ps:List Pl)(p:Pl):Prop where
 g1:1<=p.givens.length
 g2:p.givens.length<=4
 r1:1<=p.rows.length
 r2:p.rows.length<=8
 row:∀(k:Nat) r,p.rows[k]? = some r->RwP ps ((p.givens.length:Int)+k) r
structure BkP (ps:List Pl):Prop where
 len:ps.length<=4
 nm:∀(i:Nat) p,ps[i]? = some p->p.name = "p" ++ jJ i
 ok:∀(i:Nat) p,ps[i]? = some p->PlP (ps.take i) p
def t5:((List.range 4).map λk=>(("p" : Str)++jJ k).cps.toList).Nodup:=by decide +kernel
def Ea {i j:Nat}(a:i<4)(b:j<4)(e:("p" : Str)++jJ i = "p" ++ jJ j):i=j:=cr t5 a b (by rw[e])
def tV:∀k:Fin 4,(decide ((("p" : Str)++jJ k.1).length<=3)&&(("p" : Str)++jJ k.1).cps.all (· < 128))=true/\(("p" : Str)++jJ k.1).cps.toList≠("all" : Str).cps.toList/\(("p" : Str)++jJ k.1).cps.toList≠("first" : Str).cps.toList:=by decide +kernel
def sT {k:Nat}(h:k<4):TxtOk 3 ("p" ++ jJ k)/\("p" : Str)++jJ k ≠ "all" /\ ("p" : Str)++jJ k ≠ "first" := have ⟨a,b,c⟩:=tV ⟨k,h⟩;⟨X3 a,(),()⟩
def BkP.at {ps:List Pl}(B:BkP ps){i:Nat}{p:Pl}(h:ps[i]? = some p):i<ps.length/\i<4/\asc p.name/\p.name ≠ "all" /\ p.name ≠ "first" := by
 have a:=(Jc.mp h).1;have l:=B.len;obtain⟨b,c,e⟩:=sT (show i<4 from ());rw[B.nm i p h];exact⟨a,(),b.asc,c,e⟩
theorem BkP.find {ps:List Pl}(B:BkP ps){i:Nat}{p:Pl}(h:ps[i]? = some p):ps.find? (λq=>decide (q.name=p.name))=some p:=by
 refine IU (λq c=>?_) h (Zp rfl);obtain⟨j,a⟩:=Jl.mp c;have b:=(Jc.mp a).1;rw[Uv] at b;rw[VM ()] at a;have l:=B.len;have f:=(Jc.mp h).1;refine Zo λe=>?_;rw[B.nm i p h,B.nm j q a] at e;have:=Ea () () e;lia
def xK (rc:Str->List Int->Int)(found:Yh)(r:Rw):Int:=if r.2.1 = "all" then qK (qW found r.2.2) else if r.2.1 = "first" then xb (qW found r.2.2) else rc r.2.1 (qW found r.2.2)
def qb (rc:Str->List Int->Int)(a:List Rw)(hs:Yh):Yh:=a.foldl (λf r=>f++[xK rc f r]) hs
def qc (ps:List Pl):Nat->Pl->List Int->List Int
 | 0,_,_=>[]
 |n+1,p,hs=>qb (λx a=>(qc ps n ((ps.find? λq=>decide (q.name=x)).getD mO) a).getLastD 0) p.rows hs
def Lu {rc:Str->List Int->Int}{a:List Rw}{hs:Yh}{i:Nat}{r:Rw}(h:a[i]? = some r):qb rc (a.take (i+1)) hs=qb rc (a.take i) hs++[xK rc (qb rc (a.take i) hs) r]:=by
 simp_all [qb,U8]
theorem Eb (rc):∀a hs,(qb rc a hs).length=hs.length+a.length
 | [],hs=>rfl
 |r::a,hs=>by
  show(qb rc a (hs++[xK rc hs r])).length=_;rw[Eb rc a,Ub,Ui,Zu];lia
def Ec {ps:List Pl}{n:Nat}{p:Pl}{hs:Yh}:(qc ps (n+1) p hs).length=hs.length+p.rows.length:=Eb _ _ _
def cB {ps a:List Pl}{n:Nat}{p:Pl}{hs:Yh}(P:PlP a p):∃ys,qc ps (n+1) p hs=ys++[(qc ps (n+1) p hs).getLastD 0]:=by
 have ne:qc ps (n+1) p hs ≠ []:=λz=>by
  have b:=Ec (ps:=ps) (n:=n) (p:=p) (hs:=hs);have c:=P.r1
  grind
 obtain⟨ys,x,e⟩:=DZ ne
 simp_all
def PlP.at {a:List Pl}{p:Pl}(P:PlP a p){rc:Str->List Int->Int}{hs:Yh}(f:hs.length=p.givens.length){i:Nat}{r:Rw}(h:p.rows[i]? = some r):(∀y∈r.2.2,0<=y.1/\y.1<((qb rc (p.rows.take i) hs).length:Int))/\(qb rc (p.rows.take i) hs).length=p.givens.length+i/\i<p.rows.length:=by
 have b:=(Jc.mp h).1;have e:(qb rc (p.rows.take i) hs).length=p.givens.length+i:=by rw[Eb,Uv];lia
 refine⟨λy c=>?_,e,b⟩;have:=(P.row i r h).rng y c;lia
def BkP.snoc {ps:List Pl}{p:Pl}(B:BkP ps)(l:ps.length<4)(P:PlP ps p)(b:p.name = "p" ++ jJ ps.length):BkP (ps++[p]):=by
 have a:∀(i:Nat) q,(ps++[p])[i]? = some q->(i<ps.length/\ps[i]? = some q)\/(i=ps.length/\q=p):=λi q h=>by
  grind
 refine⟨(),λi q h=>?_,λi q h=>?_⟩
 .rcases a i q h with ⟨_,z⟩|⟨rfl,rfl⟩
  .exact B.nm i q z
  lia
 .rcases a i q h with ⟨y,z⟩|⟨rfl,rfl⟩
  .rw[List.take_append_of_le_length ()];exact B.ok i q z
  simp_all
def t6:BkP []:=⟨Ua _,(by intro i p h;cases h),(by intro i p h;cases h)⟩
def BkP.giv {ps:List Pl}(B:BkP ps):∀q∈ps,1<=q.givens.length/\q.givens.length<=4:=λq b=>by
 obtain⟨i,a⟩:=Jl.mp b;exact⟨(B.ok i q a).g1,(B.ok i q a).g2⟩
def BkP.ascs {ps:List Pl}(B:BkP ps):∀q∈ps,asc q.name:=λq a=>have ⟨i,b⟩:=Jl.mp a;(B.at b).2.2.1
def xR (ps:List Pl)(n:Nat)(x:Str)(a:Yh):Int:=(qc ps n ((ps.find? λq=>decide (q.name=x)).getD mO) a).getLastD 0
def Ed (ps)(n)(p)(hs):qc ps (n+1) p hs=qb (xR ps n) p.rows hs:=rfl
theorem BkP.how {ps:List Pl}(B:BkP ps){i:Nat}{p:Pl}(hp:ps[i]? = some p){k:Nat}{r:Rw}(c:p.rows[k]? = some r):r.2.1 = "all" \/ r.2.1 = "first" \/ (asc r.2.1/\r.2.1 ≠ "all" /\ r.2.1 ≠ "first" /\ ∃j q,j<i/\ps[j]? = some q/\r.2.1=q.name/\r.2.2.length=q.givens.length):=by
 rcases((B.ok i p hp).row k r c).how with z|z|⟨q,z1,z2,z3⟩
 .exact .inl z
 .exact .inr (.inl z)
 .obtain⟨j,a⟩:=Jl.mp z1;have b:=(Jc.mp a).1;rw[Uv] at b;rw[VM ()] at a;obtain⟨_,_,e,f,g⟩:=B.at a;exact .inr (.inr ⟨by rwa [z2],by rwa [z2],by rwa [z2],j,q,(),a,z2,z3⟩)
def BkP.part {ps:List Pl}(B:BkP ps){j n:Nat}{q:Pl}(a:ps[j]? = some q)(b:Yh):∃ys,qc ps (n+1) q b=ys++[xR ps (n+1) q.name b]:=by
 obtain⟨ys,e⟩:=cB (B.ok j q a);refine⟨ys,?_⟩;unfold xR
 rwa [B.find a]
def X7:YG->Res YG:=yO 2 2 (J1 (jv KF (J1 (jb 1) jc)) jc)
def ZK:YG->Res YG:=yO 4 4 (J1 (jb 1) (J1 (jv KF (J1 (jb 2) jc)) (J1 (jv KF (J1 (jb 3) jc)) jc)))
def ZL:FS:=(jz (qP (JD (jl nF (jb 1) (jv jT (J1 (jb 0) jc)))) (j1 (jl jF (jb 0) (jb 1))) JO) (j1 (dC (.int 0))))
def Wy:YG->Res D:=jK 2 2 ZL
def Ee (ns:Yh)(k:Nat):Wy [.scr ns,.int k]=.ok (.int (Kl ns k)):=by
 unfold Kl;by_cases h:k<ns.length
 .have e:qU ns (k:Int)=some ns[k]:=by rw[V2 h];simp
  simp_all [Wy,ZL]
 .simp[Wy,ZL,h]
def B6:qa:=(qT (Xy 2 (qG xO (zy (jb 0) (dC (.int 0))) (xa (jb 1)))) (qT (Bo (jb 0) (dC (.int 0)) (qG Bq (zy (jb 0) (dC (.int 0))) (xa (jb 1)))) (xa (jb 2))))
def Ku:YG->HP->Res (D×HP):=Qx 3 2 B6
def Lv {p m:Int}(a:Addr)(R:HP)(h:0<m)(b:m<10000000000000000000000000000000000000000):Ku [.adr a,.int m] ((a,jy p)::R)=.ok (.int (p % m),(a,jy (p / m))::R):=by
 refine cu rfl ?_;have c:=Lj (fo:=jb 0) (fi:=dC (.int 0)) (sd:=[some (.val (.adr a)),some (.val (.int m)),none]) (p:=p) (R:=R) rfl rfl;have e:Bo (jb 0) (dC (.int 0)) (qG Bq (zy (jb 0) (dC (.int 0))) (xa (jb 1))) [some (.val (.adr a)),some (.val (.int m)),some (.val (.int (p % m)))] ((a,jy p)::R)=.ok (.next [some (.val (.adr a)),some (.val (.int m)),some (.val (.int (p % m)))] ((a,jy (p / m))::R)):=by
  unfold Bo;rw[tL,(Lj rfl rfl)];simp;rw[(cv h (tw () b))];show(match jm ((a,jy p)::R) a with
   |some (.lst es)=>_
   |_=>Res.no)=_
  rw[Li];show Res.ok (Out2.next _ (VZ ((a,jy p)::R) a (jy (p / m))))=_;rw[cg]
 simp_all [B6,JW]
def V3 {p m:Int}(a)(h:0<m)(b:m<10000000000000000000000000000000000000000):Ku [.adr a,.int m] [(a,jy p)]=.ok (.int (p % m),[(a,jy (p / m))]):=Lv a [] h b
def ZM:qa:=(f9 (DC (qG vZ (Qi Ku (J1 (jb 0) (J1 (dC (.int 4)) jc))) (xa (dC (.int 0))))) (qG xc (Qi Ku (J1 (jb 0) (J1 (dC (.int 9)) jc))) (xa (dC (.int 4)))) (qG xc (Qi Ku (J1 (jb 0) (J1 (jl xc (jl xU (dC (.int 2)) (jl qj (dC (.int 10)) (dC (.int 30)))) (dC (.int 1))) jc))) (xa (jl xc (jl qj (dC (.int 10)) (dC (.int 30))) (dC (.int 1))))))
def B7:YG->HP->Res (D×HP):=Qx 1 1 ZM
def X8 (p:Int):Int:=if 0<p % 4 then p / 4 % 9-4 else p / 4 % 1999999999999999999999999999999-999999999999999999999999999999
def Ef (p:Int):Int:=if 0<p % 4 then p / 4 / 9 else p / 4 / 1999999999999999999999999999999
def fj {p:Int}(a:Addr):B7 [.adr a] [(a,jy p)]=.ok (.int (X8 p),[(a,jy (Ef p))]):=by
 refine B5 rfl ?_;have b:=V3 (p:=p) (m:=4) a () ();have f:=V3 (p:=p / 4) (m:=9) a () ();have c:qj (.int 10) (.int 30)=some (.int 1000000000000000000000000000000):=by
  rfl
 have e:xU (.int 2) (.int 1000000000000000000000000000000)=some (.int 2000000000000000000000000000000):=rfl;unfold X8 Ef;by_cases h:0<p % 4
 .simp_all [ZM,JW]
 .simp[ZM,JW,b,(V3 (m:=1999999999999999999999999999999) a (by decide +kernel) (by decide +kernel)),c,e,h]
def B8:qa:=(qT (yf (qw 3 (qM jc))) (qT (ZD (zn (J1 (jb 2) jc)) (.one 4) (QH (Xy 5 (Qi Ku (J1 (jb 0) (J1 (jb 1) jc)))) (K4 3 (ZE (QJ (xa (jb 5)) (QJ (Qi B7 (J1 (jb 0) jc)) Wu)))))) (zG 3 (xa (jv WI (J1 (jb 3) jc))))))
def Eg:YG->HP->Res (D×HP):=Qx 6 3 B8
def xL (m p:Int):Nat->Int
 | 0=>p
 |n+1=>Ef (xL m p n / m)
def Eh (m p:Int)(k:Nat):Int×Int:=(xL m p k % m,X8 (xL m p k / m))
def qD (m p:Int)(n:Nat):Jz:=(List.range n).map (Eh m p)
def dM (m p:Int)(n:Nat):qD m p (n+1)=qD m p n++[Eh m p n]:=by
 grind[qD,List.range_succ,List.map_append]
theorem ZN (m p:Int)(n:Nat):(qD m p n).length=n:=by unfold qD;simp
def gZ {p m:Int}{c:Nat}(a:Addr)(h:0<m)(l:m<1000)(n:c<=10):Eg [.adr a,.int m,.int c] [(a,jy p)]=.ok (js (qD m p c),[(a,jy (xL m p c))]):=by
 refine B5 rfl ?_;have f:KG [.int c]=.ok (JP 0 c):=by rw[VX () ()];rfl
 obtain⟨sd',hp',e,u,v,hs,g⟩:=DA (b:=QY (.one 4) (QH (Xy 5 (Qi Ku (J1 (jb 0) (J1 (jb 1) jc)))) (K4 3 (ZE (QJ (xa (jb 5)) (QJ (Qi B7 (J1 (jb 0) jc)) Wu)))))) (ds:=JP 0 c) (sd:=[some (.val (.adr a)),some (.val (.int m)),some (.val (.int c)),some (.own false (.lst [])),none,none]) (hp:=[(a,jy p)])
  (P:=λi sd hp=>∃u v,sd=[some (.val (.adr a)),some (.val (.int m)),some (.val (.int c)),some (.own false (.lst ((qD m p i).map qJ))),u,v]/\hp=[(a,jy (xL m p i))]) ⟨none,none,rfl,rfl⟩ (by
   rintro i x sd hp j ⟨u,v,rfl,rfl⟩;obtain⟨rfl,o⟩:=Xu j;have q:=V3 (p:=xL m p i) a h ();have r:=fj (p:=xL m p i / m) a;have hz:=JT (show(qD m p i).length<=1000 by rw[ZN];lia)
   simp_all [dM,K4,xL,Eh,qJ])
 subst hs g;rw[Wp] at e;simp[B8,JW,f,e];rfl
def B9:qa:=(qT (yf (qw 5 (qM (J1 (jl xO (J9 Wy (J1 (jb 0) (J1 (jb 1) jc))) (jl qj (dC (.int 10)) (dC (.int 9)))) jc)))) (qT (yf (X0 6 (xJ 5 (qG j8 (xa (dC (.int 1))) (Qi Ku (J1 (jb 5) (J1 (dC (.int 4)) jc))))))) (qT (yf (qw 7 (qM jc))) (qT (Xy 8 (wO [3] (jl vF (jb 3) (qM jc)))) (qT (Bt (xJ 5 (qG j8 (xa (dC (.int 1))) (Qi Ku (J1 (jb 5) (J1 (jb 4) jc))))) (.one 9) (QH (yf (qw 10 (qM (J1 (jl j8 (jl xU (jl xO (J9 Wy (J1 (jb 0) (J1 (jl j8 (jl j8 (jb 1) (dC (.int 1))) (jb 9)) jc))) (jl qj (dC (.int 10)) (dC (.int 64)))) (jl qj (dC (.int 10)) (dC (.int 20)))) (jl xO (J9 Wy (J1 (jb 0) (J1 (jb 1) jc))) (jl qj (dC (.int 10)) (dC (.int 20))))) jc)))) (QH (yf (X0 11 (xJ 10 (qG zF (xa (qM (J1 (dC (.str "all")) (J1 (dC (.str "first")) (J1 (dC (.str "all")) (J1 (dC (.str "first")) (J1 (dC (.str "part")) jc))))))) (Qi Ku (J1 (jb 10) (J1 (dC (.int 5)) jc))))))) (QH (yf (X0 12 (xJ 10 (qG j8 (xa (dC (.int 1))) (Qi Ku (J1 (jb 10) (J1 (dC (.int 4)) jc))))))) (QH (yf (qP (Ky (JD (jl xk (jb 11) (dC (.str "part")))) (JD (jb 8))) (jI 11 (dC (.str "all"))) JO)) (QH (z8 (m8 (JD (jl xk (jb 11) (dC (.str "part"))))) (QH (yf (jI 8 (dC (.bl true)))) (QH (Br 13 (ZG 10 (DK (xa (jb 3)) (DM Ku (QJ (xa (jb 10)) (QJ (wO [3] (jv jT (J1 (jb 3) jc))) Wu)))))) (QH (yf (jI 11 (jN (j7 "Plan" "name") (jb 13)))) (yf (jI 12 (jv jT (J1 (jN (j7 "Plan" "givens") (jb 13)) jc))))))) Bm) (yf (WR 7 (xJ 10 (ZE (QJ (xa (jl j8 (dC (.str "m")) (jv yU (J1 (jb 9) jc)))) (QJ (xa (jb 11)) (QJ (Qi Eg (J1 (jb 10) (J1 (jl j8 (jb 6) (jb 9)) (J1 (jb 12) jc)))) Wu))))))))))))) (zG 7 (xa (WP "Plan" ["name", "givens", "rows"] ZK (J1 (jb 2) (J1 (JZ [none] (zn (J1 (jb 6) jc)) (.one 0) (jl j8 (dC (.str "g")) (jv yU (J1 (jb 0) jc)))) (J1 (jb 7) jc)))))))))))
def BA:YG->HP->Res (D×HP):=Qx 14 5 B9
def jV (ns:Yh)(s:Nat):Nat:=(1+Kl ns s % 1000000000 % 4).toNat
def z9 (ns:Yh)(s:Nat)(m:Int):Nat:=(1+Kl ns s % 1000000000 / 4 % m).toNat
def yR (ns:Yh)(s k:Nat):Int:=Kl ns (s+1+k) % 10000000000000000000000000000000000000000000000000000000000000000*100000000000000000000+Kl ns s % 100000000000000000000
def xA (c:Int):Str:=if c % 5=1\/c % 5=3 then "first" else "all"
def v1 (ps:List Pl)(c:Int):Pl:=ps.getD (c % (ps.length:Int)).toNat mO
abbrev zC (ps:List Pl)(c:Int)(used:Bool):Prop:=c % 5=4/\used=false
def xM (ns:Yh)(s:Nat)(ps:List Pl):Nat->List Rw×Bool
 | 0=>([],ps.isEmpty)
 |k+1=>if zC ps (yR ns s k) (xM ns s ps k).2 then((xM ns s ps k).1++[("m" ++ jJ k,(v1 ps (yR ns s k / 5 / 4)).name,qD ((jV ns s:Int)+k) (yR ns s k / 5 / 4 / ps.length) (v1 ps (yR ns s k / 5 / 4)).givens.length)],true)
  else((xM ns s ps k).1++[("m" ++ jJ k,xA (yR ns s k),qD ((jV ns s:Int)+k) (yR ns s k / 5 / 4) (1+yR ns s k / 5 % 4).toNat)],(xM ns s ps k).2)
def dV (ns)(s)(ps)(k):xM ns s ps (k+1)=if zC ps (yR ns s k) (xM ns s ps k).2 then((xM ns s ps k).1++[("m" ++ jJ k,(v1 ps (yR ns s k / 5 / 4)).name,qD ((jV ns s:Int)+k) (yR ns s k / 5 / 4 / ps.length) (v1 ps (yR ns s k / 5 / 4)).givens.length)],true)
 else((xM ns s ps k).1++[("m" ++ jJ k,xA (yR ns s k),qD ((jV ns s:Int)+k) (yR ns s k / 5 / 4) (1+yR ns s k / 5 % 4).toNat)],(xM ns s ps k).2):=rfl
def wG (ns:Yh)(s:Nat)(nm:Str)(ps:List Pl)(m:Int):Pl:=⟨nm,(List.range (jV ns s)).map λk => "g" ++ jJ k,(xM ns s ps (z9 ns s m)).1⟩
def Ei (ns)(s):1<=jV ns s/\jV ns s<=4:=by unfold jV;lia
def Lw (ns)(s){m:Int}(c:1<=m)(e:m<=8):1<=z9 ns s m/\z9 ns s m<=8/\(z9 ns s m:Int)<=m:=by
 unfold z9;have a:=Int.emod_nonneg (Kl ns s % 1000000000 / 4) (show m≠0 from ());have b:=Int.emod_lt_of_pos (Kl ns s % 1000000000 / 4) (show 0<m from ());lia
def Lx {ps:List Pl}(h:ps ≠ [])(c:Int):v1 ps c∈ps/\qU (ps.map JE) (c % (ps.length:Int))=some (JE (v1 ps c)):=by
 have e:0<ps.length:=by grind
 have a:=Int.emod_nonneg c (show(ps.length:Int)≠0 by lia);have b:=Int.emod_lt_of_pos c (show 0<(ps.length:Int) from ())
 grind[v1,Zql,V2]
theorem ZO (ns)(s)(ps):∀k,(xM ns s ps k).1.length=k
 | 0=>rfl
 |k+1=>by
  unfold xM
  split
  .rw[Ub,ZO ns s ps k];rfl
  .rw[Ub,ZO ns s ps k];rfl
theorem Ej {ns:Yh}{s:Nat}{ps:List Pl}:∀{k:Nat},(xM ns s ps k).2=false->ps ≠ []
 | 0,h,z=>by rw[z] at h;cases h
 |k+1,h,z=>by
  unfold xM at h
  split at h
  .cases h
  .exact Ej h z
theorem Ek {ns:Yh}{s:Nat}{ps:List Pl}(f:∀q∈ps,1<=q.givens.length/\q.givens.length<=4):∀(k:Nat),k<=60->∀(i:Nat) r,(xM ns s ps k).1[i]? = some r->RwP ps ((jV ns s:Int)+i) r
 | 0,_,i,r,h=>by cases h
 |k+1,hk,i,r,h=>by
  have u:=Ei ns s;have m:TxtOk 1 "m" := X3 (by decide +kernel);have g:=(m.app (B0 (k:=k) ()).2).asc;have b:∀(p:Int) (n:Nat),∀x∈qD ((jV ns s:Int)+k) p n,-1000000000000000000000000000000<=x.2/\x.2<=1000000000000000000000000000000:=λp n x e=>by
   obtain⟨i,_,rfl⟩:=Ja.mp e;show _<=X8 _/\X8 _<=_
   grind[X8]
  have a:∀(p:Int) (n:Nat),∀x∈qD ((jV ns s:Int)+k) p n,0<=x.1/\x.1<(jV ns s:Int)+k:=λp n x e=>by
   obtain⟨j,_,rfl⟩:=Ja.mp e;exact⟨Int.emod_nonneg _ (),Int.emod_lt_of_pos _ ()⟩
  have c:∀(p:Int) (n:Nat),1<=n->qD ((jV ns s:Int)+k) p n ≠ []:=λp n v z=>by
   grind[ZN]
  have last:∀(x:Rw),((xM ns s ps k).1++[x])[i]? = some r->(i<k/\(xM ns s ps k).1[i]? = some r)\/(i=k/\r=x):=λx e=>by
   have w:=ZO ns s ps k;rcases U4 i k with z|z
   .rw[UP ()] at e;exact .inl ⟨z,e⟩
   .rw[UQ ()] at e;have o:i-(xM ns s ps k).1.length=0:=by
     rcases Vx (i-(xM ns s ps k).1.length) with y|y
     .exact y
     .rw[U0 (by rw[Ui];lia)] at e;cases e
    rw[o] at e;cases e;exact()
  unfold xM at h
  split at h
  .rename_i hp;rcases last _ h with ⟨_,z⟩|⟨rfl,rfl⟩
   .exact Ek f k () i r z
   .obtain⟨l,_⟩:=Lx (Ej hp.2) (yR ns s i / 5 / 4);obtain⟨t,A⟩:=f _ l;exact⟨g,.inr (.inr ⟨_,l,rfl,ZN _ _ _⟩),c _ _ t,by rw[ZN];lia,a _ _,b _ _⟩
  .rcases last _ h with ⟨_,z⟩|⟨rfl,rfl⟩
   .exact Ek f k () i r z
   .refine⟨g,?_,c _ _ (),by rw[ZN];lia,a _ _,b _ _⟩;unfold xA
    split
    .exact .inr (.inl rfl)
    .exact .inl rfl
def sV {ns:Yh}{s:Nat}{nm:Str}{ps:List Pl}{m:Int}(a:∀q∈ps,1<=q.givens.length/\q.givens.length<=4)(b:1<=m)(c:m<=8):PlP ps (wG ns s nm ps m):=by
 have f:=Ei ns s;have en:=Lw ns s b c;have e:(wG ns s nm ps m).givens.length=jV ns s:=by
  show((List.range (jV ns s)).map λk => "g" ++ jJ k).length=_;simp
 have g:(wG ns s nm ps m).rows.length=z9 ns s m:=ZO ns s ps _;exact⟨(),(),(),(),λk r h=>by rw[e];exact Ek a _ () k r h⟩
def gY (ns:Yh){s:Nat}{nm:Str}{ps:List Pl}{m:Int}(hs:s<=60)(hl:ps.length<=20)(hg:∀q∈ps,1<=q.givens.length/\q.givens.length<=4)(t:1<=m)(h2:m<=8)(a:Addr):BA [.scr ns,.int s,.str nm,.adr a,.int m] [(a,.lst (ps.map JE))]=.ok (JE (wG ns s nm ps m),[(a,.lst (ps.map JE))]):=by
 refine B5 rfl ?_;have eg:=Ei ns s;have en:=Lw ns s t h2;have c1:=Ee ns s;have q9:qj (.int 10) (.int 9)=some (.int 1000000000):=rfl;have y:qj (.int 10) (.int 64)=some (.int 10000000000000000000000000000000000000000000000000000000000000000):=by
  show some (D.int (10 ^ 64))=_
  congr 2
 have A:qj (.int 10) (.int 20)=some (.int 100000000000000000000):=rfl;have l1:TxtOk 1 "m" := X3 (by decide +kernel);have l2:TxtOk 1 "g" := X3 (by decide +kernel);have H:asc "part" := by unfold asc;decide +kernel
 have L:xk (.str "part") (.str "part")=some (.bl true):=by rw[QZ H H];congr 2
 have p2:xk (.str "all") (.str "part")=some (.bl false):=by rw[QZ Ww H];congr 2
 have p3:xk (.str "first") (.str "part")=some (.bl false):=by rw[QZ Wx H];congr 2
 obtain⟨P,hP⟩:∃P,P=Kl ns s % 1000000000:=⟨_,rfl⟩;have M:1+P % 4=(jV ns s:Int):=by unfold jV;lia
 have hn:1+P / 4 % m=(z9 ns s m:Int):=by
  grind[z9]
 have hu:vF (.lst (ps.map JE)) (.lst [])=some (.bl ps.isEmpty):=by show some (D.bl (ps.map JE).isEmpty)=_;simp
 generalize hR:ps.map JE=PD at hu;unfold B9;refine wW (sd':=[some (.val (.scr ns)),some (.val (.int s)),some (.val (.str nm)),some (.val (.adr a)),some (.val (.int m)),some (.own false (jy P)),none,none,none,none,none,none,none,none]) (Kt ?_) ?_
 .simp_all [JW,jy]
 refine wW (Kt (ZI (X5 (λa=>V3 a () ()) rfl _ (λ_=>rfl) _ _ (λ_=>rfl) (z:=.int (jV ns s)) (by rw[<- M];rfl)))) ?_;refine wW (sd':=[some (.val (.scr ns)),some (.val (.int s)),some (.val (.str nm)),some (.val (.adr a)),some (.val (.int m)),some (.own false (jy (P / 4))),some (.val (.int (jV ns s))),some (.own false (.lst [])),none,none,none,none,none,none]) (Kt ?_) ?_
 .simp
 refine wW (sd':=[some (.val (.scr ns)),some (.val (.int s)),some (.val (.str nm)),some (.val (.adr a)),some (.val (.int m)),some (.own false (jy (P / 4))),some (.val (.int (jV ns s))),some (.own false (.lst [])),some (.val (.bl ps.isEmpty)),none,none,none,none,none]) (hp':=[(a,.lst PD)]) ?_ ?_
 .simp_all [der,X4,Res.strict]
 have hn0:=hn;generalize hB:QH (yf (qw 10 _)) _=b;have N:∃u9 o h l g,qo (QY (.one 9) b) (JP 0 (z9 ns s m)) [some (.val (.scr ns)),some (.val (.int s)),some (.val (.str nm)),some (.val (.adr a)),some (.val (.int m)),some (.own false (jy (P / 4 / m))),some (.val (.int (jV ns s))),some (.own false (.lst ([]))),some (.val (.bl ps.isEmpty)),none,none,none,none,none] [(a,.lst PD)]=.ok (.next [some (.val (.scr ns)),some (.val (.int s)),some (.val (.str nm)),some (.val (.adr a)),some (.val (.int m)),some (.own false (jy (P / 4 / m))),some (.val (.int (jV ns s))),some (.own false (.lst ((wG ns s nm ps m).rows.map jB))),some (.val (.bl (xM ns s ps (z9 ns s m)).2)),u9,o,h,l,g] [(a,.lst PD)]):=by
  obtain⟨sd',hp',e,u9,o,h,l,g,B,hh⟩:=DA (b:=QY (.one 9) b) (ds:=JP 0 (z9 ns s m)) (sd:=[some (.val (.scr ns)),some (.val (.int s)),some (.val (.str nm)),some (.val (.adr a)),some (.val (.int m)),some (.own false (jy (P / 4 / m))),some (.val (.int (jV ns s))),some (.own false (.lst ([]))),some (.val (.bl ps.isEmpty)),none,none,none,none,none]) (hp:=[(a,.lst PD)])
   (P:=λi sd hp=>∃u9 o h l g,sd=[some (.val (.scr ns)),some (.val (.int s)),some (.val (.str nm)),some (.val (.adr a)),some (.val (.int m)),some (.own false (jy (P / 4 / m))),some (.val (.int (jV ns s))),some (.own false (.lst ((xM ns s ps i).1.map jB))),some (.val (.bl (xM ns s ps i).2)),u9,o,h,l,g]/\hp=[(a,.lst PD)]) ⟨none,none,none,none,none,rfl,rfl⟩ (by
    rintro i x sd hp hx ⟨u9,o,h,l,g,rfl,rfl⟩;obtain⟨rfl,hi⟩:=Xu hx;rw[Int.zero_add];have O:=Ee ns (s+1+i);rw[show(((s+1+i:Nat):Int))=(s:Int)+1+(i:Int) by lia] at O;have m0:=()
    have m1:=()
    have m2:=AW (i:=Kl ns (s+1+i) % 10000000000000000000000000000000000000000000000000000000000000000) (j:=100000000000000000000) (Rm (Zg (show _<10000000000000000000000000000000000000000000000000000000000000000 from ()) (Vw rfl)) (Vw rfl));have Q:Kl ns (s+1+i) % 10000000000000000000000000000000000000000000000000000000000000000*100000000000000000000+Kl ns s % 100000000000000000000=yR ns s i:=rfl;subst hB;obtain⟨I,R⟩:=B0 (k:=i) ();have J:=DS l1 R ();have lS:=ZO ns s ps i;have hz:((xM ns s ps i).1.map jB).length<sizeLine:=JT (by rw[Zql,lS];lia);rw[dV];have E:=Ej (ns:=ns) (s:=s) (ps:=ps) (k:=i);generalize xM ns s ps i=st at hz E;obtain⟨rs,f⟩:=st;have hz:(rs.map jB).length<sizeLine:=hz;have E:f=false->ps ≠ []:=E;obtain⟨C,hC⟩:∃C,C=yR ns s i:=⟨_,rfl⟩;rw[<- hC] at Q ⊢;obtain⟨n,hcn⟩:∃n:Nat,1+C / 5 % 4=(n:Int):=⟨(1+C / 5 % 4).toNat,()⟩;have S:(1+C / 5 % 4).toNat=n:=()
    rw[S];rw[dB,GO,ji];have ix:∃u,zF (.lst [.str "all",.str "first",.str "all",.str "first",.str "part"]) (.int (C % 5))=some (.str u)/\((u = "part" /\ xA C = "all" /\ C % 5=4)\/(u = "all" /\ xA C = "all" /\ C % 5≠4)\/(u = "first" /\ xA C = "first" /\ C % 5≠4)):=by
     unfold xA;obtain z|z|z|z|z:C % 5=0\/C % 5=1\/C % 5=2\/C % 5=3\/C % 5=4:=()
     .rw[z];exact⟨_,rfl,()⟩
     .rw[z];exact⟨_,rfl,()⟩
     .rw[z];exact⟨_,rfl,()⟩
     .rw[z];exact⟨_,rfl,()⟩
     .rw[z];exact⟨_,rfl,()⟩
    obtain⟨u,ix,hw⟩:=ix;have F:∀(T:qq) (r:Res Out2),(∀t:Str,(t = "part" /\ zC ps C f)\/(t=xA C/\¬zC ps C f/\xk (.str t) (.str "part")=some (.bl false))->T [some (.val (.scr ns)),some (.val (.int s)),some (.val (.str nm)),some (.val (.adr a)),some (.val (.int m)),some (.own false (jy (P / 4 / m))),some (.val (.int (jV ns s))),some (.own false (.lst (rs.map jB))),some (.val (.bl f)),some (.val (.int i)),some (.own false (jy (C / 5 / 4))),some (.val (.str t)),some (.val (.int n)),g] [(a,.lst PD)]=r)->QH (yf (qP (Ky (JD (jl xk (jb 11) (dC (.str "part")))) (JD (jb 8))) (jI 11 (dC (.str "all"))) JO)) T [some (.val (.scr ns)),some (.val (.int s)),some (.val (.str nm)),some (.val (.adr a)),some (.val (.int m)),some (.own false (jy (P / 4 / m))),some (.val (.int (jV ns s))),some (.own false (.lst (rs.map jB))),some (.val (.bl f)),some (.val (.int i)),some (.own false (jy (C / 5 / 4))),some (.val (.str u)),some (.val (.int n)),g] [(a,.lst PD)]=r:=λT r k=>by
     rcases hw with ⟨G,z2,z3⟩|⟨G,z2,z3⟩|⟨G,z2,z3⟩
     .subst G;cases f with
      |true=>exact zt (sd':=[some (.val (.scr ns)),some (.val (.int s)),some (.val (.str nm)),some (.val (.adr a)),some (.val (.int m)),some (.own false (jy (P / 4 / m))),some (.val (.int (jV ns s))),some (.own false (.lst (rs.map jB))),some (.val (.bl true)),some (.val (.int i)),some (.own false (jy (C / 5 / 4))),some (.val (.str "all")),some (.val (.int n)),g]) (hp':=[(a,.lst PD)]) (by simp[L]) ()
      |false=>exact zt (sd':=[some (.val (.scr ns)),some (.val (.int s)),some (.val (.str nm)),some (.val (.adr a)),some (.val (.int m)),some (.own false (jy (P / 4 / m))),some (.val (.int (jV ns s))),some (.own false (.lst (rs.map jB))),some (.val (.bl false)),some (.val (.int i)),some (.own false (jy (C / 5 / 4))),some (.val (.str "part")),some (.val (.int n)),g]) (hp':=[(a,.lst PD)]) (by simp[L]) ()
     .subst G;exact zt (sd':=[some (.val (.scr ns)),some (.val (.int s)),some (.val (.str nm)),some (.val (.adr a)),some (.val (.int m)),some (.own false (jy (P / 4 / m))),some (.val (.int (jV ns s))),some (.own false (.lst (rs.map jB))),some (.val (.bl f)),some (.val (.int i)),some (.own false (jy (C / 5 / 4))),some (.val (.str "all")),some (.val (.int n)),g]) (hp':=[(a,.lst PD)]) (by simp[p2]) ()
     .subst G;exact zt (sd':=[some (.val (.scr ns)),some (.val (.int s)),some (.val (.str nm)),some (.val (.adr a)),some (.val (.int m)),some (.own false (jy (P / 4 / m))),some (.val (.int (jV ns s))),some (.own false (.lst (rs.map jB))),some (.val (.bl f)),some (.val (.int i)),some (.own false (jy (C / 5 / 4))),some (.val (.str "first")),some (.val (.int n)),g]) (hp':=[(a,.lst PD)]) (by simp[p3]) ()
    have it:=λ(p:Int) (c:Nat) (hc:c<=10)=>λa=>gZ (p:=p) (m:=(jV ns s:Int)+i) (c:=c) a () () hc;by_cases hp:zC ps C f
    .rw[Zd hp];obtain⟨qm,U⟩:=Lx (E hp.2) (C / 5 / 4);have ql:=hg _ qm;have hps:0<ps.length:=Jr.mpr (E hp.2);have X:PD.length=ps.length:=by rw[<- hR,Zql]
     rw[hR] at U;generalize v1 ps (C / 5 / 4)=q at U ql;refine⟨[some (.val (.scr ns)),some (.val (.int s)),some (.val (.str nm)),some (.val (.adr a)),some (.val (.int m)),some (.own false (jy (P / 4 / m))),some (.val (.int (jV ns s))),some (.own false (.lst ((rs++[("m" ++ jJ i,q.name,qD ((jV ns s:Int)+i) (C / 5 / 4 / ps.length) q.givens.length)]).map jB))),some (.val (.bl true)),some (.val (.int i)),some (.own false (jy (xL ((jV ns s:Int)+i) (C / 5 / 4 / ps.length) q.givens.length))),some (.val (.str q.name)),some (.val (.int q.givens.length)),some (.val (JE q))],[(a,.lst PD)],?_,_,_,_,_,_,rfl,rfl⟩;refine zt (sd':=[some (.val (.scr ns)),some (.val (.int s)),some (.val (.str nm)),some (.val (.adr a)),some (.val (.int m)),some (.own false (jy (P / 4 / m))),some (.val (.int (jV ns s))),some (.own false (.lst (rs.map jB))),some (.val (.bl f)),some (.val (.int i)),some (.own false (jy (C))),h,l,g]) (hp':=[(a,.lst PD)]) (Kt ?_) ?_
     .simp[c1,O,y,A,m2,Q,jy]
     refine zt (Kt (ZI (X5 (λa=>V3 a () ()) rfl _ (λ_=>rfl) _ _ (λ_=>rfl) (z:=.str u) ix))) ?_;refine zt (Kt (ZI (X5 (p:=C / 5) (λa=>V3 a () ()) rfl _ (λ_=>rfl) _ _ (λ_=>rfl) (z:=.int n) (by rw[<- hcn];rfl)))) ?_;refine F _ _ λt w=>?_;have Y:t = "part" := by
      rcases w with z|z
      .exact z.1
      .exact Zn hp z.2.1
     subst Y;refine zt (sd':=[some (.val (.scr ns)),some (.val (.int s)),some (.val (.str nm)),some (.val (.adr a)),some (.val (.int m)),some (.own false (jy (P / 4 / m))),some (.val (.int (jV ns s))),some (.own false (.lst (rs.map jB))),some (.val (.bl true)),some (.val (.int i)),some (.own false (jy (C / 5 / 4 / ps.length))),some (.val (.str q.name)),some (.val (.int q.givens.length)),some (.val (JE q))]) (hp':=[(a,.lst PD)]) (Lr (by simp[L]) ?_) ?_
     .refine zt (sd':=[some (.val (.scr ns)),some (.val (.int s)),some (.val (.str nm)),some (.val (.adr a)),some (.val (.int m)),some (.own false (jy (P / 4 / m))),some (.val (.int (jV ns s))),some (.own false (.lst (rs.map jB))),some (.val (.bl true)),some (.val (.int i)),some (.own false (jy (C / 5 / 4))),some (.val (.str "part")),some (.val (.int n)),g]) (hp':=[(a,.lst PD)]) () ?_;have zd:∀b:Addr,b≠a->der [(b,jy (C / 5 / 4)),(a,D.lst PD)] (.adr a)=.lst PD:=λb K=>by
       unfold der;rw[Q6,Ze (λz=>K z.symm),X4]
      refine zt (dS (d8 (d1:=jy (C / 5 / 4 / ps.length)) (v:=JE q) rfl λb K=>?_)) ?_
      .have tk:=Lv (p:=C / 5 / 4) (m:=(ps.length:Int)) b [(a,D.lst PD)] () ();have Z:=tm (b:=b) (d:=jy (C / 5 / 4 / ps.length)) (λz=>K z.symm) U;simp[zd b K,Res.strict,X,tk,Z,KD]
      have fn:j7 "Plan" "name" (JE q)=some (.str q.name):=rfl;have fg:j7 "Plan" "givens" (JE q)=some (.lst (q.givens.map .str)):=rfl;generalize JE q=qd at fn fg;simp[fn,fg]
     .have it:=it (C / 5 / 4 / ps.length) q.givens.length ();refine Kt ((DW rfl (B4 (d1:=jy (xL ((jV ns s:Int)+i) (C / 5 / 4 / ps.length) q.givens.length)) (v:=jB ("m" ++ jJ i,q.name,qD ((jV ns s:Int)+i) (C / 5 / 4 / ps.length) q.givens.length)) rfl λa=>?_) rfl hz).trans ?_)
      .have it:=it a;simp[I,J,it,jB]
      .rw[Uc];rfl
    .rw[Ze hp];refine⟨[some (.val (.scr ns)),some (.val (.int s)),some (.val (.str nm)),some (.val (.adr a)),some (.val (.int m)),some (.own false (jy (P / 4 / m))),some (.val (.int (jV ns s))),some (.own false (.lst ((rs++[("m" ++ jJ i,xA C,qD ((jV ns s:Int)+i) (C / 5 / 4) n)]).map jB))),some (.val (.bl f)),some (.val (.int i)),some (.own false (jy (xL ((jV ns s:Int)+i) (C / 5 / 4) n))),some (.val (.str (xA C))),some (.val (.int n)),g],[(a,.lst PD)],?_,_,_,_,_,_,rfl,rfl⟩;refine zt (sd':=[some (.val (.scr ns)),some (.val (.int s)),some (.val (.str nm)),some (.val (.adr a)),some (.val (.int m)),some (.own false (jy (P / 4 / m))),some (.val (.int (jV ns s))),some (.own false (.lst (rs.map jB))),some (.val (.bl f)),some (.val (.int i)),some (.own false (jy (C))),h,l,g]) (hp':=[(a,.lst PD)]) (Kt ?_) ?_
     .simp[c1,O,y,A,m2,Q,jy]
     refine zt (Kt (ZI (X5 (λa=>V3 a () ()) rfl _ (λ_=>rfl) _ _ (λ_=>rfl) (z:=.str u) ix))) ?_;refine zt (Kt (ZI (X5 (p:=C / 5) (λa=>V3 a () ()) rfl _ (λ_=>rfl) _ _ (λ_=>rfl) (z:=.int n) (by rw[<- hcn];rfl)))) ?_;refine F _ _ λt w=>?_;obtain⟨Y,_,e2⟩:t=xA C/\¬zC ps C f/\xk (.str t) (.str "part")=some (.bl false):=by
      rcases w with z|z
      .exact Zn z.2 hp
      .exact z
     subst Y;refine zt (sd':=[some (.val (.scr ns)),some (.val (.int s)),some (.val (.str nm)),some (.val (.adr a)),some (.val (.int m)),some (.own false (jy (P / 4 / m))),some (.val (.int (jV ns s))),some (.own false (.lst (rs.map jB))),some (.val (.bl f)),some (.val (.int i)),some (.own false (jy (C / 5 / 4))),some (.val (.str (xA C))),some (.val (.int n)),g]) (hp':=[(a,.lst PD)]) (Ls (by simp[e2]) rfl) ?_;have it:=it (C / 5 / 4) n ();refine Kt ((DW rfl (B4 (d1:=jy (xL ((jV ns s:Int)+i) (C / 5 / 4) n)) (v:=jB ("m" ++ jJ i,xA C,qD ((jV ns s:Int)+i) (C / 5 / 4) n)) rfl λa=>?_) rfl hz).trans ?_)
     .have it:=it a;simp[I,J,it,jB]
     .rw[Uc];rfl)
  rw[Wp] at B;exact⟨u9,o,h,l,g,by rw[e,B,hh];rfl⟩
 obtain⟨u9,o,h,l,g,N⟩:=N;refine wW ((dG (n:=z9 ns s m) (X5 (λa=>V3 a () ()) rfl _ (λ_=>rfl) _ _ (λ_=>rfl) (z:=.int (z9 ns s m)) (by rw[<- hn];rfl)) ()).trans N) ?_;have r1:KG [.int (jV ns s)]=.ok (JP 0 (jV ns s)):=by rw[VX () ()];rfl
 have mk:jR (.one 0) (jl j8 (dC (.str "g")) (jv yU (J1 (jb 0) jc))) [none] (JP 0 (jV ns s))=.ok ((List.range (jV ns s)).map λk:Nat=>.str ("g" ++ jJ k)):=YT λi hi=>by
  obtain⟨I,R⟩:=B0 (k:=i) ();have J:=DS l2 R ();simp[I,J]
 have hz:=Wp 0 (jV ns s);have e0:JE (wG ns s nm ps m)=.ins "Plan" ["name", "givens", "rows"] [.str nm,.lst ((List.range (jV ns s)).map λk:Nat=>.str ("g" ++ jJ k)),.lst ((wG ns s nm ps m).rows.map jB)]:=by
  show D.ins _ _ [_,.lst (List.map D.str (List.map _ _)),_]=_;rw[Zw];rfl
 rw[e0];generalize (wG ns s nm ps m).rows.map jB=RD;simp[r1,mk,hz,JT (show jV ns s<=1000 from ()),ZK,yO,JW]
def BB:FS:=(jz (qw 3 (qM jc)) (jz (jQ (zn (J1 (jb 1) jc)) (.one 4) (WR 3 (xJ 3 (Qi BA (J1 (jb 0) (J1 (jl j8 (dC (.int 1)) (jl xU (jb 4) (jl j8 (jb 2) (dC (.int 1))))) (J1 (jl j8 (dC (.str "p")) (jv yU (J1 (jb 4) jc))) (J1 (jb 3) (J1 (jb 2) jc))))))))) (λsd=>(j1 (WP "Book" ["plans"] X7 (J1 (jb 3) jc))) (qE [3] sd))))
def ZP:YG->Res D:=qx 5 3 BB
def gX (ns:Yh){n m:Nat}(t:n<=4)(w:1<=m)(y:m<=8):∃ps,ps.length=n/\BkP ps/\ZP [.scr ns,.int n,.int m]=.ok (J6 ps):=by
 have z:KG [.int n]=.ok (JP 0 n):=by rw[VX () ()];rfl
 have g:TxtOk 1 "p" := X3 (by decide +kernel);obtain⟨sd',e,ps,u,hs,c,B⟩:=Uk (tg:=.one 4) (b:=WR 3 (xJ 3 (Qi BA (J1 (jb 0) (J1 (jl j8 (dC (.int 1)) (jl xU (jb 4) (jl j8 (jb 2) (dC (.int 1))))) (J1 (jl j8 (dC (.str "p")) (jv yU (J1 (jb 4) jc))) (J1 (jb 3) (J1 (jb 2) jc)))))))) (ds:=JP 0 n)
  (P:=λi sd=>∃(ps:List Pl) (u:Option SV),sd=[some (.val (.scr ns)),some (.val (.int n)),some (.val (.int m)),some (.own false (.lst (ps.map JE))),u]/\ps.length=i/\BkP ps) ⟨[],none,rfl,rfl,t6⟩ (by
   rintro i x sd h ⟨ps,u,rfl,c,B⟩;obtain⟨rfl,A⟩:=Xu h;have ⟨l,o⟩:=B0 (k:=i) ();have p:=DS g o ();have q:=AW (GJ (i:=(i:Int)) (j:=(m:Int)+1) () ());have C:i*(m+1)<=3*9:=VA () ();obtain⟨s,es⟩:∃s:Nat,s=1+i*(m+1):=⟨_,rfl⟩;have f:1+(i:Int)*((m:Int)+1)=(s:Int):=by rw[es];rfl
   have P:=sV (ns:=ns) (s:=s) (nm:= "p" ++ jJ i) (m:=(m:Int)) B.giv () ();have r:=λa=>gY ns (s:=s) (nm:= "p" ++ jJ i) (m:=(m:Int)) () () B.giv () () a;refine⟨[some (.val (.scr ns)),some (.val (.int n)),some (.val (.int m)),some (.own false (.lst ((ps++[wG ns s ("p" ++ jJ i) ps m]).map JE))),some (.val (.int i))],?_,_,_,rfl,by rw[Ub,Ui,c],B.snoc () P (by rw[c];rfl)⟩;rw[GO,ji];refine(DW rfl (B4 (d1:=.lst (ps.map JE)) (v:=JE (wG ns s ("p" ++ jJ i) ps m)) rfl λa=>?_) rfl (JT (by rw[Zql];lia))).trans ?_
   .simp[l,p,q,f,r]
   simp)
 rw[Wp] at c;refine⟨ps,c,B,?_⟩;have E:J6 ps=.ins "Book" ["plans"] [.lst (ps.map JE)]:=rfl
 simp_all [ZP,BB,X7,yO,JW]
def BC:FS:=(j1 (jv Xs (J1 (JZ [none,some 1] (iS (jb 0)) (.one 0) (jv WH (J1 (JZ [none,none,some 1] (iS (jb 0)) (.tup [0,1]) (jl j8 (jl jF (jb 2) (jb 0)) (jb 1))) jc))) jc)))
def X9:YG->Res D:=jK 2 2 BC
def BD:FS:=(jz (qw 2 (qM jc)) (jz (jQ (zn (J1 (jb 1) jc)) (.one 3) (jz (jI 4 (jl xO (jl xU (jl j8 (jl j8 (jl xO (jl YO (jb 0) (jl j8 (jb 3) (dC (.int 1)))) (dC (.int 2147483647))) (jl xU (dC (.int 17)) (jb 3))) (dC (.int 5))) (dC (.int 48271))) (dC (.int 2147483647)))) (jz (Kz 2 (jl xc (jl xO (jb 4) (dC (.int 19))) (dC (.int 9)))) (qP (JD (jl xk (jl xO (jl YO (jb 4) (dC (.int 19))) (dC (.int 3))) (dC (.int 0)))) (AZ 2 (jb 3) (jl xc (jl xO (jl YO (jb 0) (jl j8 (jb 3) (dC (.int 2)))) (jl j8 (jl xU (dC (.int 2)) (jl qj (dC (.int 10)) (dC (.int 60)))) (dC (.int 1)))) (jl qj (dC (.int 10)) (dC (.int 60))))) JO)))) (KE 2)))
def Wz:YG->Res D:=qx 5 2 BD
def Ly (c:Int){n:Nat}(H:n<=12):∃hs:Yh,hs.length=n/\(∀y∈hs,-1000000000000000000000000000000000000000000000000000000000000<=y/\y<=1000000000000000000000000000000000000000000000000000000000000)/\Wz [.int c,.int n]=.ok (.lst (hs.map .int)):=by
 have B:KG [.int n]=.ok (JP 0 n):=by rw[VX () ()];rfl
 have h:qj (.int 10) (.int 60)=some (.int 1000000000000000000000000000000000000000000000000000000000000):=by
  rfl
 have C:xU (.int 2) (.int 1000000000000000000000000000000000000000000000000000000000000)=some (.int 2000000000000000000000000000000000000000000000000000000000000):=by
  rfl
 unfold Wz;rw[uO 5 2 _ [.int c,.int n] rfl];unfold BD;generalize E:jz (jI 4 _) _=b;obtain⟨sd',e,hs,u,v,l,a,g⟩:=Uk (tg:=.one 3) (b:=b) (ds:=JP 0 n) (sd:=[some (.val (.int c)),some (.val (.int n)),some (.own false (.lst [])),none,none])
  (P:=λi sd=>∃(hs:Yh) (u v:Option SV),sd=[some (.val (.int c)),some (.val (.int n)),some (.own false (.lst (hs.map .int))),u,v]/\hs.length=i/\∀y∈hs,-1000000000000000000000000000000000000000000000000000000000000<=y/\y<=1000000000000000000000000000000000000000000000000000000000000) () (by
   rintro i x sd r ⟨hs,u,v,rfl,a,g⟩;obtain⟨rfl,I⟩:=Xu r;rw[Int.zero_add];have d1:=GK (i:=c) (j:=(i:Int)+1) () ();have m:=GK (i:=c) (j:=(i:Int)+2) () ();have s:=AW (GJ (i:=17) (j:=(i:Int)) () ());generalize J:c / ((i:Int)+1)=w at d1;generalize F:c / ((i:Int)+2)=w2 at m;have m2:=AW (Rl (i:=w % 2147483647+17*(i:Int)+5) (j:=48271) () ());generalize r:(w % 2147483647+17*(i:Int)+5)*48271=x at m2;have G:=Rn (i:=w2) (j:=2000000000000000000000000000000000000000000000000000000000001) ();have t:(hs.map D.int).length=i:=by rw[Zql];exact a
   have hz:=JT (show hs.length<=1000 from ());generalize A:x % 2147483647 % 19-9=y;have o:y0 (hs.length+1) (i:Int)=some i:=by have:=dk (hs.map D.int) (D.int y);rw[t,Ub,Zql] at this;exact this
   have f:∀z,(hs.map D.int++[D.int y]).set i z=hs.map D.int++[z]:=λz=>by have:=dY (hs.map D.int) (D.int y) z;rw[t] at this;exact this
   subst E;by_cases z:x % 2147483647 / 19 % 3=0
   .refine⟨[some (.val (.int c)),some (.val (.int n)),some (.own false (.lst ((hs++[w2 % 2000000000000000000000000000000000000000000000000000000000001-1000000000000000000000000000000000000000000000000000000000000]).map .int))),some (.val (.int i)),some (.val (.int (x % 2147483647)))],?_,_,_,_,rfl,by rw[Ub,Ui,a],λq p=>(Jb.mp p).elim (g q) λz=>by rw[Jd.mp z];lia⟩;simp[d1,m,s,m2,G,h,C,hz,A,z,o,f]
   .refine⟨[some (.val (.int c)),some (.val (.int n)),some (.own false (.lst ((hs++[y]).map .int))),some (.val (.int i)),some (.val (.int (x % 2147483647)))],?_,_,_,_,rfl,by rw[Ub,Ui,a],λq p=>(Jb.mp p).elim (g q) λz=>by rw[Jd.mp z];lia⟩;simp[d1,m,s,m2,hz,A,z])
 subst l;refine⟨hs,by rw[a,Wp],g,?_⟩;simp[JW,B,e]
def BE:FS:=(jz (jI 2 (jv WJ (J1 (jb 1) jc))) (jz (jQ (iS (jb 0)) (.tup [3,4]) (qP (yY (JD (jl (wI true) (jb 3) (jb 2))) (JD (jl vZ (jb 4) (jl jF (jb 2) (jb 3))))) (j1 (dC (.bl false))) JO)) (j1 (dC (.bl true)))))
def XA:YG->Res D:=jK 5 2 BE
def BF:FS:=(jz (jQ (iS (jb 0)) (.one 1) (jQ (iS (jb 0)) (.one 2) (qP (Ky (JD (jl yV (jb 1) (jb 2))) (JD (J9 XA (J1 (jb 1) (J1 (jb 2) jc))))) (j1 (dC (.bl false))) JO))) (j1 (AF (jl yV (jb 0) (qM jc)) (AF (jl xk (jv Ws (J1 (jb 0) jc)) (jb 0)) (jl xk (jv YY (J1 (jb 0) jc)) (jv jT (J1 (jb 0) jc)))))))
def WU:YG->Res D:=jK 3 1 BF
def BG:FS:=(jz (jQ (iS (jb 0)) (.one 1) (jQ (iS (jb 1)) (.one 2) (qP (yY (JD (jl ub (jl jF (jb 2) (dC (.int 1))) (jl qj (dC (.int 10)) (dC (.int 30))))) (JD (jl vX (jl jF (jb 2) (dC (.int 1))) (jl xc (dC (.int 0)) (jl qj (dC (.int 10)) (dC (.int 30))))))) (j1 (dC (.bl false))) JO))) (j1 (dC (.bl true))))
def ZQ:YG->Res D:=jK 3 1 BG
def vP:FS:=(jz (jQ (iS (jb 0)) (.tup [2,3]) (qP (yY (JD (jl (wI true) (jb 2) (jb 1))) (JD (jl vZ (jb 3) (jl jF (jb 1) (jb 2))))) (j1 (dC (.bl false))) JO)) (j1 (dC (.bl true))))
def vQ:YG->Res D:=jK 4 2 vP
def nK {r o:Jz}(b:j4 o):vQ [js r,xX o]=.ok (.bl (JF r o)):=by
 refine WN (R:=λz=>(z.bind (xi (j1 (dC (.bl true))))).bind x8=.ok (.bl (JF r o))) (P:=λi sd=>(∃u v,sd=[some (.val (js r)),some (.val (xX o)),u,v])/\JF (r.take i) o=true) ⟨⟨none,none,rfl⟩,rfl⟩ ?_ ?_
 .simp
 .rintro i x sd e ⟨⟨u,v,rfl⟩,hu⟩;obtain⟨p,hp,rfl⟩:=QM e;have a:=AX b p.1;cases q:JA o p.1 with
  |none =>
   rw[q] at a;have z:qY o p=false:=by unfold qY;rw[q]
   rw[Aw hp z];exact .inr (.inr ⟨.bl false,by simp[xX,a],()⟩)
  |some w =>
   rw[q] at a;by_cases c:w<p.2
   .have z:qY o p=false:=by unfold qY;exact by grind
    rw[Aw hp z];exact .inr (.inr ⟨.bl false,by simp[xX,a,c],()⟩)
   .have z:qY o p=true:=by unfold qY;exact by grind
    exact .inl ⟨[some (.val (js r)),some (.val (xX o)),some (.val (.int p.1)),some (.val (.int p.2))],.inl (by simp[xX,a,c]),⟨_,_,rfl⟩,Fs hp hu z⟩
def vn:FS:=(jz (jI 2 (jv WJ (J1 (jb 0) jc))) (jz (jQ (iS (jb 1)) (.one 3) (qP (JD (J9 vQ (J1 (jb 3) (J1 (jb 2) jc)))) (j1 (dC (.bl true))) JO)) (j1 (dC (.bl false)))))
def xq:YG->Res D:=jK 4 2 vn
def gQ {r:Jz}{ks:J0}(a:j4 r)(c:r.length<=100):xq [js r,jh ks]=.ok (.bl (ks.any λo=>JF o r)):=by
 simp[xq,vn,(Dd c a)];refine WN (R:=λz=>(z.bind (xi (j1 (dC (.bl false))))).bind x8=.ok (.bl (ks.any λo=>JF o r))) (P:=λi sd=>(∃u,sd=[some (.val (js r)),some (.val (jh ks)),some (.val (xX r)),u])/\∀o∈ks.take i,JF o r=false) () ?_ ?_
 .simp
 .rintro i x sd f ⟨⟨u,rfl⟩,hu⟩;obtain⟨o,hp,rfl⟩:=QM f;have b:=nK (r:=o) a;cases q:JF o r with
  |true =>
   have e:ks.any (λo=>JF o r)=true:=by grind
   simp_all
  |false =>
   rw[q] at b;refine .inl ⟨[some (.val (js r)),some (.val (jh ks)),some (.val (xX r)),some (.val (js o))],.inl (by simp[b]),⟨_,rfl⟩,λy g=>?_⟩;rw[Wg hp] at g
   grind
def vq:FS:=(jz (qw 2 (jv WJ (J1 (jb 0) jc))) (jz (jQ (iS (jb 1)) (.tup [3,4]) (YR 2 (jb 3) (jv YQ (J1 (jb 4) (J1 (yX [2] (AU (jb 2) (jb 3) (jb 4))) jc))))) (λsd=>(j1 (jv WI (J1 (CZ (jb 2)) jc))) (qE [2] sd))))
def zQ:YG->Res D:=jK 5 2 vq
def Q3 (r o:Jz):Jz:=JS jU (Qo r o)
def nJ {r o:Jz}(c:r ≠ [])(or:j4 r)(f:j4 o)(q:r.length<=20)(lo:o.length<=20):zQ [js r,js o]=.ok (js (Q3 r o)):=by
 have g:WJ [.tup (r.map qJ)]=some (xX r):=Dd () or;simp[zQ,vq,g,js];generalize h:YR 2 _ _=b;obtain⟨sd',e,u,v,a⟩:=Uk (tg:=.tup [3,4]) (b:=b) (ds:=o.map qJ) (sd:=[some (.val (.tup (r.map qJ))),some (.val (.tup (o.map qJ))),some (.own false (xX r)),none,none])
  (P:=λi sd=>∃u v,sd=[some (.val (.tup (r.map qJ))),some (.val (.tup (o.map qJ))),some (.own false (xX (Qo r (o.take i)))),u,v]) ⟨none,none,rfl⟩ (by
   rintro i x sd j ⟨u,v,rfl⟩;obtain⟨p,hp,rfl⟩:=QM j;have l:Qo r (o.take (i+1))=V8 (Qo r (o.take i)) p:=by
    rw[Wg hp];unfold Qo;rw[Vn];rfl
   have m:=CA (o.take i) r;have s:(o.take i).length<=o.length:=by rw[Uv];lia
   have hz:=JT (show(Qo r (o.take i)).length<=1000 by lia);have n:=AX (A8 (o.take i) r or) p.1;subst h;have es:V8 (Qo r (o.take i)) p=qI (Qo r (o.take i)) p.1 (if(JA (Qo r (o.take i)) p.1).getD p.2 > p.2 then(JA (Qo r (o.take i)) p.1).getD p.2 else p.2):=rfl;rw[l,es,<- (Rp (Qo r (o.take i)) p.1 (if(JA (Qo r (o.take i)) p.1).getD p.2 > p.2 then(JA (Qo r (o.take i)) p.1).getD p.2 else p.2))];simp[xX,n,hz])
 rw[e];subst a;have m:=CA o r;simp[(Rq (Gg c f) ()),Q3]
def BH:FS:=(jz (qw 2 (jl D7 (WL [none,some 1] (iS (jb 0)) (.one 0) (JD (J9 xq (J1 (jb 0) (J1 (jb 1) jc)))) (jb 0)) (WL [none,some 0] (iS (jb 1)) (.one 0) (JD (J9 xq (J1 (jb 0) (J1 (jb 1) jc)))) (jb 0)))) (jz (jI 3 (WL [none,some 0] (iS (jb 1)) (.one 0) (KR (JD (J9 xq (J1 (jb 0) (J1 (jb 1) jc))))) (jb 0))) (jz (jQ (iS (jb 0)) (.one 4) (qP (KR (JD (J9 xq (J1 (jb 4) (J1 (jb 1) jc))))) (Xk 2 (JZ [none,some 4] (iS (jb 3)) (.one 0) (J9 zQ (J1 (jb 1) (J1 (jb 0) jc))))) JO)) (KE 2))))
def ZR:YG->Res D:=qx 5 2 BH
def Wd (f g:J0):J0:=f.flatMap λr=>g.map (Q3 r)
def wN {f g:J0}{q:Jz}:q∈Wd f g↔∃r∈f,∃o∈g,Q3 r o=q:=by
 simp_all [Wd]
def cw (f g:J0):(Wd f g).length=f.length*g.length:=by
 unfold Wd
 induction f with
 |nil=>simp
 |cons r f a=>grind
def cD {a b:Jz}(c:j4 a)(p:b.Perm a)(t:Int):JA b t=JA a t:=by
 cases h:JA a t with
 |some w=>exact(Gh (((p.map λz:Int×Int=>z.1).nodup_iff).mpr c)).mp (p.mem_iff.mpr (Qj h))
 |none =>
  cases e:JA b t with
  |none=>rfl
  |some w =>
   have:=(Gh c).mp (p.mem_iff.mp (Qj e))
   simp_all
def BI {r o:Jz}(or:j4 r)(a:j4 o)(t:Int):JA (Q3 r o) t=jw (JA r t) (JA o t):=by
 rw[<- A7 t o r a];exact cD (A8 o r or) (Qk _) t
theorem XB {r o:Jz}(a:JRow r)(b:JRow o):JRow (Q3 r o):=by
 have e:=A8 o r a.once;refine⟨λz=>(Gg a.ne b.once) ?_,?_,λp hp=>?_⟩
 .have:=(Qk (ltb:=jU) (Qo r o)).length_eq
  grind[Q3,List.length_nil]
 .unfold qN Q3;have i:(JS jU (Qo r o)).Pairwise λx y=>x.1≠y.1:=by
   grind[j4,List.Nodup,List.pairwise_map,Qk]
  rw[UZ];refine(List.Pairwise.and (Pn e) i).imp λ{x y} h=>?_
  grind[W8]
 .have c:=e.look ((Qk (Qo r o)).mem_iff.mp hp);rw[A7 p.1 o r b.once] at c;cases f:JA r p.1 with
  |some w=>exact a.bnd (p.1,w) (Qj f)
  |none =>
   cases g:JA o p.1 with
   |some w=>exact b.bnd (p.1,w) (Qj g)
   |none=>rw[f,g] at c;cases c
def Lz {r o:Jz}(a:JRow r)(b:JRow o):JF r (Q3 r o)=true:=by
 rw[zr];intro p hp;rw[BI a.once b.once,(a.once.look hp)];cases JA o p.1 with
 |none=>exact⟨p.2,rfl,U5 _⟩
 |some y=>exact⟨_,rfl,by split<;>lia⟩
def L0 {r o:Jz}(b:JRow r)(a:JRow o):JF o (Q3 r o)=true:=by
 rw[zr];intro p hp;rw[BI b.once a.once,(a.once.look hp)];cases JA r p.1 with
 |none=>exact⟨p.2,rfl,U5 _⟩
 |some y=>exact⟨_,rfl,by split<;>lia⟩
def El {r o q:Jz}(j:JRow r)(l:JRow o)(g:JF r q=true)(h:JF o q=true):JF (Q3 r o) q=true:=by
 rw[zr] at g h ⊢;intro p hp;have c:=(XB j l).once.look hp;rw[BI j.once l.once] at c;cases f:JA r p.1 with
 |none =>
  rw[f] at c;exact h p (Qj c)
 |some x =>
  cases i:JA o p.1 with
  |none =>
   rw[f,i] at c;cases c;exact g (p.1,p.2) (Qj f)
  |some y =>
   rw[f,i] at c;obtain⟨w,n,a⟩:=g (p.1,x) (Qj f);obtain⟨s,m,b⟩:=h (p.1,y) (Qj i);have e:=Zqi c
   grind
def jL (g:J0)(r:Jz):Bool:=g.any λo=>JF o r
def rA {g:J0}{r:Jz}:jL g r=true↔∃o∈g,JF o r=true:=VH
def Ka (f g:J0)(l:J0):J0:=(l.filter λr => !jL g r).flatMap λr=>(g.filter λo => !jL f o).map (Q3 r)
def K5 (f g:J0):J0:=(f.filter (jL g)++g.filter (jL f))++Ka f g f
def L1 (f g l:J0):(Ka f g l).length=(l.filter λr => !jL g r).length*(g.filter λo => !jL f o).length:=by
 unfold Ka;generalize l.filter (λr => !jL g r)=a
 induction a with
 |nil=>simp
 |cons r a b=>grind
theorem BJ {α: Type}(p:α -> Bool):∀l:List α,(l.filter p).length+(l.filter λx => !p x).length=l.length
 | []=>rfl
 |x::l=>by
  have:=BJ p l
  grind
def L4 {f g:J0}(a:∀r∈f,JRow r)(b:∀r∈g,JRow r):∀q∈K5 f g,JRow q:=λq hq=>by
 rcases Jb.mp hq with hq|hq
 .grind
 .obtain⟨r,c,hq⟩:=List.mem_flatMap.mp hq
  grind[XB]
def dO {f g:J0}(e:∀r∈f,JRow r)(h:∀r∈g,JRow r)(q:Jz):(∃x∈K5 f g,JF x q=true)↔(∃x∈Wd f g,JF x q=true):=by
 constructor
 .rintro⟨x,hx,a⟩;rcases Jb.mp hx with hx|hx
  .rcases Jb.mp hx with hx|hx
   .obtain⟨hx,i⟩:=Jf.mp hx;obtain⟨o,b,c⟩:=rA.mp i;exact⟨Q3 x o,wN.mpr (),El (e x hx) (h o b) a (Ks c a)⟩
   .obtain⟨hx,i⟩:=Jf.mp hx;obtain⟨o,b,c⟩:=rA.mp i;exact⟨Q3 o x,wN.mpr ⟨o,b,x,hx,rfl⟩,El (e o b) (h x hx) (Ks c a) a⟩
  .obtain⟨r,j,hx⟩:=List.mem_flatMap.mp hx;exact⟨_,wN.mpr (),a⟩
 .rintro⟨x,hx,a⟩;obtain⟨r,j,o,b,rfl⟩:=wN.mp hx;have l:=Ks (Lz (e r j) (h o b)) a;have m:=Ks (L0 (e r j) (h o b)) a
  grind[K5,Ka]
def fq {f g:J0}(l:∀r∈f,JRow r)(t:∀r∈g,JRow r)(F:f.length+g.length+f.length*g.length<=1000):ZR [jh f,jh g]=.ok (jh (K5 f g)):=by
 have m:∀(ks:J0) (r:Jz),JRow r->xq [js r,jh ks]=.ok (.bl (jL ks r)):=λks r h=>gQ h.once (by have:=h.len;lia);have z:KZ (.one 0) (JD (J9 xq (J1 (jb 0) (J1 (jb 1) jc)))) (jb 0) [none,some (.val (jh g))] (f.map js)=.ok ((f.filter (jL g)).map js):=
  Df (s:=λr=>[some (.val (js r)),some (.val (jh g))]) (λr _=>rfl) (λr j=>by simp[m g r (l r j)]) ()
 have m2:KZ (.one 0) (JD (J9 xq (J1 (jb 0) (J1 (jb 1) jc)))) (jb 0) [none,some (.val (jh f))] (g.map js)=.ok ((g.filter (jL f)).map js):=
  Df (s:=λr=>[some (.val (js r)),some (.val (jh f))]) (λr _=>rfl) (λr j=>by simp[m f r (t r j)]) ()
 have u:KZ (.one 0) (KR (JD (J9 xq (J1 (jb 0) (J1 (jb 1) jc))))) (jb 0) [none,some (.val (jh f))] (g.map js)=.ok ((g.filter λo => !jL f o).map js):=
  Df (s:=λr=>[some (.val (js r)),some (.val (jh f))]) (λr _=>rfl) (λr j=>by simp[m f r (t r j)]) ()
 have Q:=BJ (jL g) f;have G:=BJ (jL f) g;have a:∀o∈g.filter (λo => !jL f o),JRow o:=λo n=>t o (Jf.mp n).1;have B:K5 f g=(f.filter (jL g)++g.filter (jL f))++Ka f g f:=rfl;have bl:∀i,(Ka f g (f.take i)).length<=min i f.length*g.length:=λi=>by
  rw[L1];refine VA ?_ (VB _ _);have:=VB (λr => !jL g r) (f.take i);rw[Uv] at this;exact this
 have C:∀(i:Nat) (r:Jz),f[i]? = some r->Ka f g (f.take (i+1))=Ka f g (f.take i)++(if jL g r=true then[] else(g.filter λo => !jL f o).map (Q3 r)):=λi r j=>by
  unfold Ka;rw[Wg j,List.filter_append,List.flatMap_append];cases c:jL g r with
  |true=>rw[List.filter_cons_of_neg (by rw[c];simp),Zd rfl];rfl
  |false=>rw[List.filter_cons_of_pos (by rw[c];rfl),Ze Zj];simp
 generalize R:(g.filter λo => !jL f o)=rest at u a C G;have S:rest.length<=g.length:=()
 generalize E:f.filter (jL g)++g.filter (jL f)=A at B;have T:A.length<=f.length+g.length:=by rw[<- E,Ub];lia
 have H:(f.filter (jL g)).length+(g.filter (jL f)).length<=sizeLine:=QR ();have I:(f.filter (jL g)).map js++(g.filter (jL f)).map js=A.map js:=by rw[<- E,Uc]
 obtain⟨sd',e,v,w⟩:=Uk (tg:=.one 4) (b:=(qP (KR (JD (J9 xq (J1 (jb 4) (J1 (jb 1) jc))))) (Xk 2 (JZ [none,some 4] (iS (jb 3)) (.one 0) (J9 zQ (J1 (jb 1) (J1 (jb 0) jc))))) JO)) (ds:=f.map js) (sd:=[some (.val (jh f)),some (.val (jh g)),some (.own false (.lst (A.map js))),some (.val (.lst (rest.map js))),none])
  (P:=λi sd=>∃(v:Option SV),sd=[some (.val (jh f)),some (.val (jh g)),some (.own false (.lst ((A++Ka f g (f.take i)).map js))),some (.val (.lst (rest.map js))),v]) ⟨none,by rw[Vt];simp[Ka]⟩ (by
   rintro i x sd J ⟨v,rfl⟩;obtain⟨r,j,rfl⟩:=QM J;have U:=(Jc.mp j).1;have p:=Ud j;have q:=m g r (l r p);have X:=bl i;have K:(min i f.length+1)*g.length<=f.length*g.length:=VA () (Zf _);rw[Nat.succ_mul] at K;rw[C i r j];cases c:jL g r with
   |true =>
    rw[c] at q;rw[Zd rfl,ZA];exact⟨[some (.val (jh f)),some (.val (jh g)),some (.own false (.lst ((A++Ka f g (f.take i)).map js))),some (.val (.lst (rest.map js))),some (.val (js r))],by simp[q],_,rfl⟩
   |false =>
    rw[c] at q;rw[Ze Zj];have y:jR (.one 0) (J9 zQ (J1 (jb 1) (J1 (jb 0) jc))) [none,some (.val (js r))] (rest.map js)=.ok (rest.map λo=>js (Q3 r o)):=Ki λo n=>by
     have F:=(l r p).len;have Y:=(a o n).len;simp[nJ (l r p).ne (l r p).once (a o n).once () ()]
    have L:(rest.map (Q3 r)).map js=rest.map λo=>js (Q3 r o):=by rw[Zw];rfl
    have sz:(A++Ka f g (f.take i)).length+rest.length<=sizeLine:=QR (by rw[Ub];lia);have M:=JT (show rest.length<=1000 from ());refine⟨[some (.val (jh f)),some (.val (jh g)),some (.own false (.lst ((A++(Ka f g (f.take i)++rest.map (Q3 r))).map js))),some (.val (.lst (rest.map js))),some (.val (js r))],?_,_,rfl⟩;rw[<- Uh];generalize A++Ka f g (f.take i)=acc at sz ⊢;rw[Uc,L];simp[q,y,M,sz])
 subst w;rw[Zql,VL] at e;have N:=JT (show f.length<=1000 from ());have O:=JT (show g.length<=1000 from ());rw[B];simp[jh] at z m2 u e ⊢;simp[ZR,BH,z,m2,u,N,O,H,I,e]
def vo:FS:=(jz (qw 2 (qM jc)) (jz (jQ (iS (jv YZ (J1 (jv YX (J1 (jb 0) jc)) jc))) (.one 3) (jz (qP (JD (jl xk (yX [2] (jv jT (J1 (jb 2) jc))) (jb 1))) vC JO) (qP (KR (JD (yX [2] (J9 xq (J1 (jb 3) (J1 (jb 2) jc)))))) (Kz 2 (jb 3)) JO))) (KE 2)))
def vu:YG->Res D:=qx 4 2 vo
def cX (rs):(JS j6 (dedR rs)).Pairwise λa b=>j6 a b=true:=WT xt (Dx rs)
def cS {rs:J0}{en:Int}(ne:∀r∈rs,r ≠ [])(l:∀r∈rs,qN r)(m:∀r∈rs,r.length<=100)(t:rs.length<1000)(H:0<=en):vu [jh rs,.int en]=.ok (jh ((xN rs).take en.toNat)):=by
 have dl:=HV rs;have v:YX [jh rs]=some (.lst ((JS j6 (dedR rs)).map js)):=Tj ne () ();have I:(JS j6 (dedR rs)).length=(dedR rs).length:=(Qk (ltb:=j6) _).length_eq;have w:YZ [.lst ((JS j6 (dedR rs)).map js)]=some (.lst ((qX rs).map js)):=Tv (cX rs) () λr y=>by
  have:=m r (bb.mp ((Qk (ltb:=j6) _).mem_iff.mp y));lia
 have c:=IZ l;have n:∀r,r∈qX rs->r∈rs:=λr h=>ba.mp h;have A:=IY rs;have B:xN rs=(qX rs).filter (qi rs):=rfl;rw[B];simp[vu,vo,v,w];generalize qX rs=L at c n A;refine WN (R:=λz=>(z.bind (xi (KE 2))).bind zl=.ok (jh ((L.filter (qi rs)).take en.toNat))) (P:=λi sd=>i<=L.length/\(((L.take i).filter (qi rs)).length:Int)<=en/\∃u,sd=[some (.val (jh rs)),some (.val (.int en)),some (.own false (.lst (((L.take i).filter (qi rs)).map js))),u]) ⟨Ua _,(),none,rfl⟩ ?_ ?_
 .rintro sd ⟨_,le,u,rfl⟩;rw[Zql,VL] at le ⊢;rw[UJ ()];rfl
 .rintro i x sd C ⟨_,le,u,rfl⟩;obtain⟨r,hp,rfl⟩:=QM C;have J:=(Jc.mp hp).1;have j:=c (i+1) ();rw[Wg hp,Vn,c i (),<- Wg hp] at j;have j:zA ((L.take i).filter (qi rs)) r=(L.take (i+1)).filter (qi rs):=j;have E:((L.take i).filter (qi rs)).length<=i:=by
   have a:=VB (qi rs) (L.take i);rw[Uv] at a;lia
  rw[<- j];have p:=n r (Ud hp);have f:=gQ (r:=r) (ks:=(L.take i).filter (qi rs)) (Bz (l r p)) (m r p);have e:L.filter (qi rs)=(L.take i).filter (qi rs)++(L.drop i).filter (qi rs):=by rw[<- List.filter_append,UI]
  generalize (L.take i).filter (qi rs)=ks at E f le e;have f:xq [js r,.lst (ks.map js)]=.ok (.bl (ks.any λo=>JF o r)):=f;have hz:=JT (show ks.length<=1000 from ());by_cases g:(ks.length:Int)=en
  .have F:(L.filter (qi rs)).take en.toNat=ks:=by
    rw[e,List.take_left' ()]
   refine .inr (.inl ⟨[some (.val (jh rs)),some (.val (.int en)),some (.own false (.lst (ks.map js))),some (.val (js r))],by simp[g],?_⟩);rw[F];simp[jh]
  .have s:∀b,(ks.any λo=>JF o r)=b->zA ks r=if b=true then ks else ks++[r]:=λb G=>by unfold zA;rw[G]
   cases q:ks.any λo=>JF o r with
   |true =>
    rw[q] at f;rw[s true q,Zd rfl];exact .inl ⟨[some (.val (jh rs)),some (.val (.int en)),some (.own false (.lst (ks.map js))),some (.val (js r))],.inl (by simp[g,f]),(),le,_,rfl⟩
   |false =>
    rw[q] at f;rw[s false q,Ze Zj];exact .inl ⟨[some (.val (jh rs)),some (.val (.int en)),some (.own false (.lst ((ks++[r]).map js))),some (.val (js r))],.inl (by simp[g,f,hz]),(),(by rw[Ub,Ui];lia),_,rfl⟩
def ZS:FS:=(jz (jI 2 (Kk vu (J1 (jb 0) (J1 (jl j8 (jb 1) (dC (.int 1))) jc)))) (jz (qP (JD (jl vZ (jv jT (J1 (jb 2) jc)) (jb 1))) (Bi "TooMany" (jN (yi "more than ") (jb 1))) JO) (j1 (jv Ws (J1 (jb 2) jc)))))
def Q7:YG->Res D:=qx 3 2 ZS
def dW (rs:J0):(xN rs).length=(JQ rs).length:=by
 rw[<- La,(Qk _).length_eq]
def jS (most:Int)(t:J0):Option J0:=if(t.length:Int)<=most then some t else none
def x4:Option J0->Res D
 |some t=>.ok (jh t)
 |none=>.ex "TooMany" []
def Em {rs:J0}{most:Int}(ne:∀r∈rs,r ≠ [])(h:∀r∈rs,qN r)(i:∀r∈rs,r.length<=100)(e:rs.length<1000)(m:0<=most)(j:most<=1000):Q7 [jh rs,.int most]=x4 (jS most (JQ rs)):=by
 have f:=cS (en:=most+1) ne h i e ();have n:(xN rs).length<=rs.length:=Zh (VB _ _) (IY rs);have o:=dW rs;unfold jS;by_cases c:((JQ rs).length:Int)<=most
 .rw[Zd c];rw[UJ ()] at f;have b:Ws [jh (xN rs)]=some (.lst ((JS j6 (xN rs)).map js)):=IM (λr l=>ne r (ba.mp (Jf.mp l).1)) ();rw[La] at b;have b:Ws [jh (xN rs)]=some (jh (JQ rs)):=b;have g:¬most<((xN rs).length:Int):=()
  show _=Res.ok (jh (JQ rs));simp[Q7,ZS,f,g,b]
 .rw[Ze c];have g:most<(((xN rs).take (most+1).toNat).length:Int):=by
   grind
  have ⟨z,hz⟩:=T4 (x:= "more than ") (a:=most) () ();show _=Res.ex "TooMany" []
  simp_all [Q7,ZS]
def wA:FS:=(jz (jI 2 (J9 Q7 (J1 (jl jF (jb 0) (dC (.int 0))) (J1 (jb 1) jc)))) (jz (jQ (iS (uf (jb 0) (Wr (dC (.int 1))) Wq Wq)) (.one 3) (jI 2 (J9 Q7 (J1 (Kk ZR (J1 (jb 2) (J1 (jb 3) jc))) (J1 (jb 1) jc))))) (j1 (jb 2))))
def ya:YG->Res D:=jK 4 2 wA
def K6 (t f:J0):J0:=JQ (Wd t f)
structure AllOk (fs:List J0)(t:J0):Prop where
 row:∀r∈t,JRow r
 abv:∀r∈t,∀f∈fs,∃s∈f,JF s r=true
 least:∀q:Jz,(∀f∈fs,∃s∈f,JF s q=true)->∃r∈t,JF r q=true
 anti:∀r∈t,∀s∈t,JF r s=true->r=s
 strict:t.Pairwise λa b=>j6 a b=true
def En {r:Jz}(o:j4 r):JF r r=true:=zr.mpr λp hp=>⟨p.2,o.look hp,U5 _⟩
def Eo {rs:J0}:∀r∈JQ rs,∀s∈JQ rs,JF r s=true->r=s:=λr a s hs b=>wL.mp (xI.mp hs).2 r (xI.mp a).1 b
def L5 {f:J0}(h:∀r∈f,JRow r):AllOk [f] (JQ f):=by
 refine⟨λr a=>h r (xI.mp a).1,λr a g c=>?_,λq e=>?_,Eo,Wb f⟩
 .rw[Jd.mp c];exact⟨r,(xI.mp a).1,En (h r (xI.mp a).1).once⟩
 .obtain⟨s,hs,i⟩:=e f ();obtain⟨r,a,b⟩:=X2 (λr a=>⟨(h r a).once,(h r a).rise⟩) hs;exact⟨r,a,Ks b i⟩
def L6 {fs:List J0}{t f:J0}(A:AllOk fs t)(h:∀r∈f,JRow r):AllOk (fs++[f]) (K6 t f):=by
 have b:∀q∈Wd t f,JRow q:=λq e=>by
  obtain⟨r,a,o,c,rfl⟩:=wN.mp e;exact XB (A.row r a) (h o c)
 refine⟨λr a=>b r (xI.mp a).1,λq e g m=>?_,λq e=>?_,Eo,Wb _⟩
 .obtain⟨r,a,o,c,rfl⟩:=wN.mp (xI.mp e).1;rcases Jb.mp m with z|z
  .obtain⟨s,hs,i⟩:=A.abv r a g z;exact⟨s,hs,Ks i (Lz (A.row r a) (h o c))⟩
  .rw[Jd.mp z];exact⟨o,c,L0 (A.row r a) (h o c)⟩
 .obtain⟨r,a,i⟩:=A.least q λg m=>e g ();obtain⟨o,c,j⟩:=e f ();obtain⟨s,hs,l⟩:=X2 (λr a=>⟨(b r a).once,(b r a).rise⟩) (wN.mpr ⟨r,a,o,c,rfl⟩);exact⟨s,hs,Ks l (El (A.row r a) (h o c) i j)⟩
def Ep {rs:J0}(h:∀r∈rs,JRow r)(b:rs ≠ []):JQ rs ≠ []:=λz=>by
 cases rs with
 |nil=>exact b rfl
 |cons r rs =>
  obtain⟨s,hs,_⟩:=X2 (λr a=>⟨(h r a).once,(h r a).rise⟩) (Zqs)
  simp_all
def dD {f g:J0}(a:f ≠ [])(b:g ≠ []):Wd f g ≠ []:=λz=>by
 have:=cw f g;rw[z,ZC] at this;have:=Nat.mul_pos (Jr.mpr a) (Jr.mpr b);lia
def L8 {a b:J0}(i:∀r∈a,JRow r)(e:∀r∈b,JRow r)(h:∀q,(∃x∈a,JF x q=true)↔∃x∈b,JF x q=true):JQ a=JQ b:=by
 have f:∀{a b:J0},(∀r∈a,JRow r)->(∀r∈b,JRow r)->(∀q,(∃x∈a,JF x q=true)↔∃x∈b,JF x q=true)->∀r,r∈JQ a->r∈JQ b:=by
  intro a b i e h r l;obtain⟨m,s⟩:=xI.mp l;obtain⟨y,t,u⟩:=(h r).mp ⟨r,m,En (i r m).once⟩;obtain⟨j,n,o⟩:=X2 (λr l=>⟨(e r l).once,(e r l).rise⟩) t;have c:=(xI.mp n).1;have p:=Ks o u;obtain⟨x,v,g⟩:=(h j).mpr ⟨j,c,En (e j c).once⟩;rw[(wL.mp s x v (Ks g p))] at g
  rwa [IS (i r m).once (e j c).once (i r m).rise (e j c).rise g p]
 exact Wm xt (Wb a) (Wb b) λr=>⟨f i e h r,f e i (λq=>(h q).symm) r⟩
def L9 {f g:J0}(a:∀r∈f,JRow r)(b:∀r∈g,JRow r):∀q∈Wd f g,JRow q:=λq c=>by
 obtain⟨r,e,o,h,rfl⟩:=wN.mp c;exact XB (a r e) (b o h)
def dQ {t g:J0}(a:∀r∈t,JRow r)(b:∀r∈g,JRow r):JQ (K5 t g)=K6 t g:=L8 (L4 a b) (L9 a b) (dO a b)
def xD (most:Int):J0->List J0->Option J0
 |t,[]=>some t
 |t,g::gs=>(jS most (K6 t g)).bind λt'=>xD most t' gs
def LA (most)(t g)(gs):xD most t (g::gs)=(jS most (K6 t g)).bind λt'=>xD most t' gs:=rfl
def yk (most:Int)(f:J0)(fs:List J0):Option J0:=(jS most (JQ f)).bind λt=>xD most t fs
def WV {most:Int}{t t':J0}(h:jS most t=some t'):t'=t/\(t.length:Int)<=most:=by
 grind[jS]
def dN {t g:J0}(a:∀r∈t,JRow r)(b:∀r∈g,JRow r)(c:t ≠ [])(e:g ≠ []):K6 t g ≠ []:=Ep (L9 a b) (dD c e)
theorem LC {most:Int}:∀{a fs:List J0} {t t':J0},AllOk fs t->(t.length:Int)<=most->t ≠ []->(∀g∈a,g ≠ []/\∀r∈g,JRow r)->xD most t a=some t'->AllOk (fs++a) t'/\(t'.length:Int)<=most/\t' ≠ []
 | [],fs,t,t',A,hl,hn,_,h=>by
  cases h
  simp_all
 |g::a,fs,t,t',A,hl,hn,hg,h=>by
  unfold xD at h;cases q:jS most (K6 t g) with
  |none=>simp_all
  |some i =>
   rw[q] at h;obtain⟨e,c⟩:=WV q;have b:=hg g Zqs;have:=LC (L6 A b.2) c (dN A.row b.2 hn b.1) (λx f=>hg x (Zqm _ f)) (by rwa [<- e])
   simp_all
def IC (a:f ≠ []/\∀r∈f,JRow r)(b:∀g∈fs,g ≠ []/\∀r∈g,JRow r)(h:yk most f fs=some t):AllOk (f::fs) t/\(t.length:Int)<=most/\t ≠ []:=by
 unfold yk at h;cases q:jS most (JQ f) with
 |none=>simp_all
 |some i =>
  rw[q] at h;obtain⟨e,c⟩:=WV q;exact LC (L5 a.2) c (Ep a.2 a.1) b (by rwa [<- e])
def cV {f:J0}{fs:List J0}{most:Int}(o:f ≠ []/\∀r∈f,JRow r)(c:∀g∈fs,g ≠ []/\∀r∈g,JRow r)(u:f.length<1000)(B:0<=most)(m2:most<=1000)(M:fs.length<=900)
 (sz:∀(i:Nat) (t g:J0),AllOk (f::fs.take i) t->(t.length:Int)<=most->fs[i]? = some g->(K5 t g).length<1000/\t.length+g.length+t.length*g.length<=1000):
 ya [.lst ((f::fs).map jh),.int most]=x4 (yk most f fs):=by
 have h:=Em (rs:=f) (most:=most) (λr a=>(o.2 r a).ne) (λr a=>(o.2 r a).rise) (λr a=>by have:=(o.2 r a).len;lia) u B m2;have p:qU ((f::fs).map jh) 0=some (jh f):=by
  rw[show((0:Int))=((0:Nat):Int) from rfl,V2 ()];rfl
 have G:Qh (jh f::fs.map jh) (some 1) none none=fs.map jh:=by
  rw[IT _ ()];rfl
 unfold yk;cases q:jS most (JQ f) with
 |none =>
  rw[q] at h;have h:Q7 [jh f,.int most]=.ex "TooMany" []:=h;show _=Res.ex "TooMany" [];simp[ya,wA] at p ⊢;simp[p,h]
 |some l =>
  rw[q] at h;obtain⟨H,N⟩:=WV q;have h:Q7 [jh f,.int most]=.ok (jh l):=h;show _=x4 (xD most l fs);have O:AllOk [f] l:=by rw[H];exact L5 o.2
  have n:((qL (.one 3) (jI 2 (J9 Q7 (J1 (Kk ZR (J1 (jb 2) (J1 (jb 3) jc))) (J1 (jb 1) jc)))) (fs.map jh) [some (.val (.lst ((f::fs).map jh))),some (.val (.int most)),some (.val (jh l)),none]).bind (xi (j1 (jb 2)))).bind x8=x4 (xD most l fs):=by
   refine Ic (R:=λz=>(z.bind (xi (j1 (jb 2)))).bind x8=x4 (xD most l fs)) (P:=λi sd=>∃(t:J0) (v:Option SV),sd=[some (.val (.lst ((f::fs).map jh))),some (.val (.int most)),some (.val (jh t)),v]/\AllOk (f::fs.take i) t/\(t.length:Int)<=most/\xD most t (fs.drop i)=xD most l fs) () ?_ ?_
   .rintro sd ⟨t,v,rfl,A,lt,j⟩;rw[Zql,UT] at j;rw[<- j];simp[x4,xD]
   .rintro i x sd I ⟨t,v,rfl,A,lt,j⟩;obtain⟨g,m,rfl⟩:=QM I;have C:=(Jc.mp m).1;have s:=Ud m;obtain⟨J,K⟩:=sz i t g A lt m;have E:=fq (f:=t) (g:=g) A.row (c g s).2 K;have b:=L4 A.row (c g s).2;have e:=Em (rs:=K5 t g) (most:=most) (λr a=>(b r a).ne) (λr a=>(b r a).rise) (λr a=>by have:=(b r a).len;lia) J B m2;rw[dQ A.row (c g s).2] at e;have L:fs.drop i=g::fs.drop (i+1):=by
     rw[Uq C];rw[Zqg C] at m;rw[Zqi m]
    rw[L,LA] at j;cases y:jS most (K6 t g) with
    |none =>
     rw[y] at e j;have e:Q7 [jh (K5 t g),.int most]=.ex "TooMany" []:=e;refine .inr ⟨"TooMany",[],by simp[E,e],?_⟩;rw[<- j];rfl
    |some w =>
     rw[y] at e j;obtain⟨F,u⟩:=WV y;have e:Q7 [jh (K5 t g),.int most]=.ok (jh w):=e;refine .inl ⟨[some (.val (.lst ((f::fs).map jh))),some (.val (.int most)),some (.val (jh w)),some (.val (jh g))],by simp[E,e],w,_,rfl,?_,by rw[F];exact u,j⟩;rw[Wg m,F];exact L6 A (c g s).2
  simp[ya,wA] at p n ⊢;simp[p,h,G,n]
def dF {f g:J0}(b:g ≠ []):(K5 f g).length<=f.length*g.length+g.length:=by
 unfold K5;rw[Ub,Ub,L1];have a:=BJ (jL g) f;have p:0<g.length:=by grind
 have d:=VA (Zf (f.filter λr => !jL g r).length) (VB (λo => !jL f o) g);have e:=Nat.le_mul_of_pos_right (f.filter (jL g)).length p
 grind[Nat.add_mul]
def wC:FS:=(jz (qw 2 (J9 Q7 (J1 (jl jF (jb 0) (dC (.int 0))) (J1 (jb 1) jc)))) (jz (jQ (iS (uf (jb 0) (Wr (dC (.int 1))) Wq Wq)) (.one 3) (λsd=>(qw 2 (J9 Q7 (J1 (jl j8 (jb 2) (jb 3)) (J1 (jb 1) jc)))) (qE [2] sd))) (KE 2)))
def yt:YG->Res D:=qx 4 2 wC
def zv (most:Int):J0->List J0->Option J0
 |t,[]=>jS most t
 |t,g::gs=>(jS most t).bind λ_=>zv most (xz t g) gs
def LD {most:Int}{t:J0}(h:jS most t=none)(a):zv most t a=none:=by
 cases a with
 |nil=>exact h
 |cons g a=>show(jS most t).bind _=none;rw[h];rfl
def BK {most:Int}{t:J0}(h:(t.length:Int)<=most):jS most t=some t:=Zd h
def LF {most:Int}{t:J0}(h:most<(t.length:Int)):jS most t=none:=Ze ()
def vp:FS:=(j1 (jv WI (J1 (JZ [none,none,some 1] (iS (jb 0)) (.tup [0,1]) (xC (J1 (jb 0) (J1 (jl j8 (jb 1) (jb 2)) jc)))) jc)))
def wD:YG->Res D:=jK 2 2 vp
def Qy (r:Jz)(w:Int):Jz:=r.map λp=>(p.1,p.2+w)
def nI {r:Jz}{w:Int}(b:r.length<=1000):wD [js r,.int w]=.ok (js (Qy r w)):=by
 have a:jR (.tup [0,1]) (xC (J1 (jb 0) (J1 (jl j8 (jb 1) (jb 2)) jc))) [none,none,some (.val (.int w))] (r.map qJ)=.ok (r.map λp=>qJ (p.1,p.2+w)):=Ki λp hp=>by
  rfl
 simp[wD,vp,js,a,JT b,Qy]
def vm:FS:=(j1 (JZ [none,some 1] (iS (jb 0)) (.one 0) (J9 wD (J1 (jb 0) (J1 (jb 1) jc)))))
def zf:YG->Res D:=qx 2 2 vm
def Qm (f:J0)(w:Int):J0:=f.map λr=>Qy r w
def gP {f:J0}{w:Int}(b:f.length<=1000)(c:∀r∈f,r.length<=1000):zf [jh f,.int w]=.ok (jh (Qm f w)):=by
 have a:jR (.one 0) (J9 wD (J1 (jb 0) (J1 (jb 1) jc))) [none,some (.val (.int w))] (f.map js)=.ok (f.map λr=>js (Qy r w)):=Ki λr h=>by
  simp[nI (c r h)]
 have e:(Qm f w).map js=f.map λr=>js (Qy r w):=by unfold Qm;simp
 simp[zf,vm,jh,a,JT b,e]
def BL:FS:=(j1 (J9 ya (J1 (JZ [none,none,some 1] (iS (jb 0)) (.tup [0,1]) (Kk zf (J1 (jl jF (jb 2) (jb 0)) (J1 (jb 1) jc)))) (J1 (jb 2) jc))))
def Km:YG->Res D:=jK 3 3 BL
def qB (fs:List J0)(t:Int):J0:=fs.getD t.toNat []
def BM {fs:List J0}{t:Int}(a:0<=t)(b:t<(fs.length:Int)):qB fs t∈fs:=by
 simp_all [qB]
def LG {fs:List J0}{t:Int}(a:0<=t)(b:t<(fs.length:Int)):qU (fs.map jh) t=some (jh (qB fs t)):=by
 grind[Zql,List.getElem?_map,qB,V2]
def cR {r:Jz}{fs:List J0}(c:∀p∈r,0<=p.1/\p.1<(fs.length:Int))(e:∀f∈fs,f.length<=1000/\∀r∈f,r.length<=1000):
 jR (.tup [0,1]) (Kk zf (J1 (jl jF (jb 2) (jb 0)) (J1 (jb 1) jc))) [none,none,some (.val (.lst (fs.map jh)))] (r.map qJ)=.ok ((r.map λp=>Qm (qB fs p.1) p.2).map jh):=by
 rw[Zw];exact Ki λp hp=>by
  obtain⟨a,b⟩:=c p hp;obtain⟨g,h⟩:=e _ (BM a b);simp[(LG a b),(gP g h)]
def zP:FS:=(j1 (J9 yt (J1 (JZ [none,some 1,some 2] (iS (jb 0)) (.one 0) (J9 Km (J1 (jb 0) (J1 (jb 1) (J1 (jb 2) jc))))) (J1 (jb 2) jc))))
def xQ:YG->Res D:=qx 3 3 zP
def nH {a:J0}{fs:List J0}{most:Int}{g:Jz->J0}{d:D}(c:a.length<=100)
 (e:∀r∈a,Km [js r,.lst (fs.map jh),.int most]=.ok (jh (g r))) (h:yt [.lst ((a.map g).map jh),.int most]=.ok d):xQ [jh a,.lst (fs.map jh),.int most]=.ok d:=by
 have b:jR (.one 0) (J9 Km (J1 (jb 0) (J1 (jb 1) (J1 (jb 2) jc)))) [none,some (.val (.lst (fs.map jh))),some (.val (.int most))] (a.map js)=.ok ((a.map g).map jh):=by
  rw[Zw];exact Ki λr h=>by
   simp_all
 have hz:=JT (show a.length<=1000 from ())
 simp_all [xQ,zP]
def We (a:YG->HP->Res (D×HP)):qa:=(f9 (zZ (JD (jl xk (jb 1) (dC (.str "all"))))) (xa (J9 ya (J1 (jb 2) (J1 (jb 3) jc)))) (f9 (zZ (JD (jl xk (jb 1) (dC (.str "first"))))) (xa (J9 yt (J1 (jb 2) (J1 (jb 3) jc)))) (qT (z8 (wU [4] (JD (jl (wI true) (jb 1) (jb 4)))) (Bv (jb 4) (jb 1) (qG zF (Qi a (J1 (jb 0) (J1 (jb 1) (J1 (jb 3) (J1 (jb 4) jc))))) (xa (jN yC (dC (.int 1)))))) Bm) (Bu xQ (QJ (wa (jb 4) (jb 1)) (QJ (xa (jb 2)) (QJ (xa (jb 3)) Wu)))))))
def BN:FS:=(jz (jQ (iS (jN (j7 "Book" "plans") (jb 0))) (.one 2) (qP (JD (jl xk (jN (j7 "Plan" "name") (jb 2)) (jb 1))) (j1 (jb 2)) JO)) rP)
def XC:YG->Res D:=jK 3 2 BN
def Er {ps:List Pl}{x:Str}{p:Pl}(j:asc x)(hp:∀p∈ps,asc p.name)(g:ps.find? (λp=>decide (p.name=x))=some p):XC [J6 ps,.str x]=.ok (JE p):=by
 have l:qL (.one 2) (qP (JD (jl xk (jN (j7 "Plan" "name") (jb 2)) (jb 1))) (j1 (jb 2)) JO) (ps.map JE) [some (.val (J6 ps)),some (.val (.str x)),none]=.ok (.ret (JE p)):=by
  refine WN (R:=λr=>r=.ok (.ret (JE p))) (P:=λi sd=>(∀q∈ps.take i,decide (q.name=x)=false)/\∃u,sd=[some (.val (J6 ps)),some (.val (.str x)),u]) () (λsd ⟨e,f⟩=>?_) λi d sd m ⟨e,u,f⟩=>?_
  .grind
  .obtain⟨q,a,rfl⟩:=QM m;have n:q∈ps:=by grind
   have b:=(λp o=>QZ (hp p o) j) q n;have tk:ps.take (i+1)=ps.take i++[q]:=by rw[U8,a];rfl
   cases c:decide (q.name=x) with
   |true =>
    rw[c] at b;refine .inr (.inr ⟨JE q,?_,?_⟩)
    .subst f;simp[b]
    .rw[IU e a c] at g;cases g;rfl
   |false =>
    rw[c] at b;refine .inl ⟨[some (.val (J6 ps)),some (.val (.str x)),some (.val (JE q))],.inl ?_,λy h=>?_,_,rfl⟩
    .subst f;simp[b]
    .rw[tk] at h;rcases Jb.mp h with z|z
     .exact e y z
     .rwa [Jd.mp z]
 simp[XC,BN,l]
def vO:FS:=(j1 (qM (J1 (xC (J1 (xC (J1 (jb 0) (J1 (dC (.int 0)) jc))) jc)) jc)))
def vt:YG->Res D:=qx 1 1 vO
@[simp]def pM (t:Int):vt [.int t]=.ok (jh [[(t,0)]]):=by
 rfl
def ZT (a:YG->HP->Res (D×HP)):qa:=(qT (yf (jI 4 (Kk XC (J1 (jb 0) (J1 (jb 1) jc))))) (qT (yf (qw 5 (JZ [none] (zn (J1 (jv jT (J1 (jN (j7 "Plan" "givens") (jb 4)) jc)) jc)) (.one 0) (Kk vt (J1 (jb 0) jc))))) (qT (ZD (iS (jN (j7 "Plan" "rows") (jb 4))) (.tup [6,7,8]) (QH (yf (jI 9 (ZH [none,none,some 5] 2 (iS (jb 8)) (.tup [0,1]) (Kk zf (J1 (WM 2 (jb 0)) (J1 (jb 1) jc)))))) (K4 5 (Qi a (J1 (jb 0) (J1 (jb 7) (J1 (jb 9) (J1 (jb 2) (J1 (jb 3) jc))))))))) (zG 5 (xa (jb 5))))))
def QK:Nat->YG->HP->Res (D×HP)
 | 0=>λ_ _=>.no
 |n+1=>Qx 10 4 (ZT (Qx 5 5 (We (QK n))))
def Qv (n:Nat):YG->HP->Res (D×HP):=Qx 5 5 (We (QK n))
def rF (f:J0)(q:Jz):Prop:=∃x∈f,JF x q=true
structure Cn (f:J0):Prop where
 ne:f ≠ []
 rows:∀r∈f,JRow r
 thin:JQ f=f
def Cn.anti {f:J0}(C:Cn f):∀r∈f,∀s∈f,JF r s=true->r=s:=by
 have h:=Eo (rs:=f)
 rwa [C.thin] at h
def Cn.strict {f:J0}(C:Cn f):f.Pairwise λa b=>j6 a b=true:=by
 have h:=Wb f
 rwa [C.thin] at h
def dy {l:J0}(h:∀r∈l,JRow r)(q):rF (JQ l) q↔rF l q:=by
 constructor
 .rintro⟨x,a,b⟩;exact⟨x,(xI.mp a).1,b⟩
 .rintro⟨x,a,b⟩;obtain⟨s,hs,c⟩:=X2 (λr e=>⟨(h r e).once,(h r e).rise⟩) a;exact⟨s,hs,Ks c b⟩
def dh {l:J0}(h:∀r∈l,JRow r)(b:l ≠ []):Cn (JQ l):=⟨Ep h b,λr a=>h r (xI.mp a).1,L8 (λr a=>h r (xI.mp a).1) h (dy h)⟩
theorem Es (w:Int):∀(r:Jz) (t:Int),JA (Qy r w) t=(JA r t).map (· + w)
 | [],_=>rfl
 |p::r,t=>by
  have a:=Es w r t;show(match JA (Qy r w) t with|some v=>some v|none=>if p.1=t then some (p.2+w) else none)=Option.map _ (match JA r t with|some v=>some v|none=>if p.1=t then some p.2 else none)
  grind
def cI (r:Jz)(w:Int):Qy (Qy r w) (-w)=r:=by
 unfold Qy;rw[Zw];refine(UR λp _=>?_).trans (List.map_id r)
 grind
def cO {r q:Jz}{w:Int}:JF (Qy r w) q=true↔JF r (Qy q (-w))=true:=by
 rw[zr,zr];constructor
 .intro h p hp;obtain⟨u,a,l⟩:=h (p.1,p.2+w) (Ja.mpr ⟨p,hp,rfl⟩)
  grind[Es]
 .intro h p hp;obtain⟨p',hp',rfl⟩:=Ja.mp hp;obtain⟨u,a,l⟩:=h p' hp';rw[Es] at a;cases e:JA q p'.1 with
  |none=>simp_all
  |some v =>
   grind
def c0 {r:Jz}(h:JRow r)(w):JRow (Qy r w):=by
 refine⟨λz=>h.ne (Je.mp z),?_,λp hp=>?_⟩
 .have e:(Qy r w).map (·.1)=r.map (·.1):=by
   unfold Qy;simp
  unfold qN;rw[e];exact h.rise
 .obtain⟨p',hp',rfl⟩:=Ja.mp hp;exact h.bnd p' hp'
theorem LH (w:Int):∀a b:Jz,j6 (Qy a w) (Qy b w)=j6 a b
 | [],[]=>rfl
 | [],_::_=>rfl
 |_::_,[]=>rfl
 |p::a,q::b=>by
  show j6 ((p.1,p.2+w)::Qy a w) ((q.1,q.2+w)::Qy b w)=_;rw[V6,V6,LH w a b];by_cases h:p=q
  .rw[Zd h,h,Zd rfl]
  .rw[Ze h,Ze λz=>h ?_]
   .simp_all [jU]
   grind
def fN {f:J0}(C:Cn f)(w:Int):Cn (Qm f w):=by
 refine⟨λz=>C.ne (Je.mp z),λr j=>?_,Wm xt (Wb _) ?_ λr=>⟨λh=>(xI.mp h).1,λh=>xI.mpr ⟨h,wL.mpr λo l e=>?_⟩⟩⟩
 .obtain⟨g,c,rfl⟩:=Ja.mp j;exact c0 (C.rows g c) w
 .unfold Qm;rw[UZ];exact C.strict.imp λ{a b} h=>by rwa [LH]
 .obtain⟨m,i,rfl⟩:=Ja.mp l;obtain⟨g,c,rfl⟩:=Ja.mp h;have e:=cO.mp e;rw[cI] at e;rw[C.anti m i g c e]
def cG {r:Jz}(h:r ≠ [])(w:Int)(hs:Yh):Qc (Qy r w) hs=Qc r hs+w:=by
 unfold Qc Qy;rw[<- dX (λz=>h (Je.mp z)),Zw,Zw]
 congr 1
 refine UR λp _=>?_
 grind
def cP {f:J0}(b:f ≠ [])(a:∀r∈f,r ≠ [])(w)(hs):J7 (Qm f w) hs=J7 f hs+w:=by
 unfold J7 Qm;rw[<- dP (λz=>b (Je.mp z)),Zw,Zw]
 congr 1
 exact UR λr c=>cG (a r c) w hs
def cA {n:Int}{fs:List J0}{t:J0}{hs:Yh}(A:AllOk fs t)(E:t ≠ [])(F:fs ≠ [])(u:∀f∈fs,f ≠ []/\∀r∈f,r ≠ []/\j4 r/\∀p∈r,0<=p.1/\p.1<12):J7 t hs=qK (fs.map λf=>J7 f hs):=by
 have g:∀{r:Jz},r ≠ []->∀p∈r,jM hs p.1+p.2<=Qc r hs:=λ{r} i p hp=>(W7 (l:=r.map λp=>jM hs p.1+p.2) (λz=>i (Je.mp z))).2 _ (Ja.mpr ⟨p,hp,rfl⟩);have j:∀{r:Jz} {M:Int},r ≠ []->(∀p∈r,jM hs p.1+p.2<=M)->Qc r hs<=M:=λ{r M} i h=>by
  obtain⟨m,_⟩:=W7 (l:=r.map λp=>jM hs p.1+p.2) (λz=>i (Je.mp z));obtain⟨p,hp,e⟩:=Ja.mp m;have:=h p hp;have e:jM hs p.1+p.2=Qc r hs:=e;lia
 obtain⟨G,m2⟩:=W7 (l:=fs.map λf=>J7 f hs) (λz=>F (Je.mp z));have m2:∀f∈fs,J7 f hs<=qK (fs.map λf=>J7 f hs):=λf h=>m2 _ (Ja.mpr ⟨f,h,rfl⟩);obtain⟨v,o,x⟩:=Ja.mp G;have x:J7 v hs=qK (fs.map λf=>J7 f hs):=x;generalize qK (fs.map λf=>J7 f hs)=M at m2 x;obtain⟨r,i,O⟩:=WS (hs:=hs) E;have lo:M<=J7 t hs:=by
  obtain⟨s,c,y⟩:=A.abv r i v o;have H:=Wv (hs:=hs) c;have I:Qc s hs<=Qc r hs:=j ((u v o).2 s c).1 λp hp=>by
   obtain⟨w,B,J⟩:=zr.mp y p hp;have:=g (A.row r i).ne (p.1,w) (Qj B);have this:jM hs p.1+w<=Qc r hs:=this;lia
  lia
 obtain⟨q,C,y⟩:=A.least ((List.range 12).map λk:Nat=>((k:Int),M-jM hs (k:Int))) λf h=>by
  obtain⟨s,c,es⟩:=WS (hs:=hs) (u f h).1;obtain⟨K,P,L⟩:=(u f h).2 s c;refine⟨s,c,zr.mpr λp hp=>⟨M-jM hs p.1,?_,?_⟩⟩
  .have N:j4 ((List.range 12).map λk:Nat=>((k:Int),M-jM hs (k:Int))):=by
    unfold j4;rw[Zw];unfold List.Nodup;rw[UZ];exact(List.nodup_range (n:=12)).imp λ{a b} h e=>h (by have e:(a:Int)=(b:Int):=e;lia)
   have b:=L p hp;exact N.look (Ja.mpr ⟨p.1.toNat,Jh.mpr (),by rw[show((p.1.toNat:Nat):Int)=p.1 by lia]⟩)
  .have a:=g K p hp;have b:=m2 f h;lia
 have H:=Wv (hs:=hs) C;have I:Qc q hs<=M:=j (A.row q C).ne λp hp=>by
  obtain⟨w,B,J⟩:=zr.mp y p hp;obtain⟨k,Q,R⟩:=Ja.mp (Qj B)
  grind
 lia
theorem LJ {α: Type}{tg:Tg}{f:FE}{c:SD}{k:α -> D}{n:Str}{b:YG}:∀{a:List α},(∀x∈a,(∃v,(JM tg (k x) c).bind f=.ok v)\/(JM tg (k x) c).bind f=.ex n b)->(∃x∈a,(JM tg (k x) c).bind f=.ex n b)->jR tg f c (a.map k)=.ex n b
 | [],_,⟨_,h,_⟩=>nomatch h
 |x::a,h,⟨y,hy,e⟩=>by
  have nx:jR tg f c ((x::a).map k)=((JM tg (k x) c).bind f).bind λv=>(jR tg f c (a.map k)).bind λg=>.ok (v::g):=rfl;rw[nx];rcases h x Zqs with ⟨v,q⟩|q
  .rw[q,LJ (λz hz=>h z (Zqm _ hz)) ?_]
   .rfl
   grind
  simp_all
def cJ {f:J0}{fs:List J0}{most:Int}(p:Cn f/\f.length<=64)(q:∀g∈fs,Cn g/\g.length<=64)(A:0<=most)(m2:most<=60)(F:fs.length<=900):
 yt [.lst ((f::fs).map jh),.int most]=x4 (zv most f fs):=by
 have u:∀{rs:J0},(∀r∈rs,JRow r)->rs.length<=200->Q7 [jh rs,.int most]=x4 (jS most (JQ rs)):=λ{rs} h l=>Em (λr e=>(h r e).ne) (λr e=>(h r e).rise) (λr e=>by have:=(h r e).len;lia) () A ();have j:=u (rs:=f) p.1.rows ();rw[p.1.thin] at j;have n:qU ((f::fs).map jh) 0=some (jh f):=by
  rw[show((0:Int))=((0:Nat):Int) from rfl,V2 ()];rfl
 have B:Qh (jh f::fs.map jh) (some 1) none none=fs.map jh:=by
  rw[IT _ ()];rfl
 by_cases v:(f.length:Int)<=most
 .rw[BK v] at j;have j:Q7 [jh f,.int most]=.ok (jh f):=j;have m:((qL (.one 3) (λsd=>(qw 2 (J9 Q7 (J1 (jl j8 (jb 2) (jb 3)) (J1 (jb 1) jc)))) (qE [2] sd)) (fs.map jh) [some (.val (.lst ((f::fs).map jh))),some (.val (.int most)),some (.own false (jh f)),none]).bind (xi (KE 2))).bind zl=x4 (zv most f fs):=by
   refine Ic (R:=λz=>(z.bind (xi (KE 2))).bind zl=x4 (zv most f fs)) (P:=λi sd=>∃(t:J0) (s:Option SV),sd=[some (.val (.lst ((f::fs).map jh))),some (.val (.int most)),some (.own false (jh t)),s]/\(∀r∈t,JRow r)/\(t.length:Int)<=most/\zv most t (fs.drop i)=zv most f fs) ⟨f,none,rfl,p.1.rows,v,rfl⟩ ?_ ?_
   .rintro sd ⟨t,s,rfl,T,lt,b⟩;rw[Zql,UT] at b;rw[<- b];show _=x4 (jS most t);rw[BK lt];rfl
   .rintro i x sd C ⟨t,s,rfl,T,lt,b⟩;obtain⟨g,o,rfl⟩:=QM C;have w:=(Jc.mp o).1;obtain⟨G,H⟩:=q g (Ud o);have y:=tO (f:=t) (g:=g) ();have tg:∀r∈t++g,JRow r:=λr e=>(Jb.mp e).elim (λz=>T r z) λz=>G.rows r z;have a:=u (rs:=t++g) tg (by rw[Ub];lia);have E:fs.drop i=g::fs.drop (i+1):=by
     rw[Uq w];rw[Zqg w] at o;rw[Zqi o]
    rw[E] at b;have b:(jS most t).bind (λ_=>zv most (xz t g) (fs.drop (i+1)))=zv most f fs:=b;rw[BK lt] at b;have b:zv most (xz t g) (fs.drop (i+1))=zv most f fs:=b;by_cases c:((xz t g).length:Int)<=most
    .have a:Q7 [jh (t++g),.int most]=.ok (jh (xz t g)):=by
      rw[a];show x4 (jS most (xz t g))=_;rw[BK c];rfl
     exact .inl ⟨[some (.val (.lst ((f::fs).map jh))),some (.val (.int most)),some (.own false (jh (xz t g))),some (.val (jh g))],by simp[y,a],xz t g,_,rfl,λr e=>tg r (xI.mp e).1,c,b⟩
    .have no:jS most (xz t g)=none:=Ze c;have a:Q7 [jh (t++g),.int most]=.ex "TooMany" []:=by
      rw[a];show x4 (jS most (xz t g))=_;rw[no];rfl
     refine .inr ⟨"TooMany",[],by simp[y,a],?_⟩;rw[<- b,LD no];rfl
  simp[yt,wC] at n m ⊢;simp[n,j,B,m]
 .rw[LF ()] at j;have j:Q7 [jh f,.int most]=.ex "TooMany" []:=j;rw[LD (LF ())];show _=Res.ex "TooMany" [];simp[yt,wC] at n ⊢;simp[n,j]
def dL {a b:J0}(A:Cn a)(B:Cn b)(hs:Yh):Cn (xz a b)/\J7 (xz a b) hs<=J7 a hs/\J7 (xz a b) hs<=J7 b hs/\(J7 (xz a b) hs=J7 a hs\/J7 (xz a b) hs=J7 b hs):=by
 have c:=λr e=>(Jb.mp e).elim (A.rows r) (B.rows r);have ne:a++b ≠ []:=λz=>A.ne (Jy.mp z).1;refine⟨dh c ne,?_⟩;unfold xz;rw[c9 ne λr e=>⟨(c r e).ne,(c r e).once,(c r e).rise⟩];exact cf A.ne B.ne
theorem LK (hs:Yh):∀(a:List J0) (t:J0),Cn t->(∀g∈a,Cn g)->Cn (a.foldl xz t)/\(J7 (a.foldl xz t) hs=J7 t hs\/∃g∈a,J7 (a.foldl xz t) hs=J7 g hs)/\J7 (a.foldl xz t) hs<=J7 t hs/\∀g∈a,J7 (a.foldl xz t) hs<=J7 g hs
 | [],t,T,_=>⟨T,.inl rfl,U5 _,λ_ h=>nomatch h⟩
 |g::a,t,T,G=>by
  obtain⟨b,e,f,i⟩:=dL T (G g Zqs) hs;obtain⟨c,j,l,m⟩:=LK hs a (xz t g) b ()
  grind
theorem LL {P:Jz->Prop}:∀(a:List J0) (t:J0),(∀r∈t,P r)->(∀g∈a,∀r∈g,P r)->∀r∈a.foldl xz t,P r
 | [],_,h,_=>h
 |g::a,t,h,k=>LL a (xz t g) (λr b=>(Jb.mp (xI.mp b).1).elim (h r) ()) ()
theorem LM {most:Int}:∀(a:List J0) (t t':J0),xD most t a=some t'->t'=a.foldl K6 t
 | [],_,_,h=>(Zqi h).symm
 |g::a,t,t',h=>by
  rw[LA] at h;cases q:jS most (K6 t g) with
  |none=>simp_all
  |some b =>
   rw[q] at h;rw[Vh,<- ((WV q).1)];exact LM a b t' h
def de {most:Int}{f:J0}{fs:List J0}{t:J0}(h:yk most f fs=some t):t=fs.foldl K6 (JQ f):=by
 unfold yk at h;cases q:jS most (JQ f) with
 |none=>simp_all
 |some a =>
  rw[q] at h;rw[<- (WV q).1];exact LM fs a t h
theorem LN {most:Int}:∀(a:List J0) (t t':J0),zv most t a=some t'->t'=a.foldl xz t/\(t'.length:Int)<=most
 | [],t,t',h=>by
  obtain⟨e,l⟩:=WV (h)
  simp_all
 |g::a,t,t',h=>by
  have h:(jS most t).bind (λ_=>zv most (xz t g) a)=some t':=h;cases q:jS most t with
  |none=>simp_all
  |some b =>
   rw[q] at h;exact LN a (xz t g) t' h
def ca {a b:Jz}(g:JRow a)(h:JRow b):∀p∈Q3 a b,p∈a\/p∈b:=λp hp=>by
 have c:=(XB g h).once.look hp;rw[BI g.once h.once] at c;cases f:JA a p.1 with
 |some w =>
  cases e:JA b p.1 with
  |some v =>
   rw[f,e] at c;have i:=Qj f;have m2:=Qj e;have c:some (if w > v then w else v)=some p.2:=c
   grind
  |none =>
   rw[f,e] at c;have i:=Qj f;rw[Zqi c] at i
   simp_all
 |none =>
  cases e:JA b p.1 with
  |some v =>
   rw[f,e] at c;have m2:=Qj e;rw[Zqi c] at m2
   simp_all
  |none=>rw[f,e] at c;cases c
theorem LO {Q:Int×Int->Prop}:∀(c:List J0) t,(∀r∈t,JRow r/\∀p∈r,Q p)->(∀g∈c,∀r∈g,JRow r/\∀p∈r,Q p)->∀r∈c.foldl K6 t,∀p∈r,Q p
 | [],t,ht,_=>λr e=>(ht r e).2
 |g::c,t,ht,hg=>LO c (K6 t g) (λr e=>by
  obtain⟨a,i,b,j,rfl⟩:=wN.mp (xI.mp e).1;obtain⟨f,l⟩:=ht a i;obtain⟨h,m⟩:=hg g Zqs b j;exact⟨XB f h,λp hp=>(ca f h p hp).elim (l p) (m p)⟩) λx n=>hg x (Zqm _ n)
structure Tf (n:Nat)(W:Int)(t:J0):Prop where
 cn:Cn t
 len:t.length<=12
 th:∀r∈t,∀p∈r,p.1<(n:Int) /\ -W<=p.2/\p.2<=W
def Tf.row {n:Nat}{W:Int}{t:J0}(T:Tf n W t):∀r∈t,JRow r/\∀p∈r,p.1<(n:Int) /\ -W<=p.2/\p.2<=W:=λr a=>⟨T.cn.rows r a,T.th r a⟩
def Tf.mono {n:Nat}{W V:Int}{t:J0}(T:Tf n W t)(h:W<=V):Tf n V t:=⟨T.cn,T.len,λr a p hp=>by have:=T.th r a p hp;lia⟩
def Tf.wait {n:Nat}{W V:Int}{t:J0}(T:Tf n W t){w:Int}(e: -V<=w/\w<=V):Tf n (W+V) (Qm t w):=by
 refine⟨fN T.cn w,?_,λr b p hp=>?_⟩
 .unfold Qm;rw[Zql];exact T.len
 .obtain⟨c,a,rfl⟩:=Ja.mp b;obtain⟨p',hp',rfl⟩:=Ja.mp hp;have:=T.th c a p' hp';lia
def Tf.comes {n:Nat}{W:Int}{t:J0}(T:Tf n W t)(w)(hs):J7 (Qm t w) hs=J7 t hs+w:=cP T.cn.ne (λr a=>(T.cn.rows r a).ne) w hs
def K7:Res D:=.ex "TooMany" []
def LQ {n:Nat}{W:Int}{fs:List J0}(ne:fs ≠ [])(h:∀g∈fs,Tf n W g)(l:fs.length<=100):ya [.lst (fs.map jh),.int 8]=K7\/∃t,ya [.lst (fs.map jh),.int 8]=.ok (jh t)/\Tf n W t/\∀hs,J7 t hs=qK (fs.map λg=>J7 g hs):=by
 cases fs with
 |nil=>simp_all
 |cons f fs =>
  have c:=h f Zqs;have b:=λg a=>h g (Zqm _ a);have l:fs.length+1<=100:=l;have w:=c.len;have A:=cV (most:=8) ⟨c.cn.ne,c.cn.rows⟩ (λg a=>⟨(b g a).cn.ne,(b g a).cn.rows⟩) () () () () λi t g _ lt a=>by
   have G:=b g (Ud a);have s:=G.len;have e:=dF (f:=t) G.cn.ne;have lt:t.length<=12:=()
   have m:=VA lt s;lia
  rw[A];cases q:yk 8 f fs with
  |none=>exact .inl rfl
  |some t =>
   refine .inr ⟨t,rfl,?_⟩;have ⟨A,lt,p⟩:=IC ⟨c.cn.ne,c.cn.rows⟩ (λg a=>⟨(b g a).cn.ne,(b g a).cn.rows⟩) q;have e:=de q;rw[c.cn.thin] at e;refine⟨⟨⟨p,A.row,Wm xt (Wb _) A.strict λr=>⟨λh=>(xI.mp h).1,λh=>xI.mpr ⟨h,wL.mpr λo u v=>A.anti o u r h v⟩⟩⟩,(),?_⟩,λhs=>cA (n:=0) A p () λg a=>⟨(h g a).cn.ne,λr j=>⟨((h g a).cn.rows r j).ne,((h g a).cn.rows r j).once,((h g a).cn.rows r j).bnd⟩⟩⟩;rw[e];exact LO fs f c.row λg a=>(b g a).row
def LR {n:Nat}{W:Int}{fs:List J0}(ne:fs ≠ [])(h:∀g∈fs,Tf n W g)(l:fs.length<=100):yt [.lst (fs.map jh),.int 8]=K7\/∃t,yt [.lst (fs.map jh),.int 8]=.ok (jh t)/\Tf n W t/\∀hs,J7 t hs=xb (fs.map λg=>J7 g hs):=by
 cases fs with
 |nil=>simp_all
 |cons f fs =>
  have c:=h f Zqs;have b:=λg a=>h g (Zqm _ a);have l:fs.length+1<=100:=l;have o:=c.len;rw[cJ ⟨c.cn,()⟩ (λg a=>⟨(b g a).cn,by have:=(b g a).len;lia⟩) () () ()];cases q:zv 8 f fs with
  |none=>exact .inl rfl
  |some t =>
   refine .inr ⟨t,rfl,?_⟩;have ⟨e,lt⟩:=LN fs f t q;have C:=λhs=>LK hs fs f c.cn λg a=>(b g a).cn;rw[<- e] at C;refine⟨⟨(C []).1,(),?_⟩,λhs=>?_⟩
   .rw[e];exact LL fs f c.th λg a=>(b g a).th
   .have ⟨_,i,p,j⟩:=C hs;refine Co ?_ λy m=>?_
    .rcases i with z|⟨g,a,z⟩
     .exact Ja.mpr ⟨f,Zqs,z.symm⟩
     .exact Ja.mpr ⟨g,Zqm _ a,z.symm⟩
    .obtain⟨g,a,rfl⟩:=Ja.mp m;rcases UV.mp a with z|z
     .rwa [z]
     .exact j g z
def dZ {fs:List J0}{t:Int}(a:0<=t)(b:t<(fs.length:Int))(hs:Yh):jM (fs.map λg=>J7 g hs) t=J7 (qB fs t) hs:=by
 simp_all [jM,qB]
def LS {n:Nat}{W V:Int}{T:List J0}(c:∀g∈T,Tf n W g){its:Jz}(e:∀p∈its,0<=p.1/\p.1<(T.length:Int))(f:∀p∈its,-V<=p.2/\p.2<=V):(∀g∈its.map λp=>Qm (qB T p.1) p.2,Tf n (W+V) g)/\∀hs,(its.map λp=>Qm (qB T p.1) p.2).map (λg=>J7 g hs)=qW (T.map λg=>J7 g hs) its:=by
 refine⟨λg h=>?_,λhs=>?_⟩
 .obtain⟨p,hp,rfl⟩:=Ja.mp h;obtain⟨a,b⟩:=e p hp;exact(c _ (BM a b)).wait (f p hp)
 .rw[Zw];refine UR λp hp=>?_;obtain⟨a,b⟩:=e p hp;show J7 (Qm (qB T p.1) p.2) hs=_;rw[(c _ (BM a b)).comes,dZ a b]
def cL {n:Nat}{W V:Int}{fs:List J0}{r:Jz}(a:JRow r)(b:∀p∈r,p.1<(fs.length:Int) /\ -V<=p.2/\p.2<=V)(h:∀g∈fs,Tf n W g):Km [js r,.lst (fs.map jh),.int 8]=K7\/∃t,Km [js r,.lst (fs.map jh),.int 8]=.ok (jh t)/\Tf n (W+V) t/\∀hs,J7 t hs=Qc r (fs.map λg=>J7 g hs):=by
 have j:=λp hp=>(b p hp).2;have b:∀p∈r,0<=p.1/\p.1<(fs.length:Int):=λp hp=>⟨(a.bnd p hp).1,(b p hp).1⟩;have q:=a.len;obtain⟨l,m⟩:=LS h b j;have o:∀f∈fs,f.length<=1000/\∀r∈f,r.length<=1000:=λf i=>⟨by have:=(h f i).len;lia,λr a=>by have:=((h f i).cn.rows r a).len;lia⟩;have c:=cR b o;have e:Km [js r,.lst (fs.map jh),.int 8]=ya [.lst ((r.map λp=>Qm (qB fs p.1) p.2).map jh),.int 8]:=by
  generalize (r.map λp=>Qm (qB fs p.1) p.2).map jh=ds at c;simp[Km,BL,c,(JT (show r.length<=1000 from ()))];cases ya [D.lst ds,D.int 8]<;>rfl
 rw[e];rcases LQ (λz=>a.ne (Je.mp z)) l () with z|⟨t,z1,z2,z3⟩
 .exact .inl z
 .refine .inr ⟨t,z1,z2,λhs=>?_⟩;rw[z3,m];rfl
def LU {n m:Nat}{W V:Int}{a:J0}{fs:List J0}(F:Tf m V a)(j:fs.length=m)(h:∀g∈fs,Tf n W g):xQ [jh a,.lst (fs.map jh),.int 8]=K7\/∃t,xQ [jh a,.lst (fs.map jh),.int 8]=.ok (jh t)/\Tf n (W+V) t/\∀hs,J7 t hs=J7 a (fs.map λg=>J7 g hs):=by
 have R:∀r∈a,_:=λr b=>cL (n:=n) (fs:=fs) (V:=V) (F.cn.rows r b) (by rw[j];exact F.th r b) h;have s:=F.len;have i:∀r,(JM (.one 0) (js r) [none,some (.val (.lst (fs.map jh))),some (.val (.int 8))]).bind (J9 Km (J1 (jb 0) (J1 (jb 1) (J1 (jb 2) jc))))=Km [js r,.lst (fs.map jh),.int 8]:=λr=>by
  simp
 by_cases c:∃r∈a,Km [js r,.lst (fs.map jh),.int 8]=K7
 .left;have e:jR (.one 0) (J9 Km (J1 (jb 0) (J1 (jb 1) (J1 (jb 2) jc)))) [none,some (.val (.lst (fs.map jh))),some (.val (.int 8))] (a.map js)=.ex "TooMany" []:=by
   refine LJ (λr b=>?_) ?_
   .rw[i];rcases R r b with z|⟨t,z,_⟩
    .exact .inr z
    .exact .inl ⟨_,z⟩
   .obtain⟨r,b,z⟩:=c;exact⟨r,b,by rw[i];exact z⟩
  simp[xQ,zP,e,(JT (show a.length<=1000 from ())),K7]
 .have l:∀r,∃t,r∈a->Km [js r,.lst (fs.map jh),.int 8]=.ok (jh t)/\Tf n (W+V) t/\∀hs,J7 t hs=Qc r (fs.map λg=>J7 g hs):=λr=>by
   by_cases b:r∈a
   .rcases R r b with z|⟨t,z⟩
    .exact Zn ⟨r,b,z⟩ c
    .exact⟨t,λ_=>z⟩
   simp_all
  have ⟨G,f⟩:=Classical.axiomOfChoice l;have p:=λd=>nH (d:=d) () λr b=>(f r b).1;have o:∀g∈a.map G,Tf n (W+V) g:=λg q=>by
   obtain⟨r,b,rfl⟩:=Ja.mp q;exact(f r b).2.1
  have e:jR (.one 0) (J9 Km (J1 (jb 0) (J1 (jb 1) (J1 (jb 2) jc)))) [none,some (.val (.lst (fs.map jh))),some (.val (.int 8))] (a.map js)=.ok ((a.map G).map jh):=by
   rw[Zw];exact Ki λr h=>by
    rw[i];exact(f r h).1
  rcases LR (λz=>F.cn.ne (Je.mp z)) o (by rw[Zql];lia) with z|⟨t,z1,z2,z3⟩
  .left;generalize (a.map G).map jh=ds at e z;simp[xQ,zP,e,(JT (show a.length<=1000 from ())),z,K7]
  .refine .inr ⟨t,p _ z1,z2,λhs=>?_⟩;rw[z3,Zw]
   congr 1
   exact UR λr b=>((f r b).2.2 hs)
def Wf {f:FT}{sd:SD}{hp:HP}{b:Bool}(h:f sd=.ok b):zZ f sd hp=.ok (b,hp):=by
 simp_all [zZ]
def BO {n ar:Nat}{g:qa}{ds:YG}{a:Addr}{d:D}{x:Res D}{e:D}(h:ds.length=ar)(b:g (JW n ds) [(a,d)]=x.bind λt=>.ok (t,[(a,e)])):Qx n ar g ds [(a,d)]=x.bind λt=>.ok (t,[(a,e)]):=by
 unfold Qx;rw[Zd h,b];cases x with
 |ok t=>exact Zd rfl
 |ex c es=>rfl
 |no=>rfl
def LV {n ar:Nat}{g:qa}{ds:YG}{hp:HP}{c:Str}{a:YG}(h:ds.length=ar)(b:g (JW n ds) hp=.ex c a):Qx n ar g ds hp=.ex c a:=by
 simp_all [Qx]
def wV (a b c d e):JW 5 [a,b,c,d,e]=[some (.val a),some (.val b),some (.val c),some (.val d),some (.val e)]:=rfl
def LW {n:Nat}(bk d e:D)(a:Addr):Qv n [bk,.str "all",d,.int 8,.adr a] [(a,e)]=(ya [d,.int 8]).bind λt=>.ok (t,[(a,e)]):=by
 refine BO rfl ?_;rw[wV];unfold We;rw[Wc,Wf (b:=true) (by simp[Lk]),ji,Zd rfl];simp
def LX {n:Nat}(bk d e:D)(a:Addr):Qv n [bk,.str "first",d,.int 8,.adr a] [(a,e)]=(yt [d,.int 8]).bind λt=>.ok (t,[(a,e)]):=by
 refine BO rfl ?_;rw[wV];unfold We;rw[Wc,Wf (b:=false) (by simp[Ll]),ji,Ze (),Wc,Wf (b:=true) (by simp[Lm]),ji,Zd rfl];simp
theorem LY {q:j5}:∀{ks:List j5},q∉ks->yS q ks=false
 | [],_=>rfl
 |k::ks,h=>by
  show(decide (k=q)||yS q ks)=false;rw[LY λz=>h (Zqm _ z),Zo λz=>h ()];rfl
theorem LZ {q:j5}{d:D}:∀{ks:List j5} {ds:YG},ks.length=ds.length->q∉ks->jD (ks++[q]) (ds++[d]) q=some d
 | [],[],_,_=>Zd rfl
 | [],_::_,h,_=>by cases h
 |_::_,[],h,_=>by cases h
 |k::ks,e::ds,h,hq=>by
  show(if k=q then some e else jD (ks++[q]) (ds++[d]) q)=_;rw[Ze λz=>hq ()];exact LZ (UK h) ()
def di {fo fi:FE}{sd:SD}{a:Addr}{how:Str}{ks:List j5}{ds:YG}{z:D}(b:fo sd=.ok (.adr a))(c:fi sd=.ok (.str how))(hz:jD ks ds (.inr how)=some z):wa fo fi sd [(a,.dct ks ds)]=.ok (z,[(a,.dct ks ds)]):=by
 simp_all [wa,X4]
def Ma {bk d:D}{how:Str}{a:Addr}{ks:List j5}{ds:YG}{z:D}(hz:jD ks ds (.inr how)=some z):Bu xQ (QJ (wa (jb 4) (jb 1)) (QJ (xa (jb 2)) (QJ (xa (jb 3)) Wu))) [some (.val bk),some (.val (.str how)),some (.val d),some (.val (.int 8)),some (.val (.adr a))] [(a,.dct ks ds)]=(xQ [z,d,.int 8]).bind λt=>.ok (t,[(a,.dct ks ds)]):=by
 unfold Bu;rw[c8,di rfl rfl hz,ji];simp
def Et {bk d:D}{how:Str}{a:Addr}{ks:List j5}{ds:YG}:wU [4] (JD (jl (wI true) (jb 1) (jb 4))) [some (.val bk),some (.val (.str how)),some (.val d),some (.val (.int 8)),some (.val (.adr a))] [(a,.dct ks ds)]=.ok (!(jD ks ds (.inr how)).isSome):=by
 have e:derI [(a,.dct ks ds)] [4] [some (.val bk),some (.val (.str how)),some (.val d),some (.val (.int 8)),some (.val (.adr a))]=[some (.val bk),some (.val (.str how)),some (.val d),some (.val (.int 8)),some (.val (.dct ks ds))]:=by
  simp_all [der,X4]
 unfold wU;rw[e];rfl
def kN {n:Nat}{bk d:D}{how:Str}(c:asc how)(e:how ≠ "all")(f:how ≠ "first"){a:Addr}{ks:List j5}{ds:YG}{z:D}(hz:jD ks ds (.inr how)=some z):Qv n [bk,.str how,d,.int 8,.adr a] [(a,.dct ks ds)]=(xQ [z,d,.int 8]).bind λt=>.ok (t,[(a,.dct ks ds)]):=by
 refine BO rfl ?_;rw[wV];unfold We;rw[Wc,Wf (b:=false) (by simp[(QZ c Ww),e]),ji,Ze (),Wc,Wf (b:=false) (by simp[(QZ c Wx),f]),ji,Ze ()];exact wW (Ls (by rw[Et,hz];rfl) rfl) (Ma hz)
def sJ {n:Nat}{bk d:D}{how:Str}(e:asc how)(j:how ≠ "all")(m:how ≠ "first"){a:Addr}{ks ks':List j5}{ds ds':YG}(hz:jD ks ds (.inr how)=none){ys:List J0}{t:J0}(h:QK n [bk,.str how,.int 8,.adr a] [(a,.dct ks ds)]=.ok (.lst ((ys++[t]).map jh),[(a,.dct ks' ds')]))(i:ks'.length=ds'.length)(g: .inr how∉ks')(l:ks'.length<=1000):
 Qv n [bk,.str how,d,.int 8,.adr a] [(a,.dct ks ds)]=(xQ [jh t,d,.int 8]).bind λz=>.ok (z,[(a,.dct (ks'++[.inr how]) (ds'++[jh t]))]):=by
 have o:=QZ e Ww;have p:=QZ e Wx;have c:=DY (f:=jh) ys t;have q:=JT l;have r:=LY g;refine BO rfl ?_;rw[wV];unfold We;rw[Wc,Wf (b:=false) (),ji,Ze (),Wc,Wf (b:=false) (),ji,Ze ()];refine wW (sd':=[some (.val bk),some (.val (.str how)),some (.val d),some (.val (.int 8)),some (.val (.adr a))]) (Lr (by rw[Et,hz];rfl) ?_) (Ma (LZ (d:=jh t) i g));unfold Bv;have s:qG zF (Qi (QK n) (J1 (jb 0) (J1 (jb 1) (J1 (jb 3) (J1 (jb 4) jc))))) (xa (jN yC (dC (.int 1)))) [some (.val bk),some (.val (.str how)),some (.val d),some (.val (.int 8)),some (.val (.adr a))] [(a,.dct ks ds)]=.ok (jh t,[(a,.dct ks' ds')]):=by
  generalize (ys++[t]).map jh=es at h c;have c:zF (.lst es) (.int (-1))=some (jh t):=c
  simp_all
 simp_all [IG,VV,Wo,X4,dw]
def kO {n:Nat}{bk d:D}{how:Str}(e:asc how)(g:how ≠ "all")(h:how ≠ "first"){a:Addr}{ks:List j5}{ds:YG}(hz:jD ks ds (.inr how)=none){c:Str}{f:YG}(i:QK n [bk,.str how,.int 8,.adr a] [(a,.dct ks ds)]=.ex c f):
 Qv n [bk,.str how,d,.int 8,.adr a] [(a,.dct ks ds)]=.ex c f:=by
 refine LV rfl ?_;rw[wV];unfold We;rw[Wc,Wf (b:=false) (by simp[(QZ e Ww),g]),ji,Ze (),Wc,Wf (b:=false) (by simp[(QZ e Wx),h]),ji,Ze (),Lh]
 simp_all [Bv,Et]
theorem Mb {rc b:Str->List Int->Int}:∀{a:List Rw},(∀r∈a,∀f,xK rc f r=xK b f r)->∀hs,qb rc a hs=qb b a hs
 | [],_,_=>rfl
 |r::a,h,hs=>by
  show qb rc a (hs++[xK rc hs r])=qb b a (hs++[xK b hs r]);rw[h r Zqs];exact Mb () _
def BkP.fuel {ps:List Pl}(B:BkP ps):∀j n q,ps[j]? = some q->j<n->∀hs,qc ps n q hs=qc ps (j+1) q hs:=by
 intro j
 induction j using Nat.strongRecOn with
 |ind j b =>
  intro n q c h hs;obtain⟨a,rfl⟩:∃a,n=a+1:=⟨n-1,()⟩;rw[Ed,Ed];refine Mb (λr e f=>?_) hs;obtain⟨k,g⟩:=Jl.mp e;unfold xK;rcases B.how c g with z|z|⟨_,z1,z2,j2,q2,z3,z4,z5,_⟩
  .simp_all
  .simp_all
  .rw[Ze z1,Ze z2,Ze z1,Ze z2,z5];unfold xR;rw[B.find z4];show(qc ps a q2 _).getLastD 0=(qc ps j q2 _).getLastD 0;rw[b j2 z3 a q2 z4 (),b j2 z3 j q2 z4 ()]
def BkP.rc {ps:List Pl}(B:BkP ps){j n:Nat}{q:Pl}(a:ps[j]? = some q)(h:j<n)(ts):xR ps n q.name ts=xR ps (j+1) q.name ts:=by
 unfold xR;rw[B.find a];show(qc ps n q _).getLastD 0=(qc ps (j+1) q _).getLastD 0;rw[B.fuel j n q a h]
abbrev Kn:=List (Str×J0)
def kD (K:Kn):D:=.dct (K.map λx=>.inr x.1) (K.map λx=>jh x.2)
theorem kU (x:Str):∀K:Kn,(jD (K.map λx=>.inr x.1) (K.map λx=>jh x.2) (.inr x)=none/\x∉K.map (·.1))\/∃f,(x,f)∈K/\jD (K.map λx=>.inr x.1) (K.map λx=>jh x.2) (.inr x)=some (jh f)
 | []=>.inl ⟨rfl,λz=>nomatch z⟩
 |y::K=>by
  rw[Zl,Zl,CM];by_cases c:y.1=x
  .grind
  .rcases kU x K with ⟨a,b⟩|⟨f,a,b⟩
   .grind
   grind
def wB:Nat->Int
 | 0=>1000000000000000000000000000000
 |j+1=>16*wB j
theorem ZU:∀j,1000000000000000000000000000000<=wB j
 | 0=>U5 _
 |j+1=>by have:=ZU j;show _<=16*wB j;lia
theorem Mc:∀{i j:Nat},i<=j->wB i<=wB j
 |i,0,h=>by simp_all
 |i,j+1,h=>by
  have p:=ZU j;rcases U4 j i with z|z
  .grind
  .have:=Mc z;show _<=16*wB j;lia
structure KOk (ps:List Pl)(K:Kn):Prop where
 nd:(K.map (·.1)).Nodup
 ok:∀x∈K,∃j q,ps[j]? = some q/\x.1=q.name/\Tf q.givens.length (wB (j+1)) x.2/\∀hs:Yh,hs.length=q.givens.length->J7 x.2 hs=xR ps (j+1) q.name hs
def wx (ps:List Pl)(j:Nat)(K b:Kn):Prop:=∀x∈b.map (·.1),x∈K.map (·.1)\/∃a q,a<j/\ps[a]? = some q/\x=q.name
theorem Md:∀(ps:List Pl) (l:Yk),l.Nodup->(∀x∈l,∃q∈ps,x=q.name)->l.length<=ps.length
 | [],l,_,h=>by
  cases l with
  |nil=>exact Zf _
  |cons x l =>
   have ⟨q,a,_⟩:=h x Zqs;cases a
 |p::ps,l,nd,h=>by
  have b:=Md ps (l.erase p.name) (nd.erase _) λx c=>by
   grind
  grind
theorem KOk.len {ps:List Pl}{K:Kn}(h:KOk ps K)(B:BkP ps):K.length<=4:=by
 have:=Md ps (K.map (·.1)) h.nd λx a=>by
  obtain⟨y,b,rfl⟩:=Ja.mp a;obtain⟨j,q,c,e,_⟩:=h.ok y b;exact⟨q,Ud c,e⟩
 rw[Zql] at this;have:=B.len;lia
def vK (ps:List Pl)(n:Nat)(p:Pl)(j:Nat)(K:Kn):Prop:=(∀a,QK n [J6 ps,.str p.name,.int 8,.adr a] [(a,kD K)]=.ex "TooMany" [])\/∃T b,KOk ps b/\wx ps j K b/\(∀g∈T,Tf p.givens.length (wB (j+1)) g)/\(∀hs:Yh,hs.length=p.givens.length->(T.map λg=>J7 g hs)=qc ps (j+1) p hs)/\T ≠ []/\∀a,QK n [J6 ps,.str p.name,.int 8,.adr a] [(a,kD K)]=.ok (.lst (T.map jh),[(a,kD b)])
def vb {x:Res D}{f:D->Res (D×HP)}(h:x=K7):x.bind f=.ex "TooMany" []:=by rw[h];rfl
def cb {ps:List Pl}(B:BkP ps){n j:Nat}{p:Pl}(hp:ps[j]? = some p)(X:∀c q K,c<j->ps[c]? = some q->KOk ps K->vK ps n q c K){k:Nat}{r:Rw}(M:p.rows[k]? = some r){W:Int}{T:List J0}(Y:∀g∈T,Tf p.givens.length W g)(lT:T.length=p.givens.length+k){K:Kn}(A:KOk ps K):
 (∀a,Qv n [J6 ps,.str r.2.1,.lst ((r.2.2.map λp=>Qm (qB T p.1) p.2).map jh),.int 8,.adr a] [(a,kD K)]=.ex "TooMany" [])\/∃t i,KOk ps i/\wx ps j K i/\Tf p.givens.length (W+2*wB j) t/\(∀hs:Yh,J7 t hs=xK (xR ps j) (T.map λg=>J7 g hs) r)/\∀a,Qv n [J6 ps,.str r.2.1,.lst ((r.2.2.map λp=>Qm (qB T p.1) p.2).map jh),.int 8,.adr a] [(a,kD K)]=.ok (jh t,[(a,kD i)]):=by
 have R:=(B.ok j p hp).row k r M;have sh:=R.sh;obtain⟨C,E⟩:=LS Y (its:=r.2.2) (V:=1000000000000000000000000000000) (λy Z=>by have:=R.rng y Z;lia) R.wt;have pj:=ZU j;have ne:(r.2.2.map λp=>Qm (qB T p.1) p.2) ≠ []:=λz=>R.ne (Je.mp z);have N:(r.2.2.map λp=>Qm (qB T p.1) p.2).length=r.2.2.length:=Zql _;have same:wx ps j K K:=λx v=>.inl v;unfold xK;generalize (r.2.2.map λp=>Qm (qB T p.1) p.2)=fs at C E ne N;rcases B.how hp M with z|z|⟨z0,z1,z2,c,q,z3,z4,z5,z6⟩
 .rw[z];simp only[if_true];rcases LQ ne C () with y|⟨t,m,o,s⟩
  .exact .inl λa=>by rw[LW];exact vb y
  .refine .inr ⟨t,K,A,same,o.mono (),λhs=>?_,λa=>?_⟩
   .rw[s,E]
   .rw[LW,m];rfl
 .rw[z];have d:¬("first" : Str) = "all" := by decide +kernel
  simp only[if_true,Ze d];rcases LR ne C () with y|⟨t,m,o,s⟩
  .exact .inl λa=>by rw[LX];exact vb y
  .refine .inr ⟨t,K,A,same,o.mono (),λhs=>?_,λa=>?_⟩
   .rw[s,E]
   .rw[LX,m];rfl
 .simp only[Ze z1,Ze z2];have rc:∀H,xR ps j r.2.1 H=xR ps (c+1) q.name H:=λH=>by rw[z5];exact B.rc z4 z3 H
  have J:fs.length=q.givens.length:=N.trans z6;have wj:=Mc (show c+1<=j from ());have O:∀hs,(fs.map λg=>J7 g hs).length=q.givens.length:=λhs=>(Zql _).trans J;rcases kU r.2.1 K with ⟨I,L⟩|⟨f,I,L⟩
  .rcases X c q K z3 z4 A with y|⟨U,i,k1,k2,k3,k4,k5,k6⟩
   .exact .inl λa=>kO z0 z1 z2 I (by have:=y a;rw[<- z5] at this;exact this)
   .obtain⟨ys,t,rfl⟩:=DZ k5;have P:Tf q.givens.length (wB (c+1)) t:=k3 t (Ut _ Zqs);have ct:∀hs:Yh,hs.length=q.givens.length->J7 t hs=xR ps (c+1) q.name hs:=λhs h=>by
     have e:=k4 hs h;obtain⟨zs,ez⟩:=B.part (n:=c) z4 hs;rw[ez,Uc] at e;have e:=Zt (λl=>l.getLastD 0) e;have e:((ys.map λg=>J7 g hs)++[J7 t hs]).getLastD 0=(zs++[xR ps (c+1) q.name hs]).getLastD 0:=e;rw[List.getLastD_concat,List.getLastD_concat] at e;exact e
    have Q:r.2.1∉i.map (·.1):=λy=>by
     rcases k2 _ y with y|⟨F,w,m,o,s⟩
     .exact L y
     .have e:q.name=w.name:=z5.symm.trans s;rw[B.nm c q z4,B.nm F w o] at e;have:=Ea (B.at z4).2.1 (B.at o).2.1 e;lia
    have nk:(UL r.2.1:j5)∉i.map λx=>UL x.1:=λy=>by
     obtain⟨x,v,e⟩:=Ja.mp y;injection e with e
     exact Q (Ja.mpr ⟨x,v,e⟩)
    have l4:=k1.len B;have G:=λa=>sJ (n:=n) (bk:=J6 ps) (d:=.lst (fs.map jh)) z0 z1 z2 (a:=a) I (ys:=ys) (t:=t) (ks':=i.map λx=>.inr x.1) (ds':=i.map λx=>jh x.2) (by have:=k6 a;rw[<- z5] at this;exact this) (by rw[Zql,Zql]) nk (by rw[Zql];lia);have kd:∀a:Addr,[(a,D.dct ((i.map λx=>UL x.1)++[.inr r.2.1]) ((i.map λx=>jh x.2)++[jh t]))]=[(a,kD (i++[(r.2.1,t)]))]:=λa=>by
     unfold kD;rw[Uc,Uc];rfl
    have ko:KOk ps (i++[(r.2.1,t)]):=⟨by
     rw[Uc];refine List.nodup_append.mpr ⟨k1.nd,VR _ _,λa S b hb e=>?_⟩;rw[e,Jd.mp hb] at S;exact Q S,λx v=>by
     rcases Jb.mp v with y|y
     .exact k1.ok x y
     .rw[Jd.mp y];exact⟨c,q,z4,z5,P,ct⟩⟩
    have nw:wx ps j K (i++[(r.2.1,t)]):=λx v=>by
     rw[Uc] at v;rcases Jb.mp v with y|y
     .rcases k2 x y with y|⟨F,w,m,o,s⟩
      .exact .inl y
      .exact .inr ⟨F,w,(),o,s⟩
     .exact .inr ⟨c,q,z3,z4,(Jd.mp y).trans z5⟩
    rcases LU P J C with y|⟨u,m,o,s⟩
    .exact .inl λa=>by
      show Qv n _ [(a,D.dct _ _)]=_;rw[G a];exact vb y
    .refine .inr ⟨u,_,ko,nw,o.mono (),λhs=>?_,λa=>?_⟩
     .rw[s,ct _ (O hs),rc,E]
     .show Qv n _ [(a,D.dct _ _)]=_;rw[G a,m,kd];rfl
  .obtain⟨F,w,m,o,s,y4⟩:=A.ok _ I;have e:q.name=w.name:=z5.symm.trans o;rw[B.nm c q z4,B.nm F w m] at e;have e:=Ea (B.at z4).2.1 (B.at m).2.1 e;subst e;rw[z4] at m;cases m;have G:=λa=>kN (n:=n) (bk:=J6 ps) (d:=.lst (fs.map jh)) z0 z1 z2 (a:=a) L;rcases LU s J C with y|⟨u,x1,x2,x3⟩
   .exact .inl λa=>by
     show Qv n _ [(a,D.dct _ _)]=_;rw[G a];exact vb y
   .refine .inr ⟨u,K,A,same,x2.mono (),λhs=>?_,λa=>?_⟩
    .rw[x3,y4 _ (O hs),rc,E]
    .show Qv n _ [(a,D.dct _ _)]=_;rw[G a,x1];rfl
def cm {T:List J0}{its:Jz}(h:∀p∈its,0<=p.1/\p.1<(T.length:Int))(hs:∀g∈T,g.length<=1000/\∀r∈g,r.length<=1000):jR (.tup [0,1]) (Kk zf (J1 (WM 2 (jb 0)) (J1 (jb 1) jc))) [none,none,some (.own false (.lst (T.map jh)))] (its.map qJ)=.ok ((its.map λp=>Qm (qB T p.1) p.2).map jh):=by
 rw[Zw];exact Ki λp hp=>by
  obtain⟨b,c⟩:=h p hp;have a:=LG b c;obtain⟨e,f⟩:=hs _ (BM b c);have i:=gP (w:=p.2) e f
  simp_all
def XD (n:Nat):qq:=(QH (yf (jI 9 (ZH [none,none,some 5] 2 (iS (jb 8)) (.tup [0,1]) (Kk zf (J1 (WM 2 (jb 0)) (J1 (jb 1) jc)))))) (K4 5 (Qi (Qv n) (J1 (jb 0) (J1 (jb 7) (J1 (jb 9) (J1 (jb 2) (J1 (jb 3) jc))))))))
def yN (bk nm pl:D)(a:Addr)(T:YG)(u6 u7 u8 u9:Option SV):SD:=[some (.val bk),some (.val nm),some (.val (.int 8)),some (.val (.adr a)),some (.val pl),some (.own false (.lst T)),u6,u7,u8,u9]
def dv {n:Nat}{bk nm pl:D}{a:Addr}{T:List J0}{u6 u7 u8 u9:Option SV}{hp:HP}{r:Rw}(f:∀p∈r.2.2,0<=p.1/\p.1<(T.length:Int))(hs:∀g∈T,g.length<=1000/\∀r∈g,r.length<=1000)(l:r.2.2.length<=1000):
 QY (.tup [6,7,8]) (XD n) (jB r) (yN bk nm pl a (T.map jh) u6 u7 u8 u9) hp=K4 5 (Qi (Qv n) (J1 (jb 0) (J1 (jb 7) (J1 (jb 9) (J1 (jb 2) (J1 (jb 3) jc)))))) (yN bk nm pl a (T.map jh) (some (.val (.str r.1))) (some (.val (.str r.2.1))) (some (.val (js r.2.2))) (some (.val (.lst ((r.2.2.map λp=>Qm (qB T p.1) p.2).map jh))))) hp:=by
 have h:=cm f hs;have i:=JT l;have j:∀a b c d e u6 u7 u8 u9,capO [none,none,some 5] 2 [a,b,c,d,e,some (.own false (.lst (T.map jh))),u6,u7,u8,u9]=[none,none,some (.own false (.lst (T.map jh)))]:=λ_ _ _ _ _ _ _ _ _=>rfl
 simp_all [yN,XD]
def tj {n:Nat}{bk nm pl d:D}{a:Addr}{T:YG}{u6:Option SV}{b:Option SV}{how fs:D}{hp hp':HP}(h:Qv n [bk,how,fs,.int 8,.adr a] hp=.ok (d,hp'))(l:T.length<=1000):
 K4 5 (Qi (Qv n) (J1 (jb 0) (J1 (jb 7) (J1 (jb 9) (J1 (jb 2) (J1 (jb 3) jc)))))) (yN bk nm pl a T u6 (some (.val how)) b (some (.val fs))) hp=.ok (.next (yN bk nm pl a (T++[d]) u6 (some (.val how)) b (some (.val fs))) hp'):=by
 have z:=JT l
 simp_all [yN,K4]
def sM {n:Nat}{bk nm pl:D}{a:Addr}{T:YG}{u6:Option SV}{e:Option SV}{how fs:D}{hp:HP}{c:Str}{b:YG}(h:Qv n [bk,how,fs,.int 8,.adr a] hp=.ex c b):
 K4 5 (Qi (Qv n) (J1 (jb 0) (J1 (jb 7) (J1 (jb 9) (J1 (jb 2) (J1 (jb 3) jc)))))) (yN bk nm pl a T u6 (some (.val how)) e (some (.val fs))) hp=.ex c b:=by
 simp_all [yN,K4]
def t8 {b:D->qq}{x:D}{e:YG}{sd:SD}{hp:HP}{c:Str}{a:YG}(h:b x sd hp=.ex c a):qo b (x::e) sd hp=.ex c a:=by
 simp_all [qo]
def Me {b:D->qq}{x:D}{a:YG}{sd sd':SD}{hp hp':HP}(h:b x sd hp=.ok (.next sd' hp')):qo b (x::a) sd hp=qo b a sd' hp':=by
 rw[qo,h];rfl
theorem Mf {ps:List Pl}(B:BkP ps){n j:Nat}{p:Pl}(hp:ps[j]? = some p)(G:∀u q K,u<j->ps[u]? = some q->KOk ps K->vK ps n q u K):∀(b:List Rw) i,p.rows.drop i=b->i<=p.rows.length->∀(T:List J0) (K:Kn),(∀g∈T,Tf p.givens.length ((i:Int)*(2*wB j)) g)->T.length=p.givens.length+i->(∀hs:Yh,hs.length=p.givens.length->(T.map λg=>J7 g hs)=qb (xR ps j) (p.rows.take i) hs)->KOk ps K ->
 (∀nm pl a u6 u7 u8 u9,qo (QY (.tup [6,7,8]) (XD n)) (b.map jB) (yN (J6 ps) nm pl a (T.map jh) u6 u7 u8 u9) [(a,kD K)]=.ex "TooMany" [])\/∃(f:List J0) (l:Kn),KOk ps l/\wx ps j K l/\(∀g∈f,Tf p.givens.length ((p.rows.length:Int)*(2*wB j)) g)/\f.length=p.givens.length+p.rows.length/\(∀hs:Yh,hs.length=p.givens.length->(f.map λg=>J7 g hs)=qb (xR ps j) p.rows hs)/\∀nm pl a u6 u7 u8 u9,∃v A C E,qo (QY (.tup [6,7,8]) (XD n)) (b.map jB) (yN (J6 ps) nm pl a (T.map jh) u6 u7 u8 u9) [(a,kD K)]=.ok (.next (yN (J6 ps) nm pl a (f.map jh) v A C E) [(a,kD l)])
 | [],i,hd,hi,T,K,hT,lT,cT,hK=>by
  have e:i=p.rows.length:=by
   have:=List.drop_eq_nil_iff.mp hd;lia
  subst e;rw[VL] at cT;exact .inr ⟨T,K,hK,λx m=>.inl m,hT,lT,cT,λnm pl a u6 u7 u8 u9=>⟨u6,u7,u8,u9,rfl⟩⟩
 |r::b,i,hd,hi,T,K,hT,lT,cT,hK=>by
  have c:i<p.rows.length:=by
   rcases U4 i p.rows.length with z|z
   .exact z
   .rw[List.drop_eq_nil_iff.mpr z] at hd;cases hd
  rw[Uq c] at hd;injection hd with h1 h2
  have F:p.rows[i]? = some r:=by rw[Zqg c,h1]
  have P:=B.ok j p hp;have R:=P.row i r F;have J:=P.g2;have L:=P.r2;have M:=R.sh;have rs:=λ(nm pl:D) (a:Addr) u6 u7 u8 u9=>dv (n:=n) (bk:=J6 ps) (nm:=nm) (pl:=pl) (a:=a) (T:=T) (u6:=u6) (u7:=u7) (u8:=u8) (u9:=u9) (hp:=[(a,kD K)]) (r:=r) (λy H=>by have:=R.rng y H;lia) (λg s=>⟨by have:=(hT g s).len;lia,λx m=>by have:=((hT g s).cn.rows x m).len;lia⟩) ();rcases cb B hp G F hT lT hK with z|⟨t,K1,k1,k2,k3,k4,k5⟩
  .exact .inl λnm pl a u6 u7 u8 u9=>t8 (by rw[rs];exact sM (z a))
  .have st:∀(nm pl:D) a u6 u7 u8 u9,QY (.tup [6,7,8]) (XD n) (jB r) (yN (J6 ps) nm pl a (T.map jh) u6 u7 u8 u9) [(a,kD K)]=.ok (.next (yN (J6 ps) nm pl a ((T++[t]).map jh) (some (.val (.str r.1))) (some (.val (.str r.2.1))) (some (.val (js r.2.2))) (some (.val (.lst ((r.2.2.map λp=>Qm (qB T p.1) p.2).map jh))))) [(a,kD K1)]):=λnm pl a u6 u7 u8 u9=>by
    rw[rs,tj (k5 a) (by rw[Zql];lia),Uc];rfl
   have N:=ZU j;have o:((i+1:Nat):Int)*(2*wB j)=(i:Int)*(2*wB j)+2*wB j:=by rw[Int.natCast_add,Int.add_mul];lia
   have I:=Mf B hp G b (i+1) h2 c (T++[t]) K1 (λg s=>by
    rcases Jb.mp s with y|y
    .exact(hT g y).mono (by rw[o];lia)
    .rw[Jd.mp y];exact k3.mono (by rw[o];lia)) (by rw[Ub,Ui];lia) (λhs h=>by
    rw[Uc,cT hs h,Lu F,<- cT hs h];show _++[J7 t hs]=_;rw[k4]) k1
   rcases I with y|⟨f,l,y1,y2,y3,y4,y5,y6⟩
   .exact .inl λnm pl a u6 u7 u8 u9=>(Me (st nm pl a u6 u7 u8 u9)).trans (y nm pl a _ _ _ _)
   .refine .inr ⟨f,l,y1,λx m=>?_,y3,y4,y5,λnm pl a u6 u7 u8 u9=>?_⟩
    .rcases y2 x m with w|w
     .exact k2 x w
     .exact .inr w
    .obtain⟨v,A,C,E,e⟩:=y6 nm pl a _ _ _ _;exact⟨v,A,C,E,(Me (st nm pl a u6 u7 u8 u9)).trans e⟩
theorem sR {g t:Nat}(h:t<g)(a:g<=12):Tf g 0 [[((t:Int),0)]]:=by
 have b:JRow [((t:Int),(0:Int))]:=⟨List.cons_ne_nil _ _,VR _ _,()⟩;refine⟨⟨List.cons_ne_nil _ _,(),Wm xt (Wb _) () λr=>⟨λh=>(xI.mp h).1,λh=>xI.mpr ⟨h,wL.mpr ()⟩⟩⟩,(),λr c p hp=>?_⟩
 simp_all
def yT (g:Nat):List J0:=(List.range g).map λt:Nat=>[[((t:Int),(0:Int))]]
def cz {g:Nat}{hs:Yh}(h:hs.length=g):((yT g).map λf=>J7 f hs)=hs:=by
 unfold yT;apply Vy;intro i;rcases U4 i g with z|z
 .have e:J7 [[((i:Int),(0:Int))]] hs=jM hs (i:Int)+0:=rfl
  simp_all [jM]
 simp_all
theorem Mg {ps:List Pl}(B:BkP ps):∀(n j:Nat) (p:Pl) (K:Kn),ps[j]? = some p->j<n->KOk ps K->vK ps n p j K
 | 0,_,_,_,_,h,_=>Zn h (UO _)
 |n+1,j,p,K,hp,hj,hK=>by
  have P:=B.ok j p hp;have s:=P.g1;have u:=P.g2;have f:=Er (B.at hp).2.2.1 B.ascs (B.find hp);have v:KG [.int (p.givens.length:Nat)]=.ok (JP 0 p.givens.length):=by rw[VX () ()];rfl
  have w:jR (.one 0) (Kk vt (J1 (jb 0) jc)) [none] (JP 0 p.givens.length)=.ok ((yT p.givens.length).map jh):=by
   unfold yT;rw[Zw];exact YT λi x=>by simp
  have y:j7 "Plan" "givens" (JE p)=some (.lst (p.givens.map .str)):=rfl;have A:j7 "Plan" "rows" (JE p)=some (.lst (p.rows.map jB)):=rfl;have l:(p.givens.map D.str).length=p.givens.length:=Zql _;have C:=JT (show p.givens.length<=1000 from ());have st:∀a,JW 10 [J6 ps,.str p.name,.int 8,.adr a]=[some (.val (J6 ps)),some (.val (.str p.name)),some (.val (.int 8)),some (.val (.adr a)),none,none,none,none,none,none]:=λa=>rfl;have b:∀a (X:Res (D×HP)),(qT (ZD (iS (jN (j7 "Plan" "rows") (jb 4))) (.tup [6,7,8]) (XD n)) (zG 5 (xa (jb 5)))) (yN (J6 ps) (.str p.name) (JE p) a ((yT p.givens.length).map jh) none none none none) [(a,kD K)]=X->ZT (Qv n) (JW 10 [J6 ps,.str p.name,.int 8,.adr a]) [(a,kD K)]=X:=λa X h=>by
   rw[st];unfold ZT;refine wW (sd':=[some (.val (J6 ps)),some (.val (.str p.name)),some (.val (.int 8)),some (.val (.adr a)),some (.val (JE p)),none,none,none,none,none]) (Kt (by simp[f])) ?_;refine wW (Kt (sd':=yN (J6 ps) (.str p.name) (JE p) a ((yT p.givens.length).map jh) none none none none) ?_) h
   simp_all [yN,Wp]
  have it:∀a T u6 u7 u8 u9,iS (jN (j7 "Plan" "rows") (jb 4)) (yN (J6 ps) (.str p.name) (JE p) a T u6 u7 u8 u9)=.ok (p.rows.map jB):=λa T u6 u7 u8 u9=>by
   rfl
  have go:=Mf B hp (n:=n) (λm q K E o r=>Mg B n m q K o () r) p.rows 0 rfl (Ua _) (yT p.givens.length) K (λg c=>by
   obtain⟨t,F,rfl⟩:=Ja.mp c
   grind[sR]) (by unfold yT;rw[Zql,ZB];rfl) (λhs h=>by rw[cz h];rfl) hK
  rcases go with z|⟨T,K',k1,k2,k3,k4,k5,k6⟩
  .refine .inl λa=>?_;refine LV rfl (b a _ ?_)
   simp_all
  .refine .inr ⟨T,K',k1,k2,λg c=>(k3 g c).mono ?_,λhs h=>?_,λe=>?_,λa=>?_⟩
   .have G:=ZU j;have H:=P.r2;have:=Int.mul_le_mul_of_nonneg_right (show(p.rows.length:Int)<=8 by lia) (show 0<=2*wB j from ());show _<=16*wB j;lia
   .rw[k5 hs h];rfl
   .grind
   .refine B5 rfl (b a _ ?_);obtain⟨I,J,L,M,e⟩:=k6 (.str p.name) (JE p) a none none none none;rw[Lh,TX,it,ji,e,ji];rfl
def BP:FS:=(j1 (DN (QK 4) (.dct [] []) (J1 (jb 0) (J1 (jb 1) (J1 (jb 2) jc)))))
def W0:YG->Res D:=jK 3 3 BP
def ZV:FS:=(jz (jI 2 (dC .non)) (jz (wc 2 "TooMany" W0 (J1 (jb 0) (J1 (jN (j7 "Plan" "name") (jb 1)) (J1 (dC (.int 8)) jc))) (jI 2 (dC .non))) (j1 (jb 2))))
def W1:YG->Res D:=jK 3 2 ZV
def BQ:FS:=(jz (jI 3 (jv AR (J1 (jb 2) (J1 (jv YQ (J1 (dC (.int 0)) (J1 (jl xc (jv jT (J1 (jb 0) jc)) (jb 1)) jc))) jc)))) (j1 (JZ [none,some 0,some 1,some 2] (zn (J1 (jb 3) jc)) (.one 0) (jv wg (J1 (uf (jb 1) (Wr (jl j8 (jb 2) (jb 0))) Wq (Wr (jb 3))) jc)))))
def ZW:YG->Res D:=qx 4 3 BQ
def cU {ns:Yh}(h:ns.length<=63){a most:Int}(f:0<=a)(g:a<=100)(j:1<=most)(l:most<=60):∃b:Yh,(b.length:Int)<=most/\ZW [.scr ns,.int a,.int most]=.ok (.lst (b.map .int)):=by
 have ⟨m,hm,em⟩:∃m:Nat,(m:Int)<=most/\(if(if a<(ns.length:Int) then(ns.length:Int)-a else 0)<most then(if a<(ns.length:Int) then(ns.length:Int)-a else 0) else most)=(m:Int):=by
  refine⟨(if(if a<(ns.length:Int) then(ns.length:Int)-a else 0)<most then(if a<(ns.length:Int) then(ns.length:Int)-a else 0) else most).toNat,?_,?_⟩<;>(lia)<;>lia
 have n:KG [.int (m:Int)]=.ok (JP 0 m):=by
  rw[VX () (),Int.toNat_natCast]
 have e:jR (.one 0) (jv wg (J1 (uf (jb 1) (Wr (jl j8 (jb 2) (jb 0))) Wq (Wr (jb 3))) jc)) [none,some (.val (.scr ns)),some (.val (.int a)),some (.val (.int most))] (JP 0 m)=.ok ((List.range m).map λk:Nat=>.int (Qh ns (some (a+(k:Int))) none (some most)).sum):=YT λi o=>by
  simp[(Rv (c:=most) ())]
 refine⟨(List.range m).map λk:Nat=>(Qh ns (some (a+(k:Int))) none (some most)).sum,(),?_⟩;have p:=JT (show m<=1000 from ())
 simp_all [ZW,BQ,Wp]
def ZX (a:YG->Res D):FS:=(j1 (jl jF (J9 a (J1 (jb 0) (J1 (jb 1) (J1 (jb 2) jc)))) (jN yC (dC (.int 1)))))
def WW (a:YG->Res D):FS:=(jz (qP (JD (jl xk (jb 1) (dC (.str "all")))) (j1 (jv WH (J1 (jb 2) jc))) JO) (jz (qP (JD (jl xk (jb 1) (dC (.str "first")))) (j1 (jv Xs (J1 (jb 2) jc))) JO) (j1 (J9 a (J1 (jb 0) (J1 (jb 1) (J1 (jb 2) jc)))))))
def WX (a:YG->Res D):FS:=(jz (qw 3 (jv KF (J1 (jb 2) jc))) (jz (jQ (iS (jN (j7 "Plan" "rows") (J9 XC (J1 (jb 0) (J1 (jb 1) jc))))) (.tup [4,5,6]) (Kz 3 (yX [3] (J9 a (J1 (jb 0) (J1 (jb 5) (J1 (JZ [none,none,some 3] (iS (jb 6)) (.tup [0,1]) (jl j8 (jl jF (jb 2) (jb 0)) (jb 1))) jc))))))) (λsd=>(j1 (jb 3)) (qE [3] sd))))
def K8:Nat->YG->Res D
 | 0=>λ_=>.no
 |n+1=>jK 7 3 (WX (jK 3 3 (WW (jK 3 3 (ZX (K8 n))))))
def Kv (n:Nat):YG->Res D:=jK 3 3 (ZX (K8 n))
def QP (n:Nat):YG->Res D:=jK 3 3 (WW (Kv n))
def Eu {n:Nat}{bk nm hs:D}{ys:Yh}{x:Int}(h:K8 n [bk,nm,hs]=.ok (.lst ((ys++[x]).map .int))):Kv n [bk,nm,hs]=.ok (.int x):=by
 have l:=DY (f:=D.int) ys x
 simp_all [Kv,ZX]
def Mh (n:Nat)(b:D){hs:Yh}(a:hs ≠ []):QP n [b,.str "all",.lst (hs.map .int)]=.ok (.int (qK hs)):=by
 simp[QP,WW,Lk,(GL a)]
def Mi (n:Nat)(b:D){hs:Yh}(a:hs ≠ []):QP n [b,.str "first",.lst (hs.map .int)]=.ok (.int (xb hs)):=by
 simp[QP,WW,Ll,Lm,(GM a)]
def cQ {n:Nat}{b d:D}{how:Str}{z:D}(a:asc how)(c:how ≠ "all")(e:how ≠ "first")(h:Kv n [b,.str how,d]=.ok z):QP n [b,.str how,d]=.ok z:=by
 have f:=QZ a Ww;have g:=QZ a Wx
 simp_all [QP,WW]
theorem Ew {ps:List Pl}(B:BkP ps):∀(n i:Nat) (p:Pl) (hs:Yh),ps[i]? = some p->i<n->hs.length=p.givens.length->K8 n [J6 ps,.str p.name,.lst (hs.map .int)]=.ok (.lst ((qc ps n p hs).map .int))
 | 0,i,p,hs,_,h,_=>()
 |n+1,i,p,hs,hp,hi,hl=>by
  have P:=B.ok i p hp;have G:=P.g2;have H:=P.r2;have I:=Er (B.at hp).2.2.1 B.ascs (B.find hp);show jK 7 3 (WX (QP n)) _=_;rw[Ed];obtain⟨sd',e,u,v,w,o⟩:=Uk (tg:=.tup [4,5,6]) (b:=Kz 3 (yX [3] (J9 (QP n) (J1 (jb 0) (J1 (jb 5) (J1 (JZ [none,none,some 3] (iS (jb 6)) (.tup [0,1]) (jl j8 (jl jF (jb 2) (jb 0)) (jb 1))) jc)))))) (ds:=p.rows.map jB) (sd:=[some (.val (J6 ps)),some (.val (.str p.name)),some (.val (.lst (hs.map .int))),some (.own false (.lst (hs.map .int))),none,none,none])
   (P:=λi sd=>∃u v w,sd=[some (.val (J6 ps)),some (.val (.str p.name)),some (.val (.lst (hs.map .int))),some (.own false (.lst ((qb (xR ps n) (p.rows.take i) hs).map .int))),u,v,w]) ⟨none,none,none,rfl⟩ (by
    rintro k x sd s ⟨u,v,w,rfl⟩;obtain⟨r,a,rfl⟩:=QM s;obtain⟨t,J,K⟩:=P.at (rc:=xR ps n) hl a;have R:=P.row k r a;have y:=Lo t;have A:=R.sh;have c:=Ln (found:=qb (xR ps n) (p.rows.take k) hs) R.ne;have C:=tQ (qb (xR ps n) (p.rows.take k) hs) r.2.2;have E:QP n [J6 ps,.str r.2.1,.lst ((qW (qb (xR ps n) (p.rows.take k) hs) r.2.2).map .int)]=.ok (.int (xK (xR ps n) (qb (xR ps n) (p.rows.take k) hs) r)):=by
     unfold xK;rcases B.how hp a with z|z|⟨z0,g,l,j,q,z3,z4,z5,z6⟩
     .rw[z,Zd rfl];exact Mh n _ c
     .rw[z,Ze (by decide +kernel),Zd rfl];exact Mi n _ c
     .rw[Ze g,Ze l];refine cQ z0 g l ?_;obtain⟨f,rfl⟩:∃f,n=f+1:=⟨n-1,()⟩;obtain⟨ys,F⟩:=B.part (n:=f) z4 (qW (qb (xR ps (f+1)) (p.rows.take k) hs) r.2.2);have m:=Ew B (f+1) j q _ z4 () (C.trans z6);rw[F,<- z5] at m;exact Eu m
    have g:=JT (show r.2.2.length<=1000 from ());have l:=JT (show(qb (xR ps n) (p.rows.take k) hs).length<=1000 by lia);rw[Lu a,cC,ji];simp[y,E,g,l])
  simp_all [WX]
def BR:FS:=(jz (qw 3 (JZ [none,none] (nv (J1 (jb 2) jc)) (.tup [0,1]) (xC (J1 (jN (yi "r") (jb 0)) (J1 (dC (.str "all")) (J1 (jb 1) jc)))))) (jz (Kz 3 (xC (J1 (dC (.str "end")) (J1 (dC (.str "first")) (J1 (jv WI (J1 (JZ [none,some 1] (zn (J1 (jv jT (J1 (jb 2) jc)) jc)) (.one 0) (xC (J1 (jl j8 (jb 1) (jb 0)) (J1 (dC (.int 0)) jc)))) jc)) jc))))) (λsd=>(j1 (WP "Plan" ["name", "givens", "rows"] ZK (J1 (jb 0) (J1 (JZ [none] (zn (J1 (jb 1) jc)) (.one 0) (jN (yi "g") (jb 0))) (J1 (jb 3) jc))))) (qE [3] sd))))
def ZY:YG->Res D:=qx 4 3 BR
def fm {nm:Str}{many:Nat}{f:J0}(c:many<=12)(e:f.length<=40):ZY [.str nm,.int many,jh f]=.ok (JE (xS nm many f)):=by
 have h:KG [.int many]=.ok (JP 0 many):=by rw[VX () ()];rfl
 have j:KG [.int f.length]=.ok (JP 0 f.length):=by rw[VX () ()];rfl
 have k1:jR (.tup [0,1]) (xC (J1 (jN (yi "r") (jb 0)) (J1 (dC (.str "all")) (J1 (jb 1) jc)))) [none,none] (Um (f.map js))=.ok ((List.range f.length).map λk=>jB (yP k (f.getD k []))):=by
  rw[Lq];exact Ki λk a=>by
   have a:=Jh.mp a;have g:=Lp "r" (k:=k) ()
   simp_all [jB,yP]
 have k2:jR (.one 0) (xC (J1 (jl j8 (jb 1) (jb 0)) (J1 (dC (.int 0)) jc))) [none,some (.val (.int many))] (JP 0 f.length)=.ok ((List.range f.length).map λk:Nat=>qJ ((many:Int)+k,0)):=YT λi b=>by
  simp[qJ]
 have k3:jR (.one 0) (jN (yi "g") (jb 0)) [none] (JP 0 many)=.ok ((List.range many).map λk:Nat=>.str ("g" ++ jJ k)):=YT λi b=>by
  simp[(Lp "g" (k:=i) ())]
 have l:=JT (show f.length<=1000 from ());have m:=JT (show many<=1000 from ());have le:(Um (f.map js)).length=f.length:=by rw[Lq,Zql,ZB]
 have n:JE (xS nm many f)=.ins "Plan" ["name", "givens", "rows"] [.str nm,.lst ((List.range many).map λk:Nat=>.str ("g" ++ jJ k)),.lst (((List.range f.length).map λk=>jB (yP k (f.getD k [])))++[.tup [.str "end",.str "first",.tup ((List.range f.length).map λk:Nat=>qJ ((many:Int)+k,0))]])]:=by
  unfold JE xS
  simp_all [jB,js,wX,Zl]
 have o:jh f=.lst (f.map js):=rfl
 simp_all [ZY,BR,Wp,ZK,yO,JW]
def ZZ:FS:=(jz (jI 1 (J9 ZP (J1 (jb 0) (J1 (jl j8 (dC (.int 1)) (jl xO (J9 Wy (J1 (jb 0) (J1 (dC (.int 0)) jc))) (dC (.int 3)))) (J1 (dC (.int 5)) jc))))) (jz (jI 2 (JZ [none,some 1] (iS (jN (j7 "Book" "plans") (jb 1))) (.one 0) (J9 W1 (J1 (jb 1) (J1 (jb 0) jc))))) (jz (qw 3 (qM jc)) (jz (jQ (zn (J1 (jv jT (J1 (jb 2) jc)) jc)) (.one 4) (jz (qP (Ky (JD (jN (xj true) (jl jF (jb 2) (jb 4)))) (KR (JD (jv zo (J1 (JZ [none] (iS (jl jF (jb 2) (jb 4))) (.one 0) (J9 WU (J1 (jb 0) jc))) jc))))) (j1 (dC (.bl false))) JO) (qP (Ky (JD (jN (xj true) (jl jF (jb 2) (jb 4)))) (JD (J9 ZQ (J1 (jl jF (jl jF (jb 2) (jb 4)) (jN yC (dC (.int 1)))) jc)))) (Kz 3 (xC (J1 (jb 4) (J1 (WP "Book" ["plans"] X7 (J1 (qM (J1 (J9 ZY (J1 (dC (.str "x")) (J1 (jv jT (J1 (jN (j7 "Plan" "givens") (jl jF (jN (j7 "Book" "plans") (jb 1)) (jb 4))) jc)) (J1 (jl jF (jl jF (jb 2) (jb 4)) (jN yC (dC (.int 1)))) jc)))) jc)) jc)) jc)))) JO))) (jz (jQ (iS (jl j8 (qM (J1 (dC (.int 3)) jc)) (J9 ZW (J1 (jb 0) (J1 (dC (.int 19)) (J1 (dC (.int 16)) jc)))))) (.one 5) (jz (jQ (zn (J1 (jv jT (J1 (jb 2) jc)) jc)) (.one 4) (jz (jI 6 (jl jF (jN (j7 "Book" "plans") (jb 1)) (jb 4))) (jz (jI 7 (J9 Wz (J1 (jb 5) (J1 (jv jT (J1 (jN (j7 "Plan" "givens") (jb 6)) jc)) jc)))) (qP (JD (jN (xj true) (jl jF (jb 2) (jb 4)))) (qP (JD (jl yV (J9 (K8 4) (J1 (jb 1) (J1 (jN (j7 "Plan" "name") (jb 6)) (J1 (jb 7) jc)))) (JZ [none,some 7] (iS (jl jF (jb 2) (jb 4))) (.one 0) (J9 X9 (J1 (jb 0) (J1 (jb 1) jc)))))) (j1 (dC (.bl false))) JO) JO)))) (Y6 3 (.tup [4,8]) (jz (jI 7 (J9 Wz (J1 (jb 5) (J1 (jv jT (J1 (jN (j7 "Plan" "givens") (jl jF (jN (j7 "Book" "plans") (jb 1)) (jb 4))) jc)) jc)))) (qP (JD (jl yV (J9 (Kv 4) (J1 (jb 8) (J1 (dC (.str "x")) (J1 (jb 7) jc)))) (J9 (Kv 4) (J1 (jb 1) (J1 (jN (j7 "Plan" "name") (jl jF (jN (j7 "Book" "plans") (jb 1)) (jb 4))) (J1 (jb 7) jc)))))) (j1 (dC (.bl false))) JO))))) (j1 (dC (.bl true))))))))
def v8:YG->Res D:=jK 9 1 ZZ
def gW {r o:Jz}(b:j4 o)(e:o.length<=100):XA [js r,js o]=.ok (.bl (JF r o)):=by
 simp[XA,BE,Dd e b];refine WN (R:=λz=>(z.bind (xi (j1 (dC (.bl true))))).bind x8=.ok (.bl (JF r o))) (P:=λi sd=>(∃u v,sd=[some (.val (js r)),some (.val (js o)),some (.val (xX o)),u,v])/\JF (r.take i) o=true) ⟨⟨none,none,rfl⟩,rfl⟩ ?_ ?_
 .simp
 .rintro i x sd f ⟨⟨u,v,rfl⟩,hu⟩;obtain⟨p,hp,rfl⟩:=QM f;have a:=AX b p.1;cases q:JA o p.1 with
  |none =>
   rw[q] at a;have z:qY o p=false:=by unfold qY;rw[q]
   rw[Aw hp z];exact .inr (.inr ⟨.bl false,by simp[xX,a],()⟩)
  |some w =>
   rw[q] at a;by_cases c:w<p.2
   .have z:qY o p=false:=by unfold qY;exact()
    rw[Aw hp z];exact .inr (.inr ⟨.bl false,by simp[xX,a,c],()⟩)
   .have z:qY o p=true:=by unfold qY;exact()
    exact .inl ⟨[some (.val (js r)),some (.val (js o)),some (.val (xX o)),some (.val (.int p.1)),some (.val (.int p.2))],.inl (by simp[xX,a,c]),⟨_,_,rfl⟩,Fs hp hu z⟩
def gV {f:J0}(C:Cn f)(l:f.length<=60):WU [jh f]=.ok (.bl true):=by
 obtain⟨sd',e,g,a,h⟩:=Uk (tg:=.one 1) (b:=jQ (iS (jb 0)) (.one 2) (qP (Ky (JD (jl yV (jb 1) (jb 2))) (JD (J9 XA (J1 (jb 1) (J1 (jb 2) jc))))) (j1 (dC (.bl false))) JO)) (ds:=f.map js)
  (P:=λ_ sd=>∃(g a:Option SV),sd=[some (.val (jh f)),g,a]) ⟨none,none,rfl⟩ (by
   rintro i x sd m ⟨g,a,rfl⟩;obtain⟨r,n,rfl⟩:=QM m;obtain⟨sd',e,a,h⟩:=Uk (tg:=.one 2) (b:=qP (Ky (JD (jl yV (jb 1) (jb 2))) (JD (J9 XA (J1 (jb 1) (J1 (jb 2) jc))))) (j1 (dC (.bl false))) JO) (ds:=f.map js)
    (P:=λ_ sd=>∃(a:Option SV),sd=[some (.val (jh f)),some (.val (js r)),a]) ⟨a,rfl⟩ (by
     rintro j x sd m ⟨a,rfl⟩;obtain⟨s,hs,rfl⟩:=QM m;have hs:=Ud hs;have q:=AO (IJ r) (IJ s);rw[d9] at q;have J:=C.rows s hs;have p:=gW (r:=r) J.once (by have:=J.len;lia);by_cases c:r=s
     .subst c;simp[q]
     .have nb:JF r s=false:=by
       cases z:JF r s with
       |false=>rfl
       |true=>exact Zn (C.anti r (Ud n) s hs z) c
      rw[nb] at p;simp[q,p])
   simp_all)
 have o:=IM (λr n=>(C.rows r n).ne) ();have v:YY [jh f]=some (.int (L2.ST.dedR f).length):=Tk ();have t:=cM f;have u:=cH f;rw[C.thin] at t u;rw[t] at o;rw[cx u] at v;have o:Ws [jh f]=some (jh f):=o;have w:yV (jh f) (.lst [])=some (.bl true):=by
  have:=tz f []
  rwa [Zo C.ne] at this
 have y:=sN f f
 simp_all [WU,BF]
def gU {f:J0}{hs:Yh}(i:f ≠ [])(j:f.length<=1000)(c:∀r∈f,r ≠ []/\r.length<=1000)(g:∀r∈f,∀p∈r,0<=p.1/\p.1<(hs.length:Int)):X9 [jh f,.lst (hs.map .int)]=.ok (.int (J7 f hs)):=by
 have b:jR (.one 0) (jv WH (J1 (JZ [none,none,some 1] (iS (jb 0)) (.tup [0,1]) (jl j8 (jl jF (jb 2) (jb 0)) (jb 1))) jc)) [none,some (.val (.lst (hs.map .int)))] (f.map js)=.ok (f.map λr=>.int (Qc r hs)):=Ki λr h=>by
  have k1:jR (.tup [0,1]) (jl j8 (jl jF (jb 2) (jb 0)) (jb 1)) [none,none,some (.val (.lst (hs.map .int)))] (r.map qJ)=.ok (r.map λp=>.int (jM hs p.1+p.2)):=Ki λp hp=>by
   simp[IL (g r h p hp).1 (g r h p hp).2]
  have e:r.map (λp=>D.int (jM hs p.1+p.2))=(r.map λp=>jM hs p.1+p.2).map .int:=by simp
  have a:=GL (ns:=r.map λp=>jM hs p.1+p.2) (λz=>(c r h).1 (Je.mp z));rw[<- e] at a;simp[k1,JT (c r h).2,a,Qc]
 have e:f.map (λr=>D.int (Qc r hs))=(f.map λr=>Qc r hs).map .int:=by simp
 have a:=GM (ns:=f.map λr=>Qc r hs) (λz=>i (Je.mp z));rw[<- e] at a;simp[X9,BC,b,JT j,a,J7]
def p7:qj (.int 10) (.int 30)=some (.int 1000000000000000000000000000000):=by
 rfl
def gR (f:J0):∃b,ZQ [jh f]=.ok (.bl b):=by
 have q:=p7;have n:∀p:Int×Int,jF (qJ p) (.int 1)=some (.int p.2):=λp=>rfl;have a:∀(r:Jz) (g:Option SV),(∃v,qL (.one 2) (qP (yY (JD (jl ub (jl jF (jb 2) (dC (.int 1))) (jl qj (dC (.int 10)) (dC (.int 30))))) (JD (jl vX (jl jF (jb 2) (dC (.int 1))) (jl xc (dC (.int 0)) (jl qj (dC (.int 10)) (dC (.int 30))))))) (j1 (dC (.bl false))) JO) (r.map qJ) [some (.val (jh f)),some (.val (js r)),g]=.ok (.next [some (.val (jh f)),some (.val (js r)),v]))\/qL (.one 2) (qP (yY (JD (jl ub (jl jF (jb 2) (dC (.int 1))) (jl qj (dC (.int 10)) (dC (.int 30))))) (JD (jl vX (jl jF (jb 2) (dC (.int 1))) (jl xc (dC (.int 0)) (jl qj (dC (.int 10)) (dC (.int 30))))))) (j1 (dC (.bl false))) JO) (r.map qJ) [some (.val (jh f)),some (.val (js r)),g]=.ok (.ret (.bl false)):=λr g =>
  WN (R:=λz=>(∃v,z=.ok (.next [some (.val (jh f)),some (.val (js r)),v]))\/z=.ok (.ret (.bl false))) (P:=λ_ sd=>∃v,sd=[some (.val (jh f)),some (.val (js r)),v]) ⟨g,rfl⟩ () λi x sd j l=>by
   obtain⟨v,h⟩:=l;obtain⟨p,hp,rfl⟩:=QM j;subst h;by_cases c:1000000000000000000000000000000<=p.2
   .simp_all
   .by_cases m:p.2 <= -1000000000000000000000000000000
    .exact .inr (.inr ⟨.bl false,by simp[q,n,m],.inr rfl⟩)
    .exact .inl ⟨[some (.val (jh f)),some (.val (js r)),some (.val (qJ p))],.inl (by simp[q,c,m]),_,rfl⟩
 have go:∃b,(((qL (.one 1) (jQ (iS (jb 1)) (.one 2) (qP (yY (JD (jl ub (jl jF (jb 2) (dC (.int 1))) (jl qj (dC (.int 10)) (dC (.int 30))))) (JD (jl vX (jl jF (jb 2) (dC (.int 1))) (jl xc (dC (.int 0)) (jl qj (dC (.int 10)) (dC (.int 30))))))) (j1 (dC (.bl false))) JO)) (f.map js) [some (.val (jh f)),none,none]).bind (xi (j1 (dC (.bl true))))).bind x8)=.ok (.bl b):=
  WN (R:=λz=>∃b,(z.bind (xi (j1 (dC (.bl true))))).bind x8=.ok (.bl b)) (P:=λ_ sd=>∃u v,sd=[some (.val (jh f)),u,v]) ⟨none,none,rfl⟩ () λi x sd j l=>by
   obtain⟨u,v,h⟩:=l;obtain⟨r,o,rfl⟩:=QM j;subst h;rcases a r v with ⟨w,e⟩|e
   .exact .inl ⟨[some (.val (jh f)),some (.val (js r)),w],.inl (by simp[e]),_,_,rfl⟩
   .exact .inr (.inr ⟨.bl false,by simp[e],false,()⟩)
 simp_all [ZQ,BG]
def cj {ps:List Pl}(B:BkP ps){j:Nat}{p:Pl}(hp:ps[j]? = some p):W0 [J6 ps,.str p.name,.int 8]=K7\/∃T,W0 [J6 ps,.str p.name,.int 8]=.ok (.lst (T.map jh))/\(∀g∈T,Tf p.givens.length (wB (j+1)) g)/\(∀hs:Yh,hs.length=p.givens.length->(T.map λg=>J7 g hs)=qc ps 4 p hs)/\T ≠ []:=by
 have b:∀x:Res D,(∀a,(QK 4 [J6 ps,.str p.name,.int 8,.adr a] [(a,.dct [] [])]).bind (λq=>.ok q.1)=x)->W0 [J6 ps,.str p.name,.int 8]=x:=λx h=>by
  have c:DN (QK 4) (.dct [] []) (J1 (jb 0) (J1 (jb 1) (J1 (jb 2) jc))) [some (.val (J6 ps)),some (.val (.str p.name)),some (.val (.int 8))]=x:=dm h;simp[W0,BP,c];cases x<;>rfl
 have e:=(B.at hp).2.1;rcases Mg B 4 j p [] hp e ⟨Vv,λx h=>nomatch h⟩ with z|⟨T,K',k1,k2,k3,k4,k5,k6⟩
 .left;exact b K7 λa=>by
   have:=z a;show Res.bind (QK 4 [J6 ps,.str p.name,.int 8,.adr a] [(a,kD [])]) _=_;rw[this];rfl
 .refine .inr ⟨T,b (.ok (.lst (T.map jh))) λa=>?_,k3,λhs h=>?_,k5⟩
  .show Res.bind (QK 4 [J6 ps,.str p.name,.int 8,.adr a] [(a,kD [])]) _=_
   simp_all
  .rw[k4 hs h,B.fuel j 4 p hp e hs]
def cW {bk:D}{p:Pl}(h:W0 [bk,.str p.name,.int 8]=K7):W1 [bk,JE p]=.ok .non:=by
 simp_all [K7,W1,ZV]
def gS {bk d:D}{p:Pl}(h:W0 [bk,.str p.name,.int 8]=.ok d):W1 [bk,JE p]=.ok d:=by
 simp_all [W1,ZV]
def cy {n:Nat}{P:Pl}{hs:Yh}(ok:RowsOk hs.length P.rows)(o:hs.length<=12)(g:asc P.name):K8 (n+1) [J6 [P],.str P.name,.lst (hs.map .int)]=.ok (.lst ((qR P.rows hs).map .int)):=by
 have p:XC [J6 [P],.str P.name]=.ok (JE P):=Er g () ();show jK 7 3 (WX (QP n)) _=_;obtain⟨sd',e,u,v,w,h⟩:=Uk (tg:=.tup [4,5,6]) (b:=Kz 3 (yX [3] (J9 (QP n) (J1 (jb 0) (J1 (jb 5) (J1 (JZ [none,none,some 3] (iS (jb 6)) (.tup [0,1]) (jl j8 (jl jF (jb 2) (jb 0)) (jb 1))) jc)))))) (ds:=P.rows.map jB) (sd:=[some (.val (J6 [P])),some (.val (.str P.name)),some (.val (.lst (hs.map .int))),some (.own false (.lst (hs.map .int))),none,none,none])
  (P:=λi sd=>∃u v w,sd=[some (.val (J6 [P])),some (.val (.str P.name)),some (.val (.lst (hs.map .int))),some (.own false (.lst ((qR (P.rows.take i) hs).map .int))),u,v,w]) ⟨none,none,none,rfl⟩ (by
   rintro i x sd j ⟨u,v,w,rfl⟩;obtain⟨r,a,rfl⟩:=QM j;obtain⟨l,q,s,f⟩:=ok.at rfl a;have t:=Lo l;have y:=ok.len;have m:=ok.sh r f;have c:=Ln (found:=qR (P.rows.take i) hs) (ok.ne r f);have A:QP n [J6 [P],.str r.2.1,.lst ((qW (qR (P.rows.take i) hs) r.2.2).map .int)]=.ok (.int (zz (qR (P.rows.take i) hs) r)):=by
    unfold zz;rcases ok.how r f with z|z
    .rw[z,Zd rfl];exact Mh n _ c
    .rw[z,Ze (by decide +kernel)];exact Mi n _ c
   have B:=JT (show r.2.2.length<=1000 from ());have C:=JT (show(qR (P.rows.take i) hs).length<=1000 by lia);rw[DX a]
   simp_all)
 simp_all [WX]
def tN {n:Nat}{W:Int}{t:J0}(T:Tf n W t)(b:n<=12):Good n t:=by
 refine⟨T.cn.ne,λr a=>?_,λr a=>(T.cn.rows r a).rise,by have:=T.len;lia,T.cn.anti,T.cn.strict⟩;have J:=T.cn.rows r a;exact⟨J.ne,J.once,λp hp=>⟨(J.bnd p hp).1,(T.th r a p hp).1⟩,J.len⟩
def vr (ps:List Pl)(p:Pl)(d:D):Prop:=d=.non\/∃(T:List J0) (t:J0) (W:Int),d=.lst ((T++[t]).map jh)/\(∀g∈T++[t],Tf p.givens.length W g)/\∀hs:Yh,hs.length=p.givens.length->((T++[t]).map λg=>J7 g hs)=qc ps 4 p hs
def da {ps:List Pl}(B:BkP ps)(p:Pl):∃d,p∈ps->W1 [J6 ps,JE p]=.ok d/\vr ps p d:=by
 by_cases c:p∈ps
 .obtain⟨j,a⟩:=Jl.mp c;rcases cj B a with z|⟨T,z1,z2,z3,z4⟩
  .exact⟨.non,λ_=>⟨cW z,.inl rfl⟩⟩
  .obtain⟨b,t,rfl⟩:=DZ z4;exact⟨_,λ_=>⟨gS z1,.inr ⟨b,t,_,rfl,z2,z3⟩⟩⟩
 .exact⟨.non,λz=>Zn z c⟩
def wF {a b:FS}{sd sd':SD}{r:Res Out}(h:a sd=.ok (.next sd'))(c:b sd'=r):jz a b sd=r:=()
def Mj {tg:Tg}{b:FS}{ds:YG}{sd:SD}(P:SD->Prop)(a:P sd)(h:∀(i:Nat) x sd,ds[i]? = some x->P sd->∃sd',(JM tg x sd).bind b=.ok (.next sd')/\P sd'):∃sd',qL tg b ds sd=.ok (.next sd')/\P sd':=by
 obtain⟨sd',e,p⟩:=Uk (P:=λ_ sd=>P sd) a ();exact⟨sd',e,p⟩
def bA:FS:=(jz (qP (Ky (JD (jN (xj true) (jl jF (jb 2) (jb 4)))) (KR (JD (jv zo (J1 (JZ [none] (iS (jl jF (jb 2) (jb 4))) (.one 0) (J9 WU (J1 (jb 0) jc))) jc))))) (j1 (dC (.bl false))) JO) (qP (Ky (JD (jN (xj true) (jl jF (jb 2) (jb 4)))) (JD (J9 ZQ (J1 (jl jF (jl jF (jb 2) (jb 4)) (jN yC (dC (.int 1)))) jc)))) (Kz 3 (xC (J1 (jb 4) (J1 (WP "Book" ["plans"] X7 (J1 (qM (J1 (J9 ZY (J1 (dC (.str "x")) (J1 (jv jT (J1 (jN (j7 "Plan" "givens") (jl jF (jN (j7 "Book" "plans") (jb 1)) (jb 4))) jc)) (J1 (jl jF (jl jF (jb 2) (jb 4)) (jN yC (dC (.int 1)))) jc)))) jc)) jc)) jc)))) JO))
def bB:FS:=(jz (jI 6 (jl jF (jN (j7 "Book" "plans") (jb 1)) (jb 4))) (jz (jI 7 (J9 Wz (J1 (jb 5) (J1 (jv jT (J1 (jN (j7 "Plan" "givens") (jb 6)) jc)) jc)))) (qP (JD (jN (xj true) (jl jF (jb 2) (jb 4)))) (qP (JD (jl yV (J9 (K8 4) (J1 (jb 1) (J1 (jN (j7 "Plan" "name") (jb 6)) (J1 (jb 7) jc)))) (JZ [none,some 7] (iS (jl jF (jb 2) (jb 4))) (.one 0) (J9 X9 (J1 (jb 0) (J1 (jb 1) jc)))))) (j1 (dC (.bl false))) JO) JO)))
def bC:FS:=(jz (jI 7 (J9 Wz (J1 (jb 5) (J1 (jv jT (J1 (jN (j7 "Plan" "givens") (jl jF (jN (j7 "Book" "plans") (jb 1)) (jb 4))) jc)) jc)))) (qP (JD (jl yV (J9 (Kv 4) (J1 (jb 8) (J1 (dC (.str "x")) (J1 (jb 7) jc)))) (J9 (Kv 4) (J1 (jb 1) (J1 (jN (j7 "Plan" "name") (jl jF (jN (j7 "Book" "plans") (jb 1)) (jb 4))) (J1 (jb 7) jc)))))) (j1 (dC (.bl false))) JO))
def vL (ps:List Pl)(x:D):Prop:=∃(i:Nat) (p:Pl) (T:List J0) (t:J0) (W:Int),ps[i]? = some p/\(∀g∈T++[t],Tf p.givens.length W g)/\(∀hs:Yh,hs.length=p.givens.length->((T++[t]).map λg=>J7 g hs)=qc ps 4 p hs)/\x=.tup [.int i,J6 [xS "x" p.givens.length t]]
def fV {ps:List Pl}(B:BkP ps){G:Pl->D}(I:∀p,p∈ps->vr ps p (G p))(o q u6 u7 u8:Option SV){os:YG}(lo:os.length<=10){i:Nat}(v:i<ps.length):∃h,(h=os\/∃x,h=os++[x]/\vL ps x)/\bA [o,some (.val (J6 ps)),some (.val (.lst (ps.map G))),some (.own false (.lst os)),some (.val (.int i)),q,u6,u7,u8]=.ok (.next [o,some (.val (J6 ps)),some (.val (.lst (ps.map G))),some (.own false (.lst h)),some (.val (.int i)),q,u6,u7,u8]):=by
 have hp:ps[i]? = some ps[i]:=by simp
 generalize ps[i]=p at hp;have P:=B.ok i p hp;have M:=P.g2;have J:j7 "Book" "plans" (J6 ps)=some (.lst (ps.map JE)):=rfl;have w:qU (ps.map JE) (i:Int)=some (JE p):=by
  rw[V2 (by rw[Zql];exact v),Zv,hp];rfl
 have e:qU (ps.map G) (i:Int)=some (G p):=by
  rw[V2 (by rw[Zql];exact v),Zv,hp];rfl
 have s:j7 "Plan" "givens" (JE p)=some (.lst (p.givens.map .str)):=rfl;have y:(p.givens.map D.str).length=p.givens.length:=Zql _;rcases I p (Ud hp) with z|⟨T,t,W,z,F,hr⟩
 .simp_all [bA,xj,GF]
 .rw[z] at e;have m:xj true (.lst ((T++[t]).map jh))=some (.bl true):=rfl;have wk:VW (.lst ((T++[t]).map jh))=some ((T++[t]).map jh):=rfl;have lt:(T++[t]).length<=1000:=by
   have a:=P.r2;have b:=hr (List.replicate p.givens.length 0) (List.length_replicate ..);have c:=Zt List.length b;rw[Zql] at c;have d:(qc ps 4 p (List.replicate p.givens.length 0)).length=_:=Ec (n:=3);rw[List.length_replicate] at d;lia
  have u:jR (.one 0) (J9 WU (J1 (jb 0) jc)) [none] ((T++[t]).map jh)=.ok (((T++[t]).map λ_=>true).map .bl):=by
   rw[Zw];refine Ki λg A=>?_;have:=gV (F g A).cn (by have:=(F g A).len;lia);simp[this]
  have C:zo [.lst (((T++[t]).map λ_=>true).map .bl)]=some (.bl true):=by
   rw[R6,Vz];have:(T++[t]).all ((λb=>b) ∘ λ_=>true)=true:=UU.mpr λ_ _=>rfl;exact()
  have E:=JT (show((T++[t]).map jh).length<=1000 by rw[Zql];exact lt);have l:qU ((T++[t]).map jh) (-1)=some (jh t):=DY (f:=jh) T t;obtain⟨b,r⟩:=gR t;have H:qP (Ky (JD (jN (xj true) (jl jF (jb 2) (jb 4)))) (KR (JD (jv zo (J1 (JZ [none] (iS (jl jF (jb 2) (jb 4))) (.one 0) (J9 WU (J1 (jb 0) jc))) jc))))) (j1 (dC (.bl false))) JO [o,some (.val (J6 ps)),some (.val (.lst (ps.map G))),some (.own false (.lst os)),some (.val (.int i)),q,u6,u7,u8]=.ok (.next [o,some (.val (J6 ps)),some (.val (.lst (ps.map G))),some (.own false (.lst os)),some (.val (.int i)),q,u6,u7,u8]):=by
   generalize ((T++[t]).map λ_=>true).map D.bl=bs at u C;generalize (T++[t]).map jh=fs at e m wk u E;generalize ps.map G=gs at e;generalize J6 ps=bk;simp[e,m,wk,E,u,C]
  cases b with
  |false =>
   refine⟨os,.inl rfl,wF H ?_⟩;generalize (T++[t]).map jh=fs at e m l;generalize jh t=fd at l r;generalize ps.map G=gs at e;generalize J6 ps=bk;simp[e,m,l,r]
  |true =>
   have j:=fm (nm:= "x") (many:=p.givens.length) (f:=t) () (by have:=(F t (Ut _ Zqs)).len;lia);refine⟨os++[.tup [.int i,J6 [xS "x" p.givens.length t]]],.inr ⟨_,rfl,i,p,T,t,W,hp,F,hr,rfl⟩,wF H ?_⟩;have K:=JT (show os.length<=1000 from ());have ib:X7 [.lst [JE (xS "x" p.givens.length t)]]=.ok [.lst [JE (xS "x" p.givens.length t)]]:=by
    generalize JE (xS "x" p.givens.length t)=pl;rfl
   have L:J6 [xS "x" p.givens.length t]=.ins "Book" ["plans"] [.lst [JE (xS "x" p.givens.length t)]]:=rfl;rw[L];generalize JE (xS "x" p.givens.length t)=pl at j ib;generalize JE p=pq at w s;generalize p.givens.map D.str=gd at s y;generalize (T++[t]).map jh=fs at e m l;generalize jh t=fd at l r j;simp[e,l,r,J,w,s,y,j,ib,K]
def fW:asc "x" := by unfold asc;decide +kernel
def fU {ps:List Pl}(B:BkP ps){G:Pl->D}(u:∀p,p∈ps->vr ps p (G p))(b u6 u7 u8:Option SV)(os:YG)(c:Int){i:Nat}(l:i<ps.length):∃v w,bB [b,some (.val (J6 ps)),some (.val (.lst (ps.map G))),some (.own false (.lst os)),some (.val (.int i)),some (.val (.int c)),u6,u7,u8]=.ok (.next [b,some (.val (J6 ps)),some (.val (.lst (ps.map G))),some (.own false (.lst os)),some (.val (.int i)),some (.val (.int c)),v,w,u8]):=by
 have hp:ps[i]? = some ps[i]:=by simp
 generalize ps[i]=p at hp;have P:=B.ok i p hp;have I:=P.g2;have x:=(B.at hp).2.1;have J:j7 "Book" "plans" (J6 ps)=some (.lst (ps.map JE)):=rfl;have L:qU (ps.map JE) (i:Int)=some (JE p):=by
  rw[V2 (by rw[Zql];exact l),Zv,hp];rfl
 have e:qU (ps.map G) (i:Int)=some (G p):=by
  rw[V2 (by rw[Zql];exact l),Zv,hp];rfl
 have M:j7 "Plan" "givens" (JE p)=some (.lst (p.givens.map .str)):=rfl;have A:j7 "Plan" "name" (JE p)=some (.str p.name):=rfl;have N:(p.givens.map D.str).length=p.givens.length:=Zql _;obtain⟨hs,j,O,Q⟩:=Ly c (n:=p.givens.length) ();have C:jI 6 (jl jF (jN (j7 "Book" "plans") (jb 1)) (jb 4)) [b,some (.val (J6 ps)),some (.val (.lst (ps.map G))),some (.own false (.lst os)),some (.val (.int i)),some (.val (.int c)),u6,u7,u8]=.ok (.next [b,some (.val (J6 ps)),some (.val (.lst (ps.map G))),some (.own false (.lst os)),some (.val (.int i)),some (.val (.int c)),some (.val (JE p)),u7,u8]):=by
  simp_all
 have E:jI 7 (J9 Wz (J1 (jb 5) (J1 (jv jT (J1 (jN (j7 "Plan" "givens") (jb 6)) jc)) jc))) [b,some (.val (J6 ps)),some (.val (.lst (ps.map G))),some (.own false (.lst os)),some (.val (.int i)),some (.val (.int c)),some (.val (JE p)),u7,u8]=.ok (.next [b,some (.val (J6 ps)),some (.val (.lst (ps.map G))),some (.own false (.lst os)),some (.val (.int i)),some (.val (.int c)),some (.val (JE p)),some (.val (.lst (hs.map .int))),u8]):=by
  simp_all
 refine⟨some (.val (JE p)),some (.val (.lst (hs.map .int))),wF C (wF E ?_)⟩;rcases u p (Ud hp) with z|⟨T,t,W,z,F,hr⟩
 .simp_all
 .rw[z] at e;have m:xj true (.lst ((T++[t]).map jh))=some (.bl true):=rfl;have wk:VW (.lst ((T++[t]).map jh))=some ((T++[t]).map jh):=rfl;have lt:(T++[t]).length<=1000:=by
   have a:=P.r2;have c:=Zt List.length (hr hs j);rw[Zql] at c;have d:(qc ps 4 p hs).length=_:=Ec (n:=3);lia
  have o:=JT (show((T++[t]).map jh).length<=1000 by rw[Zql];exact lt);have fo:=Ew B 4 i p hs hp x j;have q:jR (.one 0) (J9 X9 (J1 (jb 0) (J1 (jb 1) jc))) [none,some (.val (.lst (hs.map .int)))] ((T++[t]).map jh)=.ok ((qc ps 4 p hs).map .int):=by
   rw[<- hr hs j,Zw];refine Ki λg H=>?_;have K:=F g H;have:=gU (f:=g) (hs:=hs) K.cn.ne (by have:=K.len;lia) (λr h=>⟨(K.cn.rows r h).ne,by have:=(K.cn.rows r h).len;lia⟩) (λr h y s=>⟨((K.cn.rows r h).bnd y s).1,by have:=(K.th r h y s).1;lia⟩);simp[this]
  have ne:yV (.lst ((qc ps 4 p hs).map .int)) (.lst ((qc ps 4 p hs).map .int))=some (.bl false):=by rw[AO (IK _) (IK _),Xp];rfl
  generalize (T++[t]).map jh=fs at e m wk q o;simp[e,m,wk,o,A,fo,q,ne]
def fT {ps:List Pl}(B:BkP ps){G:Pl->D}(b j u6 u7 u8:Option SV)(os:YG)(c:Int){x:D}(l:vL ps x):∃m o q,(JM (.tup [4,8]) x [b,some (.val (J6 ps)),some (.val (.lst (ps.map G))),some (.own true (.lst os)),j,some (.val (.int c)),u6,u7,u8]).bind bC=.ok (.next [b,some (.val (J6 ps)),some (.val (.lst (ps.map G))),some (.own true (.lst os)),m,some (.val (.int c)),u6,o,q]):=by
 obtain⟨i,p,T,t,W,hp,F,r,rfl⟩:=l;have v:=(B.at hp).1;have P:=B.ok i p hp;have w:=P.g1;have y:=P.g2;have s:=(B.at hp).2.1;have z:qU (ps.map JE) (i:Int)=some (JE p):=by
  rw[V2 (by rwa [Zql]),Zv,hp];rfl
 obtain⟨hs,a,A,C⟩:=Ly c (n:=p.givens.length) ();have K:=F t (Ut _ Zqs);have e:=tN K ();obtain⟨ys,u⟩:=dg e (U5 _) a;have f:=cy (n:=3) (P:=xS "x" p.givens.length t) (by rw[a];exact tu e (by have:=K.len;lia) (U5 _) () ()) () fW;rw[u] at f;have g:=Eu f;have h:=Ew B 4 i p hs hp s a;rw[<- r hs a,Uc] at h;have E:=Eu h;have g:Kv 4 [J6 [xS "x" p.givens.length t],.str "x",.lst (hs.map .int)]=_:=g
 simp_all [bC]
def wf (ns:Yh)(h:ns.length<=63):v8 [.scr ns]=.ok (.bl true):=by
 have S:=Ee ns 0;rw[show((0:Nat):Int)=0 from rfl] at S;obtain⟨k,hk,k3⟩:∃k:Nat,1+Kl ns 0 % 3=(k:Int)/\k<=3:=⟨(1+Kl ns 0 % 3).toNat,(),()⟩;obtain⟨ps,lp,B,N⟩:=gX ns (n:=k) (m:=5) () () ();have N:ZP [.scr ns,.int k,.int 5]=.ok (J6 ps):=N;obtain⟨H,T,U⟩:=cU h (a:=19) (most:=16) () () () ();obtain⟨G,X⟩:=Classical.axiomOfChoice (da B);have O:∀p,p∈ps->vr ps p (G p):=λp hp=>(X p hp).2;have fp:j7 "Book" "plans" (J6 ps)=some (.lst (ps.map JE)):=rfl;have z1:=JT (show ps.length<=1000 from ());have mk:jR (.one 0) (J9 W1 (J1 (jb 1) (J1 (jb 0) jc))) [none,some (.val (J6 ps))] (ps.map JE)=.ok (ps.map G):=Ki λp hp=>by
  simp_all
 have ga:j8 (.lst [.int 3]) (.lst (H.map .int))=some (.lst ((3::H).map .int)):=by
  show(if 1+(H.map D.int).length<=sizeLine then _ else _)=_;rw[Zql,Zd (QR ())];rfl
 have r1:KG [.int (ps.length:Nat)]=.ok (JP 0 ps.length):=by rw[VX () ()];rfl
 have ln:(ps.map G).length=ps.length:=Zql _;have I:∀(o a b c d e:Option SV),zn (J1 (jv jT (J1 (jb 2) jc)) jc) [some (.val (.scr ns)),some (.val (J6 ps)),some (.val (.lst (ps.map G))),o,a,b,c,d,e]=.ok (JP 0 ps.length):=λo a b c d e=>by
  simp_all
 have Q:ZZ [some (.val (.scr ns)),none,none,none,none,none,none,none,none]=.ok (.ret (.bl true)):=by
  unfold ZZ;refine wF (sd':=[some (.val (.scr ns)),some (.val (J6 ps)),none,none,none,none,none,none,none]) (by
   simp_all) ?_
  refine wF (sd':=[some (.val (.scr ns)),some (.val (J6 ps)),some (.val (.lst (ps.map G))),none,none,none,none,none,none]) (by
   simp_all) ?_
  refine wF (sd':=[some (.val (.scr ns)),some (.val (J6 ps)),some (.val (.lst (ps.map G))),some (.own false (.lst [])),none,none,none,none,none]) () ?_;obtain⟨Y,Z,os,s,rfl,lo,J⟩:=Uk (tg:=.one 4) (b:=bA) (ds:=JP 0 ps.length) (sd:=[some (.val (.scr ns)),some (.val (J6 ps)),some (.val (.lst (ps.map G))),some (.own false (.lst [])),none,none,none,none,none])
   (P:=λi sd=>∃(os:YG) (s:Option SV),sd=[some (.val (.scr ns)),some (.val (J6 ps)),some (.val (.lst (ps.map G))),some (.own false (.lst os)),s,none,none,none,none]/\os.length<=i/\∀x∈os,vL ps x) ⟨[],none,rfl,Zf _,λx g=>nomatch g⟩ (by
    rintro i x sd g ⟨os,s,rfl,lo,J⟩;obtain⟨rfl,L⟩:=Xu g;rw[Int.zero_add];obtain⟨M,R,e⟩:=fV B O (some (.val (.scr ns))) none none none none (os:=os) () L;refine⟨_,e,M,_,rfl,?_,?_⟩
    .rcases R with z|⟨y,z,_⟩
     .rw[z];lia
     .rw[z,Ub,Ui];lia
    .rcases R with z|⟨y,z,oy⟩
     .rw[z];exact J
     .rw[z];intro x g;rcases Jb.mp g with q|q
      .exact J x q
      .rw[Jd.mp q];exact oy)
  refine wF (sd':=[some (.val (.scr ns)),some (.val (J6 ps)),some (.val (.lst (ps.map G))),some (.own false (.lst os)),s,none,none,none,none]) (by
   show jQ _ (.one 4) bA _=_;rw[De,I,ji,Z]) ?_
  have it:iS (jl j8 (qM (J1 (dC (.int 3)) jc)) (J9 ZW (J1 (jb 0) (J1 (dC (.int 19)) (J1 (dC (.int 16)) jc))))) [some (.val (.scr ns)),some (.val (J6 ps)),some (.val (.lst (ps.map G))),some (.own false (.lst os)),s,none,none,none,none]=.ok ((3::H).map .int):=by
   simp_all
  obtain⟨sd2,e2,t,K,u,w,f,rfl⟩:=Mj (tg:=.one 5) (b:=jz (jQ (zn (J1 (jv jT (J1 (jb 2) jc)) jc)) (.one 4) bB) (Y6 3 (.tup [4,8]) bC)) (ds:=(3::H).map .int) (sd:=[some (.val (.scr ns)),some (.val (J6 ps)),some (.val (.lst (ps.map G))),some (.own false (.lst os)),s,none,none,none,none])
   (λsd=>∃t K u w f,sd=[some (.val (.scr ns)),some (.val (J6 ps)),some (.val (.lst (ps.map G))),some (.own false (.lst os)),t,K,u,w,f]) ⟨s,none,none,none,none,rfl⟩ (by
    rintro i x sd g ⟨t,K,u,w,f,rfl⟩;obtain⟨c,_,rfl⟩:=QM g;obtain⟨sd3,e3,A,l,r,rfl⟩:=Mj (tg:=.one 4) (b:=bB) (ds:=JP 0 ps.length) (sd:=[some (.val (.scr ns)),some (.val (J6 ps)),some (.val (.lst (ps.map G))),some (.own false (.lst os)),t,some (.val (.int c)),u,w,f])
     (λsd=>∃A l r,sd=[some (.val (.scr ns)),some (.val (J6 ps)),some (.val (.lst (ps.map G))),some (.own false (.lst os)),A,some (.val (.int c)),l,r,f]) ⟨t,u,w,rfl⟩ (by
      rintro i x sd g ⟨A,l,r,rfl⟩;obtain⟨rfl,L⟩:=Xu g;rw[Int.zero_add];obtain⟨x6,C,e⟩:=fU B O (some (.val (.scr ns))) l r f os c L;exact⟨_,e,_,_,_,rfl⟩)
    obtain⟨sd4,e4,E,C,F,rfl⟩:=R8 (k:=3) (v:=.own false (.lst os)) (tg:=.tup [4,8]) (b:=bC) (ds:=os) (sd:=[some (.val (.scr ns)),some (.val (J6 ps)),some (.val (.lst (ps.map G))),some (.own true (.lst os)),A,some (.val (.int c)),l,r,f])
     (P:=λ_ sd=>∃E C F,sd=[some (.val (.scr ns)),some (.val (J6 ps)),some (.val (.lst (ps.map G))),some (.own true (.lst os)),E,some (.val (.int c)),l,C,F]) (by rintro j sd ⟨E,C,F,rfl⟩;rfl) ⟨A,r,f,rfl⟩ (by
      rintro i x sd g ⟨E,C,F,rfl⟩;obtain⟨y4,y7,y8,e⟩:=fT B (G:=G) (some (.val (.scr ns))) E l C F os c (J x (Ud g));exact⟨_,e,_,_,_,rfl⟩)
    refine⟨[some (.val (.scr ns)),some (.val (J6 ps)),some (.val (.lst (ps.map G))),some (.own false (.lst os)),E,some (.val (.int c)),l,C,F],?_,_,_,_,_,_,rfl⟩;show jz _ _ [some (.val (.scr ns)),some (.val (J6 ps)),some (.val (.lst (ps.map G))),some (.own false (.lst os)),t,some (.val (.int c)),u,w,f]=_;refine wF (sd':=[some (.val (.scr ns)),some (.val (J6 ps)),some (.val (.lst (ps.map G))),some (.own false (.lst os)),A,some (.val (.int c)),l,r,f]) (by rw[De,I,ji,e3]) ?_;show Di 3 (.own false (.lst os)) (.tup [4,8]) bC os [some (.val (.scr ns)),some (.val (J6 ps)),some (.val (.lst (ps.map G))),some (.own true (.lst os)),A,some (.val (.int c)),l,r,f]=_;rw[e4];rfl)
  refine wF (sd':=[some (.val (.scr ns)),some (.val (J6 ps)),some (.val (.lst (ps.map G))),some (.own false (.lst os)),t,K,u,w,f]) ?_ ?_
  .show jQ _ (.one 5) (jz (jQ (zn (J1 (jv jT (J1 (jb 2) jc)) jc)) (.one 4) bB) (Y6 3 (.tup [4,8]) bC)) _=_;rw[De,it,ji,e2]
  .simp
 simp_all [v8]
end My
set_option maxHeartbeats 4000000
namespace My
open PySem L2 L2.DL
def wP (i:Nat):Stmt:=PySem.Challenge.pw_allfirst_k52_whole_form_and_run.main.body.getD i (.Pass ⟨0,0,0,0⟩)
abbrev tbl:List (Str×Nat):=List.zip (List.map Str.ofString ["_law_cell_at", "_law_take", "_law_wait", "_law_items", "_law_plan", "_law_book", "_law_comes", "_law_hours", "_law_beneath", "_law_least", "_law_near", "fits_in", "is_covered", "joined", "each_joined", "lowest", "form_within", "all_of", "first_of", "shifted", "waited", "put_into_row", "put_into", "made_form", "plan_by", "thing_form", "forms_knowing", "forms_of", "_law_told", "_law_turns", "told_hour", "made_hour", "hours_of", "planned"]) [34,35,36,37,38,39,43,40,41,42,45,5,9,6,17,8,18,14,13,7,12,16,15,27,22,11,26,24,44,46,30,31,29,25]
abbrev bl:Yk:=List.map Str.ofString ["all", "dict", "enumerate", "len", "list", "max", "min", "range", "set", "sorted", "str", "sum", "tuple"]
structure All (e:Ev):Prop extends Al e wP tbl bl where
 x_TooMany:Exc e.K e.mg "TooMany" (e.C 0)
 k_Book:ClsD e.K e.mg "Book" (e.C 1) ["plans"]
 l_Book:∃f fd,Mk e.K (e.C 1) f/\Fun e.K "__init__" "Book.__init__" (Ak (wP 21) 0) f fd
 k_Plan:ClsD e.K e.mg "Plan" (e.C 2) ["name", "givens", "rows"]
 l_Plan:∃f fd,Mk e.K (e.C 2) f/\Fun e.K "__init__" "Plan.__init__" (Ak (wP 20) 0) f fd
section
variable {e:Ev}{k j:Nat}
def Ml (a:All e):rx e.P e.w e.K e.mg e.base "Book" ["plans"] 1 ["self", "plans"] X7:=by
 obtain⟨f,h,c,b⟩:=a.l_Book;have m:=a.m;have k:=a.k_Book;exact⟨_,_,_,k,c,gK (k:=0) (N:=["plans"]) (g:=(J1 (jv KF (J1 (jb 1) jc)) jc)) b (JN (N:=["self", "plans"])) (by decide) (by decide) λ_ _ _ _ _ _ i=>(Bj k (by decide) (pv 0) (jt (WD (x:= "list") AS rfl (JH m) Aq (J2 (qv 1) J3))) Ih),b.binds λ_ _ _ _ _ _=>ml λ_ _=>rfl⟩
def Mm (a:All e):rx e.P e.w e.K e.mg e.base "Plan" ["name", "givens", "rows"] 1 ["self", "name", "givens", "rows"] ZK:=by
 obtain⟨f,h,c,b⟩:=a.l_Plan;have m:=a.m;have k:=a.k_Plan;exact⟨_,_,_,k,c,gK (k:=0) (N:=["name", "givens", "rows"]) (g:=(J1 (jb 1) (J1 (jv KF (J1 (jb 2) jc)) (J1 (jv KF (J1 (jb 3) jc)) jc)))) b (JN (N:=["self", "name", "givens", "rows"])) (by decide) (by decide) λ_ _ _ _ _ _ i=>(Bj k (by decide) (pv 0) (qv 1) (Bj k (by decide) (pv 0) (jt (WD (x:= "list") AS rfl (JH m) Aq (J2 (qv 2) J3))) (Bj k (by decide) (pv 0) (jt (WD (x:= "list") AS rfl (JH m) Aq (J2 (qv 3) J3))) Ih))),b.binds λ_ _ _ _ _ _=>mj λ_ _ _ _=>rfl⟩
def Mn (a:All e):Ca e "_law_cell_at" 1 ["script", "k"] (xl e.K Wy):=
 xu a.toAl 0 34 λF=>xf (N:=["script", "k"]) (g:=ZL) F JN λ_ _ _ _ _ _ b=>by
 have m:=a.m;unfold ZL;exact(JK (Q2 (Q8 mR (qv 1) (Qp (x:= "len") Kh rfl (JH m) QU (J2 (qv 0) J3)) (Qn _)) (JB (Qb (Ql (Qa b) (qv 0) (qv 1) (λ_ _=>rfl) (λ_ _=>rfl)))) Q1) (JB (Qb J8)))
def Ex (a:All e):Ca e "_law_take" 1 ["pot", "many"] (yF e.K Ku):=
 xu a.toAl 1 35 λF=>Bp (N:=["pot", "many", "digit"]) (g:=B6) F JN λ_ _ _ _ _ _ b=>by
 unfold B6;exact(Kq (m:=none) (DE j3 rfl (.inl rfl) (WQ KS (Iu (qv 0) J8 (λ_ _=>rfl)) (Qr (qv 1)))) (Kq (m:=none) (d7 (qv 0) J8 (WQ dr (Iu (qv 0) J8 (λ_ _=>rfl)) (Qr (qv 1)))) (Wa (Qr (qv 2)))))
def sS (a:All e):Ca e "_law_wait" 2 ["pot"] (yF e.K B7):=
 xu a.toAl 2 36 λF=>Bp (N:=["pot"]) (g:=ZM) F JN λ_ _ _ _ _ _ c=>by
 have b:=(Ex a).mono (k:=1) ();unfold ZM;exact(DG (dU ve (KJ b c rfl (J2 (qv 0) (J2 J8 J3))) (Qr J8) (Qn _)) (Wa (WQ Wn (KJ b c rfl (J2 (qv 0) (J2 J8 J3))) (Qr J8))) (Wa (WQ Wn (KJ b c rfl (J2 (qv 0) (J2 (j0 Wn (j0 Xn J8 (j0 KU J8 J8)) J8) J3))) (Qr (j0 Wn (j0 KU J8 J8) J8)))))
def sX (a:All e):Ca e "_law_items" 3 ["pot", "many", "count"] (yF e.K Eg):=
 xu a.toAl 3 37 λF=>Bp (N:=["pot", "many", "count", "items", "k", "thing"]) (g:=B8) F JN λ_ _ _ _ _ _ f=>by
 have m:=a.m;have b:=(Ex a).mono (k:=2) ();have c:=(sS a).mono (k:=2) ();unfold B8;exact(Kq (m:=none) (QV (Ke j3 rfl (.inl rfl) (Kd J3))) (Kq (m:=none) (Ip PassesOwn.never rfl (KY rfl (JH m) (J2 (qv 2) J3)) (JV (JU j3 rfl (.inl rfl))) (Ux (DE j3 rfl (.inl rfl) (KJ b f rfl (J2 (qv 0) (J2 (qv 1) J3)))) (Z8 (Ix (pv 3) (Iw (V0 (Qr (qv 5)) (V0 (KJ c f rfl (J2 (qv 0) J3)) Bn))) (λh i=>KO Yy Yz YA V4 h i))))) (DI (Wa (Qr (WC (x:= "tuple") AT rfl (JH m) Ar (J2 (qv 3) J3)))))))
def tF (a:All e):Ca e "_law_plan" 4 ["script", "start", "name", "ahead", "most_rows"] (yF e.K BA):=
 xu a.toAl 4 38 λF=>Bp (N:=["script", "start", "name", "ahead", "most_rows", "pot", "givens", "rows", "used", "k", "cell", "how", "count", "part"]) (g:=B9) F JN λ_ _ _ _ _ _ h=>by
 have m:=a.m;have c:=(Mn a).mono (k:=3) ();have l:=(sX a).mono (k:=3) ();have b:=(Ex a).mono (k:=3) ();have f:=a.k_Plan;have i:=Mm a;unfold B9
 exact(Kq (m:=none) (QV (Ke j3 rfl (.inl rfl) (Kd (J2 (j0 KS (qf c h rfl (J2 (qv 0) (J2 (qv 1) J3))) (j0 KU J8 J8)) J3)))) (Kq (m:=none) (QV (DH j3 rfl (.inl rfl) (Xz (WQ Qg (Qr J8) (KJ b h rfl (J2 (qv 5) (J2 J8 J3))))))) (Kq (m:=none) (QV (Ke j3 rfl (.inl rfl) (Kd J3))) (Kq (m:=none) (DE j3 rfl (.inl rfl) (IA [3] (AB (kJ h.units) (qv 3) (jt (Kd J3)) (Qn _)))) (Kq (m:=none) (tW PassesOwn.never rfl rfl (JH m) (Xz (WQ Qg (Qr J8) (KJ b h rfl (J2 (qv 5) (J2 (qv 4) J3))))) (JV (JU j3 rfl (.inl rfl))) (Ux (QV (Ke j3 rfl (.inl rfl) (Kd (J2 (j0 Qg (j0 Xn (j0 KS (qf c h rfl (J2 (qv 0) (J2 (j0 Qg (j0 Qg (qv 1) J8) (qv 9)) J3))) (j0 KU J8 J8)) (j0 KU J8 J8)) (j0 KS (qf c h rfl (J2 (qv 0) (J2 (qv 1) J3))) (j0 KU J8 J8))) J3)))) (Ux (QV (DH j3 rfl (.inl rfl) (Xz (Iv I1 (Qr (jt (Kd (J2 Q0 (J2 Q0 (J2 Q0 (J2 Q0 (J2 Q0 J3)))))))) (KJ b h rfl (J2 (qv 10) (J2 J8 J3))) (λ_ _=>rfl))))) (Ux (QV (DH j3 rfl (.inl rfl) (Xz (WQ Qg (Qr J8) (KJ b h rfl (J2 (qv 10) (J2 J8 J3))))))) (Ux (QV (Q2 (xZ (AE (Q8 (xT h.units) (qv 11) Q0 (Qn _)) (AD (KQ (qv 8))))) (JB (Q9 j3 rfl (.inl rfl) Q0)) Q1)) (Ux (Im (TW (Q8 (xT h.units) (qv 11) Q0 (Qn _))) (Ux (QV (Q9 j3 rfl (.inl rfl) Kc)) (Ux (dA j3 rfl (.inl rfl) (t7 (tX (Qr (qv 3)) (cq b h rfl (V0 (Qr (qv 10)) (V0 (IA [3] (Qp (x:= "len") Kh rfl (JH m) QU (J2 (qv 3) J3))) Bn))) (λ_ _=>rfl)))) (Ux (QV (Q9 j3 rfl (.inl rfl) (QC f (by decide) (qv 13)))) (Z8 (QV (Q9 j3 rfl (.inl rfl) (Qp (x:= "len") Kh rfl (JH m) QU (J2 (QC f (by decide) (qv 13)) J3)))))))) Il) (Z8 (QV (Iz (pv 7) (Xz (Iw (V0 (Qr (j0 Qg Q0 (WC (x:= "str") D8 rfl (JH m) Cs (J2 (qv 9) J3)))) (V0 (Qr (qv 11)) (V0 (KJ l h rfl (J2 (qv 10) (J2 (j0 Qg (qv 6) (qv 9)) (J2 (qv 12) J3)))) Bn))))) (λn o=>KO Yy Yz YA V4 n o)))))))))) (DI (Wa (Qr (jt (Bk i (h.mono ()) rfl (J2 (qv 2) (J2 (jt (Kf ["k"] [none] rfl rfl (KY rfl (JH m) (J2 (qv 6) J3)) (λ_ _ _ _ _=>(JV (x5 0 j3))) (λ_ _ _ _ _=>(j0 Qg Q0 (WC (x:= "str") D8 rfl (JH m) Cs (J2 (qv 0) J3)))))) (J2 (qv 7) J3)))))))))))))
def sU (a:All e):Ca e "_law_book" 5 ["script", "plans", "most_rows"] (zL e.K ZP):=
 xu a.toAl 5 39 λF=>yW (N:=["script", "plans", "most_rows", "found", "k"]) (g:=BB) F JN λ_ _ _ _ _ _ f=>by
 have m:=a.m;have c:=(tF a).mono (k:=4) ();have b:=Ml a;unfold BB;exact(JK (Ke j3 rfl (.inl rfl) (Kd J3)) (JK (Q5 PassesOwn.never rfl (KY rfl (JH m) (J2 (qv 1) J3)) (JV (JU j3 rfl (.inl rfl))) (JB (Iz (pv 3) (Xz (KJ c f rfl (J2 (qv 0) (J2 (j0 Qg J8 (j0 Xn (qv 4) (j0 Qg (qv 2) J8))) (J2 (j0 Qg Q0 (WC (x:= "str") D8 rfl (JH m) Cs (J2 (qv 4) J3))) (J2 (qv 3) (J2 (qv 2) J3))))))) (λh i=>KO Yy Yz YA V4 h i)))) (JB (Y4 [3] (WE (Bk b (f.mono ()) rfl (J2 (qv 3) J3)))))))
def sP (a:All e):Ca e "_law_comes" 1 ["form", "hours"] (xl e.K X9):=
 xu a.toAl 6 43 λF=>xf (N:=["form", "hours"]) (g:=BC) F JN λ_ _ _ _ _ _ b=>by
 have m:=a.m;unfold BC;exact(JB (Qb (Qp (x:= "min") (G8 rfl) rfl (JH m) Cr (J2 (jt (Kf ["row", "hours"] [none,some 1] rfl rfl (JX (qv 0)) (λ_ _ _ _ _=>(JV (x5 0 j3))) (λ_ _ _ _ _=>(Qp (x:= "max") (G4 rfl) rfl (JH m) Ao (J2 (jt (Kf ["thing", "wait", "hours"] [none,none,some 1] rfl rfl (JX (qv 0)) (λ_ _ _ _ _=>(K2 [0,1] (Kx rfl (Qe (x5 0 j3) (Qe (x5 1 j3) Kw))))) (λ_ _ _ _ _=>(j0 Qg (Ql (Qa b) (qv 2) (qv 0) (λ_ _=>rfl) (λ_ _=>rfl)) (qv 1))))) J3))))) J3))))
def tf (a:All e):Ca e "_law_hours" 1 ["cell", "many"] (zL e.K Wz):=
 xu a.toAl 7 40 λF=>yW (N:=["cell", "many", "hours", "k", "mixed"]) (g:=BD) F JN λ_ _ _ _ _ _ b=>by
 have m:=a.m;unfold BD;exact(JK (Ke j3 rfl (.inl rfl) (Kd J3)) (JK (Q5 PassesOwn.never rfl (KY rfl (JH m) (J2 (qv 1) J3)) (JV (JU j3 rfl (.inl rfl))) (JK (Q9 j3 rfl (.inl rfl) (j0 KS (j0 Xn (j0 Qg (j0 Qg (j0 KS (j0 CJ (qv 0) (j0 Qg (qv 3) J8)) J8) (j0 Xn J8 (qv 3))) J8) J8) J8)) (JK (Y5 (pv 2) (j0 Wn (j0 KS (qv 4) J8) J8) (λc f=>KO Yy Yz YA V4 c f)) (JB (Q2 (Q8 (xT b.units) (j0 KS (j0 CJ (qv 4) J8) J8) J8 (Qn _)) (JB (Rx (pv 2) (qv 3) (j0 Wn (j0 KS (j0 CJ (qv 0) (j0 Qg (qv 3) J8)) (j0 Qg (j0 Xn J8 (j0 KU J8 J8)) J8)) (j0 KU J8 J8)))) Q1))))) (JB (AI (pv 2)))))
def tq (a:All e):Ca e "_law_beneath" 1 ["row", "other"] (xl e.K XA):=
 xu a.toAl 8 41 λF=>xf (N:=["row", "other", "waits", "thing", "wait"]) (g:=BE) F JN λ_ _ _ _ _ _ b=>by
 have m:=a.m;unfold BE;exact(JK (Q9 j3 rfl (.inl rfl) (jt (WD (x:= "dict") (CT rfl) rfl (JH m) Ct (J2 (qv 1) J3)))) (JK (Q5 PassesOwn.never rfl (JX (qv 0)) (K2 [3,4] (Kx rfl (Qe (JU j3 rfl (.inl rfl)) (Qe (JU j3 rfl (.inl rfl)) Kw)))) (JB (Q2 (xZ (CD (CP b.units (qv 3) (qv 2)) (CC (Q8 ve (qv 4) (Ql (Qa b) (qv 2) (qv 3) (λ_ _=>rfl) (λ_ _=>rfl)) (Qn _))))) (JB (Qb Kc)) Q1))) (JB (Qb Kc))))
def tG (a:All e):Ca e "_law_least" 2 ["form"] (xl e.K WU):=
 xu a.toAl 9 42 λF=>xf (N:=["form", "one", "other"]) (g:=BF) F JN λ_ _ _ _ _ _ b=>by
 have m:=a.m;have c:=(tq a).mono (k:=1) ();unfold BF;exact(JK (Q5 PassesOwn.never rfl (JX (qv 0)) (JV (JU j3 rfl (.inl rfl))) (JB (Q5 PassesOwn.never rfl (JX (qv 0)) (JV (JU j3 rfl (.inl rfl))) (JB (Q2 (xZ (AE (Q8 (vd b.units) (qv 1) (qv 2) (Qn _)) (AD (KQ (qf c b rfl (J2 (qv 1) (J2 (qv 2) J3))))))) (JB (Qb Kc)) Q1))))) (JB (Qb (Gm (AB (vd b.units) (qv 0) (jt (Kd J3)) (Qn _)) (Gm (AB (xT b.units) (jt (Gn (x:= "sorted") (GS b.units) rfl (JH m) Ap (J2 (qv 0) J3))) (qv 0) (Qn _)) (ka (AB (xT b.units) (Ti (λh=>XI L2.ST.call_lenSet rfl (JH m) QU (K9 (Ai (L2.ST.call_setRows rfl b.units) rfl (JH m) L2.bt_set h) KN)) (J2 (qv 0) J3)) (Qp (x:= "len") Kh rfl (JH m) QU (J2 (qv 0) J3)) (Qn _))))))))
def t4 (a:All e):Ca e "_law_near" 1 ["form"] (xl e.K ZQ):=
 xu a.toAl 10 45 λF=>xf (N:=["form", "row", "pair"]) (g:=BG) F JN λ_ _ _ _ _ _ b=>by
 unfold BG;exact(JK (Q5 PassesOwn.never rfl (JX (qv 0)) (JV (JU j3 rfl (.inl rfl))) (JB (Q5 PassesOwn.never rfl (JX (qv 1)) (JV (JU j3 rfl (.inl rfl))) (JB (Q2 (xZ (CD (Q8 mU (Ql (Qa b) (qv 2) J8 (λ_ _=>rfl) (λ_ _=>rfl)) (j0 KU J8 J8) (Qn _)) (CC (Q8 mS (Ql (Qa b) (qv 2) J8 (λ_ _=>rfl) (λ_ _=>rfl)) (j0 Wn J8 (j0 KU J8 J8)) (Qn _))))) (JB (Qb Kc)) Q1))))) (JB (Qb Kc)))
def kI (a:All e):Ca e "fits_in" 1 ["row", "waits"] (xl e.K vQ):=
 xu a.toAl 11 5 λF=>xf (N:=["row", "waits", "thing", "wait"]) (g:=vP) F JN λ_ _ _ _ _ _ b=>by
 unfold vP;exact(JK (Q5 PassesOwn.never rfl (JX (qv 0)) (K2 [2,3] (Kx rfl (Qe (JU j3 rfl (.inl rfl)) (Qe (JU j3 rfl (.inl rfl)) Kw)))) (JB (Q2 (xZ (CD (CP b.units (qv 2) (qv 1)) (CC (Q8 ve (qv 3) (Ql (Qa b) (qv 1) (qv 2) (λ_ _=>rfl) (λ_ _=>rfl)) (Qn _))))) (JB (Qb Kc)) Q1))) (JB (Qb Kc)))
def Mo (a:All e):Ca e "is_covered" 2 ["row", "kept"] (xl e.K xq):=
 xu a.toAl 12 9 λF=>xf (N:=["row", "kept", "waits", "other"]) (g:=vn) F JN λ_ _ _ _ _ _ c=>by
 have m:=a.m;have b:=(kI a).mono (k:=1) ();unfold vn;exact(JK (Q9 j3 rfl (.inl rfl) (jt (WD (x:= "dict") (CT rfl) rfl (JH m) Ct (J2 (qv 0) J3)))) (JK (Q5 PassesOwn.never rfl (JX (qv 1)) (JV (JU j3 rfl (.inl rfl))) (JB (Q2 (KQ (qf b c rfl (J2 (qv 3) (J2 (qv 2) J3)))) (JB (Qb Kc)) Q1))) (JB (Qb Kc))))
def kH (a:All e):Ca e "joined" 1 ["row", "other"] (xl e.K zQ):=
 xu a.toAl 13 6 λF=>xf (N:=["row", "other", "waits", "thing", "wait"]) (g:=vq) F JN λ_ _ _ _ _ _ b=>by
 have m:=a.m;unfold vq;exact(JK (Ke j3 rfl (.inl rfl) (WD (x:= "dict") (CT rfl) rfl (JH m) Ct (J2 (qv 0) J3))) (JK (Q5 PassesOwn.never rfl (JX (qv 1)) (K2 [3,4] (Kx rfl (Qe (JU j3 rfl (.inl rfl)) (Qe (JU j3 rfl (.inl rfl)) Kw)))) (JB (PR (Qa b) (pv 2) (qv 3) (Qp (x:= "max") (G3 rfl) rfl (JH m) Ao (J2 (qv 4) (J2 (AG [2] (PQ (Qa b) (qv 2) (qv 3) (qv 4) ⟨rfl,rfl,rfl,rfl⟩)) J3)))))) (JB (Y4 [2] (Qb (WC (x:= "tuple") AT rfl (JH m) Ar (J2 (Rb (λh=>XI (Pc rfl) rfl (JH m) Ap (K9 (NO PySem.F.plainAttrs_dict PySem.F.slot_dict_items PySem.F.type_dict_items Pb h) KN)) (qv 2)) J3)))))))
def tE (a:All e):Ca e "each_joined" 3 ["form", "other"] (zL e.K ZR):=
 xu a.toAl 14 17 λF=>yW (N:=["form", "other", "rows", "rest", "row"]) (g:=BH) F JN λ_ _ _ _ _ _ c=>by
 have m:=a.m;have b:=(Mo a).mono (k:=2) ();have f:=(kH a).mono (k:=2) ();unfold BH;exact(JK (Ke j3 rfl (.inl rfl) (uZ TK (jt (GE ["row", "other"] [none,some 1] rfl rfl (JX (qv 0)) (λ_ _ _ _ _=>(JV (x5 0 j3))) (λ_ _ _ _ _=>(KQ (qf b c rfl (J2 (qv 0) (J2 (qv 1) J3))))) (λ_ _ _ _ _=>(qv 0)))) (jt (GE ["row", "form"] [none,some 0] rfl rfl (JX (qv 1)) (λ_ _ _ _ _=>(JV (x5 0 j3))) (λ_ _ _ _ _=>(KQ (qf b c rfl (J2 (qv 0) (J2 (qv 1) J3))))) (λ_ _ _ _ _=>(qv 0)))))) (JK (Rk ["row", "form"] [none,some 0] j3 rfl (.inl rfl) rfl rfl (JX (qv 1)) (λ_ _ _ _ _=>(JV (x5 0 j3))) (λ_ _ _ _ _=>(AC (KQ (qf b c rfl (J2 (qv 0) (J2 (qv 1) J3)))))) (λ_ _ _ _ _=>(qv 0))) (JK (Q5 PassesOwn.never rfl (JX (qv 0)) (JV (JU j3 rfl (.inr rfl))) (JB (Q2 (AC (KQ (qf b c rfl (J2 (qv 4) (J2 (qv 1) J3))))) (JB (Pr (pv 2) (Kf ["other_row", "row"] [none,some 4] rfl rfl (JX (qv 3)) (λ_ _ _ _ _=>(JV (x5 0 j3))) (λ_ _ _ _ _=>(qf f c rfl (J2 (qv 1) (J2 (qv 0) J3))))) (λh i=>KO Yy PySem.F.slot_list_extend PySem.F.type_list_extend NQ h i))) Q1))) (JB (AI (pv 2))))))
def kF (a:All e):Ca e "lowest" 3 ["rows", "enough"] (zL e.K vu):=
 xu a.toAl 15 8 λF=>yW (N:=["rows", "enough", "kept", "row"]) (g:=vo) F JN λ_ _ _ _ _ _ c=>by
 have m:=a.m;have b:=(Mo a).mono (k:=2) ();unfold vo;exact(JK (Ke j3 rfl (.inl rfl) (Kd J3)) (JK (Q5 PassesOwn.never rfl (JX (jt (Tu (λh=>L2.ST.pe_sortLen rfl (JH m) rfl (JH m) h) (J2 (jt (Th (λh=>XI (L2.ST.call_sortedSet rfl c.units) rfl (JH m) Ap (K9 (Ai (L2.ST.call_setRows rfl c.units) rfl (JH m) L2.bt_set h) KN)) (J2 (qv 0) J3))) J3)))) (JV (JU j3 rfl (.inl rfl))) (JK (Q2 (Q8 (xT c.units) (AG [2] (Qp (x:= "len") Kh rfl (JH m) QU (J2 (qv 2) J3))) (qv 1) (Qn _)) (JB Pq) Q1) (JB (Q2 (AC (KQ (AG [2] (qf b c rfl (J2 (qv 3) (J2 (qv 2) J3)))))) (JB (Y5 (pv 2) (qv 3) (λf i=>KO Yy Yz YA V4 f i))) Q1)))) (JB (AI (pv 2)))))
def Mp (a:All e):zx e "form_within" 4 ["rows", "most"] (yo e.K Q7):=
 yz a.toAl 16 18 λF=>D3 (N:=["rows", "most", "kept"]) (g:=ZS) F JN λ_ _ _ _ _ _ f=>by
 have m:=a.m;have c:=(kF a).mono (k:=3) ();have b:=a.x_TooMany;unfold ZS;exact(JK (Q9 j3 rfl (.inl rfl) (jt (Z3 c f rfl (J2 (qv 0) (J2 (j0 Qg (qv 1) J8) J3))))) (JK (Q2 (Q8 ve (Qp (x:= "len") Kh rfl (JH m) QU (J2 (qv 2) J3)) (qv 1) (Qn _)) (JB (T5 Tw b rfl rfl (D4 (by decide) (qv 1)))) Q1) (JB (WE (Gn (x:= "sorted") (GS f.units) rfl (JH m) Ap (J2 (qv 2) J3))))))
def Mq (a:All e):zx e "all_of" 5 ["forms", "most"] (xP e.K ya):=
 yz a.toAl 17 14 λF=>D2 (N:=["forms", "most", "told", "form"]) (g:=wA) F JN λ_ _ _ _ _ _ f=>by
 have c:=(tE a).mono (k:=4) ();have b:=(Mp a).mono (k:=4) ();unfold wA;exact(JK (Q9 j3 rfl (.inl rfl) (jt (Xx b K3 f rfl (J2 (Ql (Qa f) (qv 0) J8 (λ_ _=>rfl) (λ_ _=>rfl)) (J2 (qv 1) J3))))) (JK (Q5 D6 rfl (JX (jt (Dg (qv 0) (AY J8) YU YU))) (JV (JU j3 rfl (.inl rfl))) (JB (Q9 j3 rfl (.inl rfl) (jt (Xx b K3 f rfl (J2 (jt (Z3 c f rfl (J2 (qv 2) (J2 (qv 3) J3)))) (J2 (qv 1) J3))))))) (JB (Qb (qv 2)))))
def Mr (a:All e):zx e "first_of" 5 ["forms", "most"] (yo e.K yt):=
 yz a.toAl 18 13 λF=>D3 (N:=["forms", "most", "told", "form"]) (g:=wC) F JN λ_ _ _ _ _ _ c=>by
 have b:=(Mp a).mono (k:=4) ();unfold wC;exact(JK (Ke j3 rfl (.inl rfl) (Xx b K3 c rfl (J2 (Ql (Qa c) (qv 0) J8 (λ_ _=>rfl) (λ_ _=>rfl)) (J2 (qv 1) J3)))) (JK (Q5 D6 rfl (JX (jt (Dg (qv 0) (AY J8) YU YU))) (JV (JU j3 rfl (.inl rfl))) (JB (Y4 [2] (Ke j3 rfl (.inl rfl) (Xx b K3 c rfl (J2 (j0 Qg (qv 2) (qv 3)) (J2 (qv 1) J3))))))) (JB (AI (pv 2)))))
def kG (a:All e):Ca e "shifted" 1 ["row", "wait"] (xl e.K wD):=
 xu a.toAl 19 7 λF=>xf (N:=["row", "wait"]) (g:=vp) F JN λ_ _ _ _ _ _ b=>by
 have m:=a.m;unfold vp;exact(JB (Qb (WC (x:= "tuple") AT rfl (JH m) Ar (J2 (jt (Kf ["thing", "own", "wait"] [none,none,some 1] rfl rfl (JX (qv 0)) (λ_ _ _ _ _=>(K2 [0,1] (Kx rfl (Qe (x5 0 j3) (Qe (x5 1 j3) Kw))))) (λ_ _ _ _ _=>(WA (J2 (qv 0) (J2 (j0 Qg (qv 1) (qv 2)) J3)))))) J3))))
def Ms (a:All e):Ca e "waited" 2 ["form", "wait"] (zL e.K zf):=
 xu a.toAl 20 12 λF=>yW (N:=["form", "wait"]) (g:=vm) F JN λ_ _ _ _ _ _ c=>by
 have b:=(kG a).mono (k:=1) ();unfold vm;exact(JB (WE (Kf ["row", "wait"] [none,some 1] rfl rfl (JX (qv 0)) (λ_ _ _ _ _=>(JV (x5 0 j3))) (λ_ _ _ _ _=>(qf b c rfl (J2 (qv 0) (J2 (qv 1) J3)))))))
def sW (a:All e):zx e "put_into_row" 6 ["row", "forms", "most"] (xP e.K Km):=
 yz a.toAl 21 16 λF=>D2 (N:=["row", "forms", "most"]) (g:=BL) F JN λ_ _ _ _ _ _ f=>by
 have b:=(Mq a).mono (k:=5) ();have c:=(Ms a).mono (k:=5) ();unfold BL;exact(JB (Qb (D1 b K3 f rfl (J2 (jt (Kf ["thing", "wait", "forms"] [none,none,some 1] rfl rfl (JX (qv 0)) (λ_ _ _ _ _=>(K2 [0,1] (Kx rfl (Qe (x5 0 j3) (Qe (x5 1 j3) Kw))))) (λ_ _ _ _ _=>(jt (Z3 c f rfl (J2 (Ql (Qa f) (qv 2) (qv 0) (λ_ _=>rfl) (λ_ _=>rfl)) (J2 (qv 1) J3))))))) (J2 (qv 2) J3)))))
def kC (a:All e):zx e "put_into" 7 ["form", "forms", "most"] (yo e.K xQ):=
 yz a.toAl 22 15 λF=>D3 (N:=["form", "forms", "most"]) (g:=zP) F JN λ_ _ _ _ _ _ f=>by
 have c:=(Mr a).mono (k:=6) ();have b:=(sW a).mono (k:=6) ();unfold zP;exact(JB (WE (Xx c K3 f rfl (J2 (jt (TR ["row", "forms", "most"] [none,some 1,some 2] rfl rfl (JX (qv 0)) (λ_ _ _ _ _=>(JV (x5 0 j3))) (λ_ _ _ _ _ h=>(D1 b (TQ rfl rfl rfl TN h) f rfl (J2 (qv 0) (J2 (qv 1) (J2 (qv 2) J3))))))) (J2 (qv 2) J3)))))
def Mt (a:All e):Ca e "plan_by" 1 ["book", "name"] (xl e.K XC):=
 xu a.toAl 24 22 λF=>xf (N:=["book", "name", "plan"]) (g:=BN) F JN λ_ _ _ _ _ _ f=>by
 have b:=a.k_Book;have c:=a.k_Plan;unfold BN;exact(JK (Q5 PassesOwn.never rfl (JX (QC b (by decide) (qv 0))) (JV (JU j3 rfl (.inl rfl))) (JB (Q2 (Q8 (xT f.units) (QC c (by decide) (qv 2)) (qv 1) (Qn _)) (JB (Qb (qv 2))) Q1))) (JB uX))
def kE (a:All e):Ca e "thing_form" 1 ["thing"] (zL e.K vt):=
 xu a.toAl 25 11 λF=>yW (N:=["thing"]) (g:=vO) F JN λ_ _ _ _ _ _ b=>by
 unfold vO;exact(JB (WE (Kd (J2 (WA (J2 (WA (J2 (qv 0) (J2 J8 J3))) J3)) J3))))
def Mu (a:All e)(c:zx e "forms_knowing" (7+k) ["book", "name", "most", "known"] (Kr e.K (QK j))):zx e "made_form" (7+k+1) ["book", "how", "forms", "most", "known"] (Kr e.K (Qv j)):=
 yz a.toAl 23 27 λF=>ID (N:=["book", "how", "forms", "most", "known"]) (g:=(We (QK j))) F JN λ_ _ _ _ _ _ b=>by
 have f:=(Mq a).mono (k:=(7+k)) ();have h:=(Mr a).mono (k:=(7+k)) ();have i:=(kC a).mono (k:=(7+k)) ();unfold We;exact(DG (IF (Q8 (xT b.units) (qv 1) Q0 (Qn _))) (Wa (Qr (D1 f K3 b rfl (J2 (qv 2) (J2 (qv 3) J3))))) (DG (IF (Q8 (xT b.units) (qv 1) Q0 (Qn _))) (Wa (Qr (jt (Xx h K3 b rfl (J2 (qv 2) (J2 (qv 3) J3)))))) (Kq (m:=none) (Im (sI [4] (CP b.units (qv 1) (qv 4))) (Z8 (tP (Qa b) (qv 4) (qv 1) (Iv I1 (IE c K3 b rfl (J2 (qv 0) (J2 (qv 1) (J2 (qv 3) (J2 (qv 4) J3))))) (Qr (wZ AN J8)) (λ_ _=>rfl)))) Il) (Wa (tS (yI.d i) K3 b rfl (V0 (sH (Qa b) (qv 4) (qv 1) (λ_ _=>rfl)) (V0 (Qr (qv 2)) (V0 (Qr (qv 3)) Bn))))))))
def dt (a:All e)(c:zx e "made_form" (7+k) ["book", "how", "forms", "most", "known"] (Kr e.K (Qv j))):zx e "forms_knowing" (7+k+1) ["book", "name", "most", "known"] (Kr e.K (QK (j+1))):=
 yz a.toAl 26 26 λF=>ID (N:=["book", "name", "most", "known", "plan", "told", "made", "how", "items", "forms"]) (g:=(ZT (Qv j))) F JN λ_ _ _ _ _ _ h=>by
 have m:=a.m;have f:=(Mt a).mono (k:=(7+k)) ();have i:=(kE a).mono (k:=(7+k)) ();have l:=(Ms a).mono (k:=(7+k)) ();have b:=a.k_Plan;unfold ZT;exact(Kq (m:=none) (QV (Q9 j3 rfl (.inl rfl) (kc f h rfl (J2 (qv 0) (J2 (qv 1) J3))))) (Kq (m:=none) (QV (Ke j3 rfl (.inr rfl) (Kf ["thing"] [none] rfl rfl (KY rfl (JH m) (J2 (Qp (x:= "len") Kh rfl (JH m) QU (J2 (QC b (by decide) (qv 4)) J3)) J3)) (λ_ _ _ _ _=>(JV (x5 0 j3))) (λ_ _ _ _ _=>(jt (Z3 i h rfl (J2 (qv 0) J3))))))) (Kq (m:=none) (Ip D6 rfl (JX (QC b (by decide) (qv 4))) (K2 [6,7,8] (Kx rfl (Qe (JU j3 rfl (.inl rfl)) (Qe (JU j3 rfl (.inl rfl)) (Qe (JU j3 rfl (.inl rfl)) Kw))))) (Ux (QV (cN ["thing", "wait", "told"] [none,none,some 5] 2 j3 rfl (.inl rfl) rfl rfl (JX (qv 8)) (λ_ _ _ _ _=>(K2 [0,1] (Kx rfl (Qe (x5 0 j3) (Qe (x5 1 j3) Kw))))) (λ_ _ _ _ _=>(jt (Z3 l h rfl (J2 (Rf (Qa h) (pv 2) (qv 0) (λ_ _=>rfl) (λ_ _=>rfl)) (J2 (qv 1) J3))))))) (Z8 (Ix (pv 5) (IE c K3 h rfl (J2 (qv 0) (J2 (qv 7) (J2 (qv 9) (J2 (qv 2) (J2 (qv 3) J3)))))) (λn o=>KO Yy Yz YA V4 n o))))) (DI (Wa (Qr (qv 5)))))))
theorem Mv (a:All e):∀j,zx e "forms_knowing" (7+2*j) ["book", "name", "most", "known"] (Kr e.K (QK j))
 | 0=>yz a.toAl 26 26 λ_=>ti
 |j+1=>dt (k:=2*j+1) a (Mu (k:=2*j+0) a (Mv a j))
def Mw (a:All e):zx e "forms_knowing" 15 ["book", "name", "most", "known"] (Kr e.K (QK 4)):=Mv a 4
def mQ (a:All e):zx e "made_form" 16 ["book", "how", "forms", "most", "known"] (Kr e.K (Qv 4)):=Mu (k:=8) a (Mw a)
def t9 (a:All e):zx e "forms_of" 16 ["book", "name", "most"] (xP e.K W0):=
 yz a.toAl 27 24 λF=>D2 (N:=["book", "name", "most"]) (g:=BP) F JN λ_ _ _ _ _ _ c=>by
 have b:=(Mw a).mono (k:=15) ();unfold BP;exact(JB (Qb (kb b K3 c rfl (DO (qv 0) (DO (qv 1) (DO (qv 2) (dI (d0:=.dct [] []) PP)))))))
def sO (a:All e):Ca e "_law_told" 17 ["book", "plan"] (xl e.K W1):=
 xu a.toAl 28 44 λF=>xf (N:=["book", "plan", "forms"]) (g:=ZV) F JN λ_ _ _ _ _ _ h=>by
 have f:=(t9 a).mono (k:=16) ();have b:=a.x_TooMany;have c:=a.k_Plan;unfold ZV;exact(JK (Q9 j3 rfl (.inl rfl) Gk) (JK (TD rfl rfl j3 rfl (.inl rfl) f h rfl (J2 (qv 0) (J2 (QC c (by decide) (qv 1)) (J2 J8 J3))) b rfl (λ_=>(JB (Q9 j3 rfl (.inl rfl) Gk)))) (JB (Qb (qv 2)))))
def sY (a:All e):Ca e "_law_turns" 1 ["script", "start", "most"] (zL e.K ZW):=
 xu a.toAl 29 46 λF=>yW (N:=["script", "start", "most", "many"]) (g:=BQ) F JN λ_ _ _ _ _ _ b=>by
 have m:=a.m;unfold BQ;exact(JK (Q9 j3 rfl (.inl rfl) (Qp (x:= "min") (PB rfl) rfl (JH m) Cr (J2 (qv 2) (J2 (Qp (x:= "max") (G3 rfl) rfl (JH m) Ao (J2 J8 (J2 (j0 Wn (Qp (x:= "len") Kh rfl (JH m) QU (J2 (qv 0) J3)) (qv 1)) J3))) J3)))) (JB (WE (Kf ["k", "script", "start", "most"] [none,some 0,some 1,some 2] rfl rfl (KY rfl (JH m) (J2 (qv 3) J3)) (λ_ _ _ _ _=>(JV (x5 0 j3))) (λ_ _ _ _ _=>(Qp (x:= "sum") (fR rfl) rfl (JH m) O1 (J2 (jt (Dg (qv 1) (AY (j0 Qg (qv 2) (qv 0))) YU (AY (qv 3)))) J3)))))))
def Mx (a:All e)(b:Ca e "hours_of" (1+k) ["book", "name", "hours"] (xl e.K (K8 j))):Ca e "told_hour" (1+k+1) ["book", "name", "hours"] (xl e.K (Kv j)):=
 xu a.toAl 30 30 λF=>xf (N:=["book", "name", "hours"]) (g:=(ZX (K8 j))) F JN λ_ _ _ _ _ _ c=>by
 unfold ZX;exact(JB (Qb (Ql (Qa c) (qf b c rfl (J2 (qv 0) (J2 (qv 1) (J2 (qv 2) J3)))) (wZ AN J8) (λ_ _=>rfl) (λ_ _=>rfl))))
def Mz (a:All e)(b:Ca e "told_hour" (1+k) ["book", "name", "hours"] (xl e.K (Kv j))):Ca e "made_hour" (1+k+1) ["book", "how", "hours"] (xl e.K (QP j)):=
 xu a.toAl 31 31 λF=>xf (N:=["book", "how", "hours"]) (g:=(WW (Kv j))) F JN λ_ _ _ _ _ _ c=>by
 have m:=a.m;unfold WW;exact(JK (Q2 (Q8 (xT c.units) (qv 1) Q0 (Qn _)) (JB (Qb (Qp (x:= "max") (G4 rfl) rfl (JH m) Ao (J2 (qv 2) J3)))) Q1) (JK (Q2 (Q8 (xT c.units) (qv 1) Q0 (Qn _)) (JB (Qb (Qp (x:= "min") (G8 rfl) rfl (JH m) Cr (J2 (qv 2) J3)))) Q1) (JB (Qb (qf b c rfl (J2 (qv 0) (J2 (qv 1) (J2 (qv 2) J3))))))))
def tU (a:All e)(c:Ca e "made_hour" (1+k) ["book", "how", "hours"] (xl e.K (QP j))):Ca e "hours_of" (1+k+1) ["book", "name", "hours"] (xl e.K (K8 (j+1))):=
 xu a.toAl 32 29 λF=>xf (N:=["book", "name", "hours", "told", "made", "how", "items"]) (g:=(WX (QP j))) F JN λ_ _ _ _ _ _ h=>by
 have m:=a.m;have f:=(Mt a).mono (k:=(1+k)) ();have b:=a.k_Plan;unfold WX;exact(JK (Ke j3 rfl (.inr rfl) (WD (x:= "list") AS rfl (JH m) Aq (J2 (qv 2) J3))) (JK (Q5 PassesOwn.never rfl (JX (QC b (by decide) (qf f h rfl (J2 (qv 0) (J2 (qv 1) J3))))) (K2 [4,5,6] (Kx rfl (Qe (JU j3 rfl (.inl rfl)) (Qe (JU j3 rfl (.inl rfl)) (Qe (JU j3 rfl (.inl rfl)) Kw))))) (JB (Y5 (pv 3) (AG [3] (qf c h rfl (J2 (qv 0) (J2 (qv 5) (J2 (jt (Kf ["thing", "wait", "told"] [none,none,some 3] rfl rfl (JX (qv 6)) (λ_ _ _ _ _=>(K2 [0,1] (Kx rfl (Qe (x5 0 j3) (Qe (x5 1 j3) Kw))))) (λ_ _ _ _ _=>(j0 Qg (Ql (Qa h) (qv 2) (qv 0) (λ_ _=>rfl) (λ_ _=>rfl)) (qv 1))))) J3))))) (λi l=>KO Yy Yz YA V4 i l)))) (JB (Y4 [3] (Qb (qv 3))))))
theorem M0 (a:All e):∀j,Ca e "hours_of" (1+3*j) ["book", "name", "hours"] (xl e.K (K8 j))
 | 0=>xu a.toAl 32 29 λ_=>gJ
 |j+1=>tU (k:=3*j+2) a (Mz (k:=3*j+1) a (Mx (k:=3*j+0) a (M0 a j)))
def M3 (a:All e):Ca e "hours_of" 13 ["book", "name", "hours"] (xl e.K (K8 4)):=M0 a 4
def M4 (a:All e):Ca e "told_hour" 14 ["book", "name", "hours"] (xl e.K (Kv 4)):=Mx (k:=12) a (M3 a)
def mP (a:All e):Ca e "made_hour" 15 ["book", "how", "hours"] (xl e.K (QP 4)):=Mz (k:=13) a (M4 a)
def sZ (a:All e):Ca e "planned" 3 ["name", "many", "form"] (zL e.K ZY):=
 xu a.toAl 33 25 λF=>yW (N:=["name", "many", "form", "rows"]) (g:=BR) F JN λ_ _ _ _ _ _ c=>by
 have m:=a.m;have b:=Mm a;unfold BR;exact(JK (Rj ["number", "row"] [none,none] j3 rfl (.inl rfl) rfl rfl (RG rfl (JH m) (J2 (qv 2) J3)) (λ_ _ _ _ _=>(K2 [0,1] (Kx rfl (Qe (x5 0 j3) (Qe (x5 1 j3) Kw))))) (λ_ _ _ _ _=>(WA (J2 (D4 (by decide) (qv 0)) (J2 Q0 (J2 (qv 1) J3)))))) (JK (Y5 (pv 3) (WA (J2 Q0 (J2 Q0 (J2 (WC (x:= "tuple") AT rfl (JH m) Ar (J2 (jt (Kf ["number", "many"] [none,some 1] rfl rfl (KY rfl (JH m) (J2 (Qp (x:= "len") Kh rfl (JH m) QU (J2 (qv 2) J3)) J3)) (λ_ _ _ _ _=>(JV (x5 0 j3))) (λ_ _ _ _ _=>(WA (J2 (j0 Qg (qv 1) (qv 0)) (J2 J8 J3)))))) J3)) J3)))) (λf h=>KO Yy Yz YA V4 f h)) (JB (Y4 [3] (WE (Bk b (c.mono ()) rfl (J2 (qv 0) (J2 (jt (Kf ["thing"] [none] rfl rfl (KY rfl (JH m) (J2 (qv 1) J3)) (λ_ _ _ _ _=>(JV (x5 0 j3))) (λ_ _ _ _ _=>(D4 (by decide) (qv 0))))) (J2 (qv 3) J3)))))))))
def sQ (a:All e){f:Addr}{y:FuncData}(F:Fun e.K "law" "law" (wP 47) f y):FnOk e.P e.w e.K e.mg e.base yw 18 f y ["script"] (xl e.K v8):=
 xf (N:=["script", "book", "forms", "others", "k", "cell", "plan", "hours", "other"]) (g:=ZZ) F JN λ_ _ _ _ _ _ b=>by
 have m:=a.m;have o:=(sU a).mono (k:=17) ();have p:=(Mn a).mono (k:=17) ();have q:=(sP a).mono (k:=17) ();have i:=(tf a).mono (k:=17) ();have r:=(tG a).mono (k:=17) ();have s:=(t4 a).mono (k:=17) ();have t:=(sO a).mono (k:=17) ();have u:=(sY a).mono (k:=17) ();have v:=(M3 a).mono (k:=17) ();have w:=(sZ a).mono (k:=17) ();have l:=(M4 a).mono (k:=17) ();have c:=a.k_Book;have h:=a.k_Plan;have n:=Ml a;unfold ZZ
 exact(JK (Q9 j3 rfl (.inr rfl) (jt (Y3 o b rfl (J2 (qv 0) (J2 (j0 Qg J8 (j0 KS (qf p b rfl (J2 (qv 0) (J2 J8 J3))) J8)) (J2 J8 J3)))))) (JK (Ri ["plan", "book"] [none,some 1] j3 rfl (.inl rfl) rfl rfl (JX (QC c (by decide) (qv 1))) (λ_ _ _ _ _=>(JV (x5 0 j3))) (λ_ _ _ _ _=>(qf t b rfl (J2 (qv 1) (J2 (qv 0) J3))))) (JK (Ke j3 rfl (.inl rfl) (Kd J3)) (JK (Q5 PassesOwn.never rfl (KY rfl (JH m) (J2 (Qp (x:= "len") Kh rfl (JH m) QU (J2 (qv 2) J3)) J3)) (JV (JU j3 rfl (.inl rfl))) (JK (Q2 (xZ (AE (Da (Ql (Qa b) (qv 2) (qv 4) (λ_ _=>rfl) (λ_ _=>rfl))) (AD (AC (KQ (Qp (x:= "all") (fS rfl) rfl (JH m) R7 (J2 (jt (Kf ["form"] [none] rfl rfl (JX (Ql (Qa b) (qv 2) (qv 4) (λ_ _=>rfl) (λ_ _=>rfl))) (λ_ _ _ _ _=>(JV (x5 0 j3))) (λ_ _ _ _ _=>(qf r b rfl (J2 (qv 0) J3))))) J3))))))) (JB (Qb Kc)) Q1) (JB (Q2 (xZ (AE (Da (Ql (Qa b) (qv 2) (qv 4) (λ_ _=>rfl) (λ_ _=>rfl))) (AD (KQ (qf s b rfl (J2 (Ql (Qa b) (Ql (Qa b) (qv 2) (qv 4) (λ_ _=>rfl) (λ_ _=>rfl)) (wZ AN J8) (λ_ _=>rfl) (λ_ _=>rfl)) J3)))))) (JB (Y5 (pv 3) (WA (J2 (qv 4) (J2 (jt (Bk n (b.mono ()) rfl (J2 (jt (Kd (J2 (jt (Y3 w b rfl (J2 Q0 (J2 (Qp (x:= "len") Kh rfl (JH m) QU (J2 (QC h (by decide) (Ql (Qa b) (QC c (by decide) (qv 1)) (qv 4) (λ_ _=>rfl) (λ_ _=>rfl))) J3)) (J2 (Ql (Qa b) (Ql (Qa b) (qv 2) (qv 4) (λ_ _=>rfl) (λ_ _=>rfl)) (wZ AN J8) (λ_ _=>rfl) (λ_ _=>rfl)) J3))))) J3))) J3))) J3))) (λz A=>KO Yy Yz YA V4 z A))) Q1)))) (JK (Q5 PassesOwn.never rfl (JX (j0 Qg (jt (Kd (J2 J8 J3))) (jt (Y3 u b rfl (J2 (qv 0) (J2 J8 (J2 J8 J3))))))) (JV (JU j3 rfl (.inl rfl))) (JK (Q5 PassesOwn.never rfl (KY rfl (JH m) (J2 (Qp (x:= "len") Kh rfl (JH m) QU (J2 (qv 2) J3)) J3)) (JV (JU j3 rfl (.inl rfl))) (JK (Q9 j3 rfl (.inl rfl) (Ql (Qa b) (QC c (by decide) (qv 1)) (qv 4) (λ_ _=>rfl) (λ_ _=>rfl))) (JK (Q9 j3 rfl (.inr rfl) (jt (Y3 i b rfl (J2 (qv 5) (J2 (Qp (x:= "len") Kh rfl (JH m) QU (J2 (QC h (by decide) (qv 6)) J3)) J3))))) (JB (Q2 (Da (Ql (Qa b) (qv 2) (qv 4) (λ_ _=>rfl) (λ_ _=>rfl))) (JB (Q2 (Q8 (vd b.units) (qf v b rfl (J2 (qv 1) (J2 (QC h (by decide) (qv 6)) (J2 (qv 7) J3)))) (jt (Kf ["form", "hours"] [none,some 7] rfl rfl (JX (Ql (Qa b) (qv 2) (qv 4) (λ_ _=>rfl) (λ_ _=>rfl))) (λ_ _ _ _ _=>(JV (x5 0 j3))) (λ_ _ _ _ _=>(qf q b rfl (J2 (qv 0) (J2 (qv 1) J3)))))) (Qn _)) (JB (Qb Kc)) Q1)) Q1))))) (JB (Ps PassesOwn.never rfl (pv 3) (K2 [4,8] (Kx rfl (Qe (JU j3 rfl (.inl rfl)) (Qe (JU j3 rfl (.inl rfl)) Kw)))) (JK (Q9 j3 rfl (.inr rfl) (jt (Y3 i b rfl (J2 (qv 5) (J2 (Qp (x:= "len") Kh rfl (JH m) QU (J2 (QC h (by decide) (Ql (Qa b) (QC c (by decide) (qv 1)) (qv 4) (λ_ _=>rfl) (λ_ _=>rfl))) J3)) J3))))) (JB (Q2 (Q8 (vd b.units) (qf l b rfl (J2 (qv 8) (J2 Q0 (J2 (qv 7) J3)))) (qf l b rfl (J2 (qv 1) (J2 (QC h (by decide) (Ql (Qa b) (QC c (by decide) (qv 1)) (qv 4) (λ_ _=>rfl) (λ_ _=>rfl))) (J2 (qv 7) J3)))) (Qn _)) (JB (Qb Kc)) Q1))))))) (JB (Qb Kc)))))))
end
def BS (K:W.Frag):Sp:=λb H Q _=>∃(a:Addr) (ns:Yh),b=[.ref a]/\qp K H a (ns.map V.int)/\ns.length<=63/\∀c,Q (.bl true) c
def df (K:W.Frag)(b:YE)(H:Hp)(Q:VK)(E:XK)(h:BS K b H Q E):xl K v8 b H Q E:=by
 obtain⟨a,ns,rfl,c,f,q⟩:=h;refine⟨H,[.scr ns],jk.refl _,jd.mk (qr.mpr ⟨a,rfl,c⟩) .nil,?_⟩;rw[wf ns f];intro v j g e i;rw[jn.mp i];exact q g
def all_mk {l:W.OpenLaw}{w:World}{K:W.Frag}{h:Heap}{mg:Ye}{N:Addr}(X:K.In h)(G:h.Ns mainGlobals mg)(L:mg "law" = some (.ref N))
 {a:Addr}
 (d:uj K wP tbl) (z:Nn K bl) (dl:vv K "law" (wP 47))
 (b:W.nsIn K mainGlobals "TooMany" = some (some (.ref a))) (i:W.excIn K a [.type "ValueError",.type "Exception",.type "BaseException",.type "object"] "ValueError.__new__" = true)
 (x:Ii K "Book" "Book.__init__" ["plans"] (Ak (wP 21) 0))
 (y:Ii K "Plan" "Plan.__init__" ["name", "givens", "rows"] (Ak (wP 20) 0)):
 ∃O:FuncData,(∀(s:Shared) (v:Value),BindsTo s O ⟨[v],[]⟩ [("script",v)])/\∀c:Heap,K.In c->c.Ns mainGlobals mg->FnOk l.prog w K mg c yw 18 N O ["script"] (BS K):=by
 obtain⟨M,A,E,v8⟩:=dl;cases L.symm.trans (W.mg_of X G E);obtain⟨B,I,F,f,j,m,o,p⟩:=x;obtain⟨C,J,H,g,q,r,t,u⟩:=y;exact⟨A,(by obtain⟨_,_,_,_,_,_,_,_,_,rfl,_,_⟩:=id v8.ex;exact λs v=>.of_eq rfl),λc _ _=>(sQ (e:=⟨l.prog,w,K,mg,c,λn=>[a,B,C].getD n 0,λn=>[].getD n default⟩) ⟨⟨⟨h,X,G⟩,d,IH X G z⟩,⟨b,W.mg_of X G b,i⟩,⟨f,W.mg_of X G f,j,m⟩,⟨_,_,o,p⟩,⟨g,W.mg_of X G g,q,r⟩,⟨_,_,t,u⟩⟩ v8).imp (df K)⟩
def walk {l:W.OpenLaw}{q:Program}{c:Yk}{m:(Ye)->Heap->Prop}{g:World->Heap->Prop}{d:DefRec}{K:Params->W.Frag}(o:l.most=some 63)(e:d.params.defaults=[])
 (p:∀(w:World) (h:Heap),g w h->(K w.params).In h)
 (F:∀(w:World) (mg:Ye) (i:Addr) (h:Heap),(K w.params).In h->h.Ns mainGlobals mg->mg d.name=some (.ref i) ->
  ∃j:FuncData,(∀(s:Shared) (u:Value),BindsTo s j ⟨[u],[]⟩ [("script",u)])/\∀b:Heap,(K w.params).In b->b.Ns mainGlobals mg->FnOk l.prog w (K w.params) mg b yw 18 i j ["script"] (BS (K w.params))):
 W.WalkO q c m g l.row.toRowW d [] (λf r=>PySem.call f r):=
 L2.walk_of (n:=63) (k:=18) (x:= "script") (CX:=λ_=>yw) (sp:=λw=>BS (K w.params)) o (by decide) e ⟨rfl,by decide,by decide⟩ p F (λ_ _ a ns t _ v=>⟨a,ns,rfl,v,t,λ_=>rfl⟩) λ_ _ _ _ _ z=>z
end My
end
open PySem PySem.W PyProof.Rows
def PySem.W.Fast.tw13269673531501779332:=()
def PySem.W.Fast.tw2338983487269602728:=()
def PySem.W.Fast.tw10759937134071775864:=()
def PySem.W.Fast.tw5354690073152035885:=()
def PySem.W.Fast.tw3740120045389979037:=()
def PySem.W.Fast.tw718522740965863982:=()
def PySem.W.Fast.tw557384833889644026:=()
def PySem.W.Fast.tw17627287501578094206:=()
def PySem.W.Fast.tw17740820438547790342:=()
def PySem.W.Fast.tw5391947720816935899:=()
def PySem.W.Fast.tw11935031113090623279:=()
def PySem.W.Fast.tw7693117742048219177:=()
def PySem.W.Fast.tw6305302207364626805:=()
def PySem.W.Fast.tw7650602402980276228:=()
def PySem.W.Fast.tw2665029318743887127:=()
def PySem.W.Fast.tw3934394323996375583:=()
def PySem.W.Fast.tw13653257912652388637:=()
def PySem.W.Fast.tw9234049923089626275:=()
def PySem.W.Fast.tw13889057804334867872:=()
def PySem.W.Fast.tw12731825749109865427:=()
def PySem.W.Fast.tw7043238519376381034:=()
def PySem.W.Fast.tw11464576715256770740:=()
def PySem.W.Fast.tw6613618494748089073:=()
def PySem.W.Fast.tw10729856013403844892:=()
def PySem.W.Fast.tw6761923193680903620:=()
def PySem.W.Fast.tw3350716490152230685:=()
def PySem.W.Fast.tw6810107415720390168:=()
def PySem.W.Fast.tw11274856697184720597:=()
def PySem.W.Fast.tw8532158060339420774:=()
def PySem.W.Fast.tw15595773387939483535:=()
def PySem.W.Fast.tw11821867141124718909:=()
def PySem.W.Fast.tw2603807810207635027:=()
def PySem.W.Fast.tw8183348410913559782:=()
def PySem.W.Fast.tw1761663634108650630:=()
def PySem.W.Fast.tw6193402688242252228:=()
def PySem.W.Fast.tw6938626170647154300:=()
def PySem.W.Fast.tw4760496475679245499:=()
def PySem.W.Fast.tw2206670038577737789:=()
def PySem.W.Fast.tw8221472407621809285:=()
def PySem.W.Fast.tw3215271480804052932:=()
def PySem.W.Fast.tw5049262834139429195:=()
def PySem.W.Fast.tw8068879702865926724:=()
def PySem.W.Fast.tw4601240653595391029:=()
def PySem.W.Fast.tw7041009479629139212:=()
def PySem.W.Fast.tw14795279901814659012:=()
def PySem.W.Fast.tw7920786308986611083:=()
def PySem.W.Fast.tw1079973625079772716:=()
def PySem.W.Fast.tw1955122716379211742:=()
def PySem.W.Fast.tw9577971320279029003:=()
def PySem.W.Fast.tw952431860394366633:=()
def PySem.W.Fast.tw12684327433666325073:=()
def PySem.W.Fast.tw4363556890470691105:=()
def PySem.W.Fast.tw6211700963828466779:=()
def PySem.W.Fast.tw12799234309573437649:=()
def PySem.W.Fast.tw8054679202232331589:=()
def PySem.W.Fast.tw5730082230223189967:=()
def PySem.W.Fast.tw15049638985454045295:=()
def PySem.W.Fast.tw457647606169553527:=()
def PySem.W.Fast.tw12007508954177153235:=()
def PySem.W.Fast.tw6627136113609733585:=()
def PySem.W.Fast.tw14191878657863893610:=()
def PySem.W.Fast.tw5940435821457722345:=()
def PySem.W.Fast.tw8068020604327094829:=()
def PySem.W.Fast.tw4268691319202783506:=()
def PySem.W.Fast.tw12368275872460682443:=()
def PySem.W.Fast.tw11618741445295825464:=()
def PySem.W.Fast.tw2832569647957192420:=()
def PySem.W.Fast.tw11172257661290383728:=()
def PySem.W.Fast.tw7583615129171401958:=()
def PySem.W.Fast.tw15035094464455410448:=()
def PySem.W.Fast.tw4672653272304888651:=()
def PySem.W.Fast.tw15577276426862532300:=()
def PySem.W.Fast.tw8682720143472447324:=()
def PySem.W.Fast.tw4746857863787140853:=()
def PySem.W.Fast.tw17771783064201794751:=()
def PySem.W.Fast.tw1361317026243173383:=()
def PySem.W.Fast.tw11102045686447888503:=()
def PySem.W.Fast.tw11072163031028127768:=()
def PySem.W.Fast.tw229795620233718001:=()
def PySem.W.Fast.tw14060028115483015783:=()
def PySem.W.Fast.tw7021462194021160165:=()
def PySem.W.Fast.tw501801251781867868:=()
def PySem.W.Fast.tw10930262502330107992:=()
def PySem.W.Fast.tw2336899093532030328:=()
def PySem.W.Fast.tw14290341619152236442:=()
def PySem.W.Fast.tw4651266412119066351:=()
def PySem.W.Fast.tw6862704406248698150:=()
def PySem.W.Fast.tw81746250361679847:=()
def PySem.W.Fast.tw16192245385517975548:=()
def PySem.W.Fast.tw10540596793874805980:=()
def PySem.W.Fast.tw839994861731998970:=()
def PySem.W.Fast.tw15289034096748294589:=()
def PySem.W.Fast.tw17643226771240694311:=()
def PySem.W.Fast.tw3683880225899050312:=()
def PySem.W.Fast.tw6802273686970842643:=()
def PySem.W.Fast.tw5817275680475382507:=()
def PySem.W.Fast.tw2217395467977710945:=()
def PySem.W.Fast.tw267241601321347934:=()
def PySem.W.Fast.tw10596478346421300098:=()
def PySem.W.Fast.tw16132266294722264404:=()
def PySem.W.Fast.tw16044046745579685055:=()
def PySem.W.Fast.tw14141053020238589375:=()
def PySem.W.Fast.tw5815233925756312254:=()
def PySem.W.Fast.tw17556865103549481311:=()
def PySem.W.Fast.tw1215509986506496853:=()
def PySem.W.Fast.tw932164551895029774:=()
def PySem.W.Fast.tw1373867976707534716:=()
def PySem.W.Fast.tw2744795402224720832:=()
def PySem.W.Fast.tw7355605514548153496:=()
def PySem.W.Fast.tw12586871643750473684:=()
def PySem.W.Fast.tw7634673769586273867:=()
def PySem.W.Fast.tw16668585415953095801:=()
def PySem.W.Fast.tw14257297144203427809:=()
def PySem.W.Fast.tw8858299661965484308:=()
def PySem.W.Fast.tw17472081400718309517:=()
def PySem.W.Fast.tw9904178748536000251:=()
def PySem.W.Fast.tw6139061890737085238:=()
def PySem.W.Fast.tw675983455840056680:=()
def PySem.W.Fast.tw5022000315204572305:=()
def PySem.W.Fast.tw10626415246650332811:=()
def PySem.W.Fast.tw17774006806037694107:=()
def PySem.W.Fast.tw5569697222528094051:=()
def PySem.W.Fast.tw6514816321360227281:=()
def PySem.W.Fast.tw5877460792668079234:=()
def PySem.W.Fast.tw14823530337802662758:=()
def PySem.W.Fast.tw16062922901774270827:=()
def PySem.W.Fast.tw13202762993380887268:=()
def PySem.W.Fast.tw16744796290635122709:=()
def PySem.W.Fast.tw4609232038611159934:=()
def PySem.W.Fast.tw8722829641656429350:=()
def PySem.W.Fast.tw10750209945840826992:=()
def PySem.W.Fast.tw11853307384533091610:=()
def PySem.W.Fast.tw6922887190212363214:=()
def PySem.W.Fast.tw3586897596180163284:=()
def PySem.W.Fast.tw6011755966371058339:=()
def PySem.W.Fast.tw3967192991940789817:=()
def PySem.W.Fast.tw1814064051120683702:=()
def PySem.W.Fast.tw8466301099484646545:=()
def PySem.W.Fast.tw3077550948886716852:=()
def PySem.W.Fast.tw11872328551561565589:=()
def PySem.W.Fast.tw12352025561918103456:=()
def PySem.W.Fast.tw10902470047182144797:=()
def PySem.W.Fast.tw7635070490266509432:=()
def PySem.W.Fast.tw3627503314513078974:=()
def PySem.W.Fast.tw13643939680063556124:=()
def PySem.W.Fast.tw6175817500234426840:=()
def PySem.W.Fast.tw17292009071504372503:=()
def PySem.W.Fast.tw15511196672961500373:=()
def PySem.W.Fast.tw9373255128736048719:=()
def PySem.W.Fast.tw15416888255809291072:=()
def PySem.W.Fast.tw7596462525879330711:=()
def PySem.W.Fast.tw15058650362590485327:=()
def PySem.W.Fast.tw13401247430228739382:=()
def PySem.W.Fast.tw11463150478828248646:=()
def PySem.W.Fast.tw4087038112834661205:=()
def PySem.W.Fast.tw4738870845760213581:=()
def PySem.W.Fast.tw14300999362628539786:=()
def PySem.W.Fast.tw1787065721615692259:=()
def PySem.W.Fast.tw6911645271812009972:=()
def PySem.W.Fast.tw8145107105287841816:=()
def PySem.W.Fast.tw6870938844771099658:=()
def PySem.W.Fast.tw11764517994663488837:=()
def PySem.W.Fast.tw2294981885684037622:=()
def PySem.W.Fast.tw8489141844763843354:=()
def PySem.W.Fast.tw7850692786515845167:=()
def PySem.W.Fast.tw17177306906069747561:=()
def PySem.W.Fast.tw16258671864748756015:=()
def PySem.W.Fast.tw7616835041668419268:=()
def PySem.W.Fast.tw11008358908801252895:=()
def PySem.W.Fast.tw3318817829166056983:=()
def PySem.W.Fast.tw17665229318436050437:=()
def PySem.W.Fast.tw5556534874531245341:=()
def PySem.W.Fast.tw9640893716309354310:=()
def PySem.W.Fast.tw14157814804264526353:=()
def PySem.W.Fast.tw18371289565141984215:=()
def PySem.W.Fast.tw16263919288406800877:=()
def PySem.W.Fast.tw1460088687139157843:=()
def PySem.W.Fast.tw14391810933386207134:=()
def PySem.W.Fast.tw10535592756426139890:=()
def PySem.W.Fast.tw6685650548204826105:=()
def PySem.W.Fast.tw14663759559062694386:=()
def PySem.W.Fast.tw15879784516761545932:=()
def PySem.W.Fast.tw1155765554095247742:=()
def PySem.W.Fast.tw15038069498631207309:=()
def PySem.W.Fast.tw3539577465330047772:=()
def PySem.W.Fast.tw11574976974240003598:=()
def PySem.W.Fast.tw7417847233022981520:=()
def PySem.W.Fast.tw4913096278827130968:=()
def PySem.W.Fast.tw2564322170721194043:=()
def PySem.W.Fast.tw16347528505667955035:=()
def PySem.W.Fast.tw14696215144015354237:=()
def PySem.W.Fast.tw10693251664331998117:=()
def PySem.W.Fast.tw15201638797259596906:=()
def PySem.W.Fast.tw8607337575486446916:=()
def PySem.W.Fast.tw17784445319484068723:=()
def PySem.W.Fast.tw10105306726998561864:=()
def PySem.W.Fast.tw492216006311630800:=()
def PySem.W.Fast.tw6220612111096843087:=()
def PySem.W.Fast.tw15713025680711564392:=()
def PySem.W.Fast.tw5671788624245217676:=()
set_option maxRecDepth 100000 in
set_option maxHeartbeats 0 in
theorem PySem.Challenge.cw_allfirst_k52_whole_form_and_run_holds : PySem.Challenge.rw_allfirst_k52_whole_form_and_run.Holds := by
 w_on;o_law;k_head;(case hw=>w_witness2)
 k_fill
 refine My.walk (l:=PySem.Challenge.rw_allfirst_k52_whole_form_and_run) rfl rfl (fun w h Y=>PySem.W.kIn_of Y) ?F
 case F =>
  intro w mg fa h KX G hmg;refine' My.all_mk KX G hmg ?d ?z ?dl ?a_TooMany ?q_TooMany ?l_Book ?l_Plan
  (case d =>
   repeat (apply L2.DL.dfs_cons;focus (refine' ⟨_,_,?a,L2.fun_mk ?l ?c ?k⟩;(case a=>k_is);(case l=>k_is);(case c=>k_is);(case k=>k_is)))
   exact True.intro)
  (case z =>
   repeat (apply L2.DL.nn_cons;focus k_is)
   exact True.intro)
  (case dl=>refine' ⟨_,_,?a,L2.fun_mk ?l ?c ?k⟩;(case a=>k_is);(case l=>k_is);(case c=>k_is);(case k=>k_is))
  (case a_TooMany=>k_is)
  (case q_TooMany=>k_exc)
  (case l_Book=>refine' ⟨_,_,_,?ua,⟨?up,?uh,?uo,?us⟩,List.forall_mem_cons.mpr ⟨?uf0,List.forall_mem_nil _⟩,⟨?um,?ui,?un,?ue⟩,L2.fun_mk ?ul ?uc ?uk⟩;(case ua=>k_is);(case ui=>k_is);(case ul=>k_is);(case uc=>k_is);(case uk=>k_is);(case up=>k_is);(case uh=>k_is);(case uo=>k_is);(case us=>k_is);(case um=>k_is);(case un=>k_is);(case ue=>k_is);(case uf0=>show PySem.W.findIn _ _ _=_;k_is))
  (case l_Plan=>refine' ⟨_,_,_,?ua,⟨?up,?uh,?uo,?us⟩,List.forall_mem_cons.mpr ⟨?uf0,List.forall_mem_cons.mpr ⟨?uf1,List.forall_mem_cons.mpr ⟨?uf2,List.forall_mem_nil _⟩⟩⟩,⟨?um,?ui,?un,?ue⟩,L2.fun_mk ?ul ?uc ?uk⟩;(case ua=>k_is);(case ui=>k_is);(case ul=>k_is);(case uc=>k_is);(case uk=>k_is);(case up=>k_is);(case uh=>k_is);(case uo=>k_is);(case us=>k_is);(case um=>k_is);(case un=>k_is);(case ue=>k_is);(case uf0=>show PySem.W.findIn _ _ _=_;k_is);(case uf1=>show PySem.W.findIn _ _ _=_;k_is);(case uf2=>show PySem.W.findIn _ _ _=_;k_is))
